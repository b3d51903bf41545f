import Derived.Test.YtbanjoflgoiegabGreatPf24
import Derived.Test.YtbanjoflgoiegabGreatPf22
import Derived.Deep.CutRange
import Derived.Deep.CutBlock
import Derived.ChangeKeysEq
namespace Go.Proofs.YtbanjoflgoiegabGreat
open Go.RowKit

def Nv.st (E:Nat→Nat→Int) (n:Nat) (c:Nat):Bool:=decide (0≤En.first (En.atQ E ((c % 24:Nat):Int) ((c / 24:Nat):Int)) n)

def Nv.stTo (E:Nat→Nat→Int) (n:Nat):Nat→Nat→Bool
 | 0,_=>false
 | k+1,c=>if Nv.num (E k 3) (E k 4)=(c:Int) then decide (0≤En.first (En.atQ E (E k 3) (E k 4)) n) else Nv.stTo E n k c

theorem Nv.num_at {x y:Int} {c:Nat} (h:Nv.num x y=(c:Int)):x=((c % 24:Nat):Int)∧y=((c / 24:Nat):Int)∧c<384:=by
 unfold Nv.num at h
 split at h
 ·rename_i hin
  rw [Gr.inB_iff] at hin
  omega
 ·omega

theorem Nv.num_of {c:Nat} (hc:c<384):Nv.num ((c % 24:Nat):Int) ((c / 24:Nat):Int)=(c:Int):=by
 unfold Nv.num
 rw [if_pos (by rw [Gr.inB_iff];omega)]
 omega

theorem Nv.stTo_eq (E:Nat→Nat→Int) (n:Nat) (c:Nat):∀k,(Nv.stTo E n k c=true→Nv.st E n c=true)∧((∃j,j<k∧Nv.num (E j 3) (E j 4)=(c:Int))→Nv.stTo E n k c=Nv.st E n c)
  | 0=>⟨fun h=>by simp [Nv.stTo] at h,fun ⟨j,h,_⟩=>by omega⟩
  | k + 1 => by
      obtain ⟨h1,h2⟩:=Nv.stTo_eq E n c k
      unfold Nv.stTo
      by_cases e:Nv.num (E k 3) (E k 4)=(c:Int)
      · rw [if_pos e]
        obtain ⟨ex,ey,_⟩:=Nv.num_at e
        have:decide (0≤En.first (En.atQ E (E k 3) (E k 4)) n)=Nv.st E n c:=by unfold Nv.st;rw [←ex,←ey]
        rw [this]
        exact ⟨id,fun _=>rfl⟩
      · rw [if_neg e]
        refine ⟨h1,fun ⟨j,hj,he⟩=>h2 ⟨j,?_,he⟩⟩
        by_cases ej:j=k
        · subst ej;exact absurd he e
        · omega

theorem Nv.stTo_all (E:Nat→Nat→Int) (n:Nat) (c:Nat) (hc:c<384):Nv.stTo E n n c=Nv.st E n c:=by
 obtain ⟨h1,h2⟩:=Nv.stTo_eq E n c n
 by_cases h:Nv.st E n c=true
 ·refine h2 ?_
  unfold Nv.st at h
  rw [decide_eq_true_eq] at h
  rcases En.first_cases (En.atQ E ((c % 24:Nat):Int) ((c / 24:Nat):Int)) n with ⟨h0,_⟩ | ⟨k,hk,_,hq,_⟩
  ·omega
  ·refine ⟨k,hk,?_⟩
   simp only [En.atQ,Bool.and_eq_true,decide_eq_true_eq] at hq
   rw [hq.2.1,hq.2.2]
   exact Nv.num_of hc
 ·have hn:¬Nv.stTo E n n c=true:=fun e=>h (h1 e)
  rw [Bool.not_eq_true] at h hn
  rw [h,hn]

def Nv.Lst (w:World) (a:Option Addr) (n c:Nat) (E:Nat→Nat→Int):Prop:=n≤32∧n≤c∧(n=0∨∃b,a=some ⟨b,0,none⟩∧Ents w b n E)

def Nv.Words (n:Nat) (E:Nat→Nat→Int):Prop:=∀i,i<n→(-9223372036854775808≤E i 3∧E i 3≤9223372036854775807)∧(-9223372036854775808≤E i 4∧E i 4≤9223372036854775807)

theorem info_bools:(Tryz.prog.info? 4).map (fun i=>(i.zero,i.size,i.bytes))=some (some (.bool false),1,1):=by kernel_rfl

theorem Nv.st_more {E:Nat→Nat→Int} {n k m:Nat} (hm:Nv.num (E k 3) (E k 4)=(m:Int)) (j:Nat):(if j=m then Value.bool (decide (0≤En.first (En.atQ E (E k 3) (E k 4)) n)) else .bool (Nv.stTo E n k j))=.bool (Nv.stTo E n (k+1) j):=by
 show _=Value.bool (if Nv.num (E k 3) (E k 4)=(j:Int) then _ else _)
 rw [hm]
 by_cases e:j=m
 ·rw [if_pos e,if_pos (by omega)]
 ·rw [if_neg e,if_neg (by omega)]

theorem Nv.st_same {E:Nat→Nat→Int} {n k:Nat} (hm:Nv.num (E k 3) (E k 4)=-1) (j:Nat):Nv.stTo E n k j=Nv.stTo E n (k+1) j:=by
 show _=if Nv.num (E k 3) (E k 4)=(j:Int) then _ else _
 rw [hm,if_neg (by omega)]

theorem Nv.num_cases (x y:Int):Nv.num x y=-1∨∃m:Nat,m<384∧Nv.num x y=(m:Int):=by
 unfold Nv.num
 by_cases h:Gr.inB x y=true
 ·rw [if_pos h]
  rw [Gr.inB_iff] at h
  exact .inr ⟨(y*24+x).toNat,by omega,by omega⟩
 ·rw [if_neg h];exact .inl rfl

set_option maxRecDepth 8000 in
set_option maxHeartbeats 1600000 in
theorem taken_any (a:Option Addr) (n c:Nat) (E:Nat→Nat→Int) (w:World) (hL:Nv.Lst w a n c E) (hW:Nv.Words n E) :
  Calls Tryz.prog 118 #[.slice a n c] w (Made w 4 384 (Bols (Nv.st E n))):=by
 have hn:=hL.1
 have hL':=hide hL
 have hW':=hide hW
 obtain ⟨i0,hi,hz0,hz1,hz2⟩:=info_parts info_bools
 clear hL hW
 go_enter Tryz.func118,Tryz.ntmps118
 obtain ⟨G,hG⟩:∃G,G=w.heap.size:=⟨_,rfl⟩
 have hG':=hide hG
 clear hG
 go_wp2_with (at_make;refine wpList_make_full _ rfl _ _ 88 rfl G 4 i0 (.bool false) 1 Tryz.underlying88 hi hz0 hz1 .i64 .i64 _ _ 384 rfl rfl rfl rfl ?q3 ?q4 (Nat.le_of_eq (uh hG')) ?_)
 case q3=>rw [hz2];omega
 case q4=>unfold maxLen;omega
 intro w2 hown hgrow
 rw [←uh hG'] at hown ⊢
 have hA:=hide (Arr.zero hown)
 have hB0:Below G w w2:=(Below.refl _ _).grown hgrow (Nat.le_of_eq (uh hG')) (by intro k hk;cases hk)
 clear hown hgrow hi hz0 hz1 hz2
 go_wp2_with fail
 go_loopw [10] (fun i wr=>∃k:Nat,k≤n∧i=.int .i64 (k:Int)∧Arr wr G 4 384 (Bols (Nv.stTo E n k))∧Below G w wr) (fun i _=>40 - (intOf i).toNat)
 case atStart=>exact ⟨0,Nat.zero_le _,rfl,uh hA,hB0⟩
 case round =>
  obtain ⟨k,hk,rfl,hA1,hB1⟩:=hrel
  have hA2:=hide hA1
  have hB2:=hide hB1
  clear hA1 hA hB0 hB1
  by_cases hlt:k<n
  ·obtain ⟨_,hnc,h0 | ⟨b,rfl,hE⟩⟩:=uh hL'
   ·omega
   have hgr:w.grownBy wr none:=below_grown (by rw [←uh hG'];exact uh hB2)
   obtain ⟨u0,u1,u2,u3,u4,u5,u6,u7,u8,u9,u10⟩:=(hE.on hgr).row hlt
   have hE':=hide (hE.on hgr)
   have hlt':(k:Int)<(n:Int):=by omega
   have HL:=hide hlt
   have hww:=hide (uh hW' k hlt)
   obtain ⟨X,hX⟩:∃X,X=E k 3:=⟨_,rfl⟩
   obtain ⟨Y,hY⟩:∃Y,Y=E k 4:=⟨_,rfl⟩
   rw [←hX] at u3
   rw [←hY] at u4
   rw [←hX,←hY] at hww
   have hX':=hide hX
   have hY':=hide hY
   clear hE hgr hlt hX hY
   go_wp2_with fail
   refine (point_any _ _ _).mono ?_
   rintro e w1 ⟨rfl,rfl⟩
   go_wp2_with fail
   obtain ⟨⟨x1,x2⟩,y1,y2⟩:=uh hww
   refine (numberAt_any X Y _ x1 x2 y1 y2).mono ?_
   rintro e w1 ⟨rfl,rfl⟩
   clear x1 x2 y1 y2
   clear u0 u1 u2 u3 u4 u5 u6 u7 u8 u9 u10
   rcases Nv.num_cases X Y with hm | ⟨m,hm,hme⟩
   ·rw [hm]
    have hs:Hid (∀j,Nv.stTo E n k j=Nv.stTo E n (k+1) j):=fun j=>Nv.st_same (by rw [←uh hX',←uh hY'];exact hm) j
    clear hm
    go_wp2
    go_roundw
    case rel=>exact ⟨k+1,by have:=uh HL;omega,by go_num,((uh hA2).alloc _).congr fun j _=>by show Value.bool _=Value.bool _;rw [uh hs j],(uh hB2).alloc (Nat.le_of_lt (uh hA2).lt) _⟩
    case measure=>have:=uh HL;simp [intOf];omega
   ·rw [hme]
    have hs:Hid (∀j,(if j=m then Value.bool (decide (0≤En.first (En.atQ E X Y) n)) else .bool (Nv.stTo E n k j))=.bool (Nv.stTo E n (k+1) j)):=fun j=>by
     rw [uh hX',uh hY']
     exact Nv.st_more (by rw [←uh hX',←uh hY'];exact hme) j
    have hm':(m:Int)<384:=by omega
    have HM:=hide hm
    clear hm hme
    go_wp2_with fail
    refine (entAt_any b n c E X Y _ ((uh hE').on (World.grownBy_alloc _ _ _)) hnc).mono ?_
    rintro e w1 ⟨rfl,hg⟩
    have hg1:=gtr (World.grownBy_alloc _ _ _) hg
    have hA3:=hide ((uh hA2).grown hg1 (by simp))
    have hB3:Hid (Below G w w1):=(uh hB2).trans (none_below hg1 |>.mono (Nat.le_of_lt (uh hA2).lt))
    have hcc:=(uh hA3).cell (uh HM)
    have hff:=(uh hA3).free m
    generalize En.first (En.atQ E X Y) n=r at hs
    clear hg hg1
    go_wp2
    go_roundw
    case rel=>exact ⟨k+1,by have:=uh HL;omega,by go_num,((uh hA3).store m _).congr fun j _=>uh hs j,(uh hB3).setCell (Nat.le_refl _) _⟩
    case measure=>have:=uh HL;simp [intOf];omega
  ·have hge:¬(k:Int)<(n:Int):=by omega
   obtain rfl:k=n:=by omega
   have hA3:=hide ((uh hA2).congr (G:=Bols (Nv.st E k)) fun j hj=>by show Value.bool _=Value.bool _;rw [Nv.stTo_all E k j hj])
   clear hA2 hk hlt
   go_wp2
   go_ret
   exact ⟨G,rfl,Nat.le_of_eq (uh hG').symm,uh hA3,by rw [←uh hG'];exact uh hB2⟩


open Go.RowKit

def Nv.blk (E:Nat→Nat→Int) (n m:Nat) (c:Nat):Bool:=if c=m then false else Nv.st E n c

def Nv.wayFrom (q:Nat→Bool):Nat→Nat→Int
 | 0,_=>0
 | m+1,k=>if q k=true then (k:Int) else Nv.wayFrom q m (k+1)

theorem Nv.way_hit {q:Nat→Bool}:∀(m k i:Nat),(∀j,i≤j→j<k→q j=false)→q k=true→i≤k→k<i+m→Nv.wayFrom q m i=(k:Int)
  | 0,k,i,_,_,h1,h2=>by omega
  | m + 1, k, i, hno, hk, h1, h2 => by
      unfold Nv.wayFrom
      by_cases e:i=k
      · rw [e,if_pos hk]
      · rw [if_neg (by rw [hno i (Nat.le_refl _) (by omega)];simp),Nv.way_hit m k (i+1) (fun j hj1 hj2=>hno j (by omega) hj2) hk (by omega) (by omega)]

theorem Nv.way_none {q:Nat→Bool}:∀(m i:Nat),(∀j,i≤j→j<i+m→q j=false)→Nv.wayFrom q m i=0
  | 0,_,_=>rfl
  | m + 1, i, hno => by
      unfold Nv.wayFrom
      rw [if_neg (by rw [hno i (Nat.le_refl _) (by omega)];simp),Nv.way_none m (i+1) (fun j hj1 hj2=>hno j (by omega) (by omega))]

def Nv.next (m k:Nat):Int:=Nv.num (((m % 24:Nat):Int)+(Fx.way (k:Int)).1) (((m / 24:Nat):Int)+(Fx.way (k:Int)).2)

def Nv.may (F:Nat→Int) (st:Nat→Bool) (m k:Nat):Bool:=decide (0≤Nv.next m k) && (decide (F (Nv.next m k).toNat=F m - 1) && !(st (Nv.next m k).toNat))

def Nv.step (F:Nat→Int) (st:Nat→Bool) (m:Nat):Int:=if F m<1 then 0 else Nv.wayFrom (Nv.may F st m) 4 1

theorem Nv.next_cases (m k:Nat):Nv.next m k=-1∨∃p:Nat,p<384∧Nv.next m k=(p:Int):=Nv.num_cases _ _

theorem Nv.next_ne {m k p:Nat} (hk:1≤k) (hk4:k≤4) (h:Nv.next m k=(p:Int)):p≠m:=by
 obtain ⟨e1,e2,_⟩:=Nv.num_at h
 rintro rfl
 rcases (show k=1∨k=2∨k=3∨k=4 by omega) with rfl | rfl | rfl | rfl
 ·rw [show (Fx.way ((1:Nat):Int)).2=-1 from rfl] at e2;omega
 ·rw [show (Fx.way ((2:Nat):Int)).1=1 from rfl] at e1;omega
 ·rw [show (Fx.way ((3:Nat):Int)).2=1 from rfl] at e2;omega
 ·rw [show (Fx.way ((4:Nat):Int)).1=-1 from rfl] at e1;omega

theorem Nv.may_out {F:Nat→Int} {st:Nat→Bool} {m k:Nat} (h:Nv.next m k=-1):Nv.may F st m k=false:=by
 unfold Nv.may
 rw [h]
 rfl

theorem Nv.may_in {F:Nat→Int} {st:Nat→Bool} {m k p:Nat} (h:Nv.next m k=(p:Int)):Nv.may F st m k=(decide (F p=F m - 1) && !(st p)):=by
 unfold Nv.may
 rw [h,Int.toNat_natCast,decide_eq_true (by omega),Bool.true_and]

def Nv.IsToward (f t:Nat→Int) (tlen:Nat) (E:Nat→Nat→Int) (n:Nat) (x y v:Int):Prop :=
 (Nv.num x y=-1∧v=0)∨∃(m:Nat) (F:Nat→Int),Nv.num x y=(m:Int)∧Gr.IsField (fun i=>Gr.openB f 384 (Nv.blk E n m) i=true) (Gr.tgt f t tlen) F∧v=Nv.step F (Nv.st E n) m

def Nv.SaysToward (w:World) (f t:Nat→Int) (tlen:Nat) (E:Nat→Nat→Int) (n:Nat) (x y:Int) (e:Ending) (w':World):Prop:=∃v,Nv.IsToward f t tlen E n x y v∧e=.returned (.int .i64 v)∧w.grownBy w' none

set_option maxRecDepth 8000 in
set_option maxHeartbeats 1600000 in
theorem navToward_any (ca a ta:Option Addr) (cc n c tlen tc:Nat) (f t:Nat→Int) (E:Nat→Nat→Int) (x y:Int) (w:World)
  (hc:Vec w.heap.size w ca 384 (Byts f)) (hf:∀i,0≤f i∧f i≤255) (hL:Nv.Lst w a n c E) (hW:Nv.Words n E) (ht:Vec w.heap.size w ta tlen (Ints t)) (htb:∀i,-9223372036854775808≤t i∧t i≤9223372036854775807)
  (x1:-9223372036854775808≤x) (x2:x≤9223372036854775807) (y1:-9223372036854775808≤y) (y2:y≤9223372036854775807) :
  Calls Tryz.prog 174 #[.slice ca 384 cc,.slice a n c,.int .i64 x,.int .i64 y,.slice ta tlen tc] w (Nv.SaysToward w f t tlen E n x y):=by
 have hc':=hide hc
 have hf':=hide hf
 have hL':=hide hL
 have hW':=hide hW
 have ht':=hide ht
 have htb':=hide htb
 have cn:=hide (fun w'=>numberAt_any x y w' x1 x2 y1 y2)
 clear hc hf hL hW ht htb
 go_enter Tryz.func174,Tryz.ntmps174
 go_wp2_with fail
 refine (point_any _ _ _).mono ?_
 rintro e w1 ⟨rfl,rfl⟩
 go_wp2_with fail
 refine (uh cn _).mono ?_
 rintro e w1 ⟨rfl,rfl⟩
 rcases Nv.num_cases x y with hm | ⟨m,hm,hme⟩
 ·rw [hm]
  have he:Hid (Nv.IsToward f t tlen E n x y 0):=.inl ⟨hm,rfl⟩
  clear hm x1 x2 y1 y2
  go_wp2
  go_ret
  exact ⟨0,uh he,rfl,World.grownBy.refl _ _⟩
 rw [hme]
 have hme':=hide hme
 obtain ⟨ex,ey,_⟩:=Nv.num_at hme
 have hm':(m:Int)<384:=by omega
 have HM:=hide hm
 have ex':=hide ex
 have ey':=hide ey
 clear hm hme x1 x2 y1 y2 cn ex ey
 go_wp2_with fail
 refine (taken_any a n c E _ (uh hL') (uh hW')).mono ?_
 rintro e w2 ⟨g,rfl,hg,hA,hB⟩
 have hcc:=hA.cell (uh HM)
 have hff:=hA.free m
 obtain ⟨w3,hw3⟩:∃w3,w3=w2.setCell ⟨g,m,none⟩ (.bool false):=⟨_,rfl⟩
 have hA3:Arr w3 g 4 384 (Bols (Nv.blk E n m)):=by
  rw [hw3]
  refine (hA.store m (.bool false)).congr fun j _=>?_
  show _=Value.bool (if j=m then false else Nv.st E n j)
  by_cases e:j=m
  ·rw [if_pos e,if_pos e]
  ·rw [if_neg e,if_neg e];rfl
 have hB3:Below w1.heap.size w1 w3:=by rw [hw3];exact hB.setCell hg _
 have hw3':=hide hw3
 have hA3':=hide hA3
 have hB3':=hide hB3
 have cF:=hide (field_any ca (some ⟨g,0,none⟩) ta 384 tlen cc 384 tc f t (Nv.blk E n m) w3 (((uh hc').kept hB3).mono hB3.size) (uh hf') (hA3.vec _ hA3.lt (by unfold maxLen;omega)) (((uh ht').kept hB3).mono hB3.size) (uh htb'))
 clear hA hB hA3 hB3 hw3
 go_wp2_with fail
 rw [←uh hw3']
 refine (uh cF).mono ?_
 rintro e w4 ⟨F,⟨g2,rfl,hg2,hA4,hB4⟩,hF⟩
 have hstep:Nv.IsToward f t tlen E n x y (Nv.step F (Nv.st E n) m):=.inr ⟨m,F,uh hme',hF,rfl⟩
 have hgw:w1.grownBy w4 none:=below_grown ((uh hB3').trans (hB4.mono (uh hB3').size))
 have hAb:=(uh hA3').kept hB4 (uh hA3').lt
 have hhi:F m≤400:=by
  by_cases h0:0≤F m
  ·have:=fieldHigh hF (F m).toNat m (uh HM) (by omega)
   omega
  ·omega
 have hAb':=hide hAb
 have hA4':=hide hA4
 have hgw':=hide hgw
 have hst':=hide hstep
 have hc4:w4.cell? ⟨g2,m,none⟩=some (.int .i64 (F m)):=hA4.cell (uh HM)
 have rA:=hide (Fl.rep_int x (by rw [uh ex'];omega) (by rw [uh ex'];omega))
 have rB:=hide (Fl.rep_int y (by rw [uh ey'];omega) (by rw [uh ey'];omega))
 generalize floatOfInt FloatKind.f64 x=A at *
 generalize floatOfInt FloatKind.f64 y=B at *
 clear hAb hA4 hgw hstep hg2 hB4 cF hcc hff hw3' hA3' hB3' hF hme'
 by_cases hlo:F m<1
 ·have hr:Hid (Nv.IsToward f t tlen E n x y 0):=by
   have h:=uh hst'
   rwa [show Nv.step F (Nv.st E n) m=0 from if_pos hlo] at h
  go_wp2
  go_ret
  exact ⟨0,uh hr,rfl,uh hgw'⟩
 have hr:Hid (Nv.IsToward f t tlen E n x y (Nv.wayFrom (Nv.may F (Nv.st E n) m) 4 1)):=by
  have h:=uh hst'
  rwa [show Nv.step F (Nv.st E n) m=Nv.wayFrom (Nv.may F (Nv.st E n) m) 4 1 from if_neg hlo] at h
 clear hst'
 go_wp2_with fail
 go_loopw [15] (fun i wr=>∃k:Nat,1≤k∧k≤5∧i=.int .i64 (k:Int)∧(∀j:Nat,1≤j→j<k→Nv.may F (Nv.st E n) m j=false)∧w4.grownBy wr none) (fun i _=>5 - (intOf i).toNat)
 case atStart=>exact ⟨1,by omega,by omega,rfl,fun j h1 h2=>by omega,World.grownBy.refl _ _⟩
 case round =>
  obtain ⟨k,h1,h5,rfl,hno,hgr⟩:=hrel
  have hno':=hide hno
  have hgr':=hide hgr
  have hc5:wr.cell? ⟨g2,m,none⟩=some (.int .i64 (F m)):=((uh hA4').grown hgr (by simp)).cell (uh HM)
  clear hno hgr hc4
  by_cases hlt:k≤4
  ·have hlt':(k:Int)≤4:=by omega
   have HL:=hide hlt
   have H1:=hide h1
   have wb:=hide (Fx.way_bd (k:Int))
   clear hlt h1 h5
   go_wp2_with fail
   refine (step_rep _ _).mono ?_
   rintro e wx ⟨a2,b2,rfl,ra,rb,rfl⟩
   obtain ⟨d1,d2,d3,d4⟩:=uh wb
   obtain ⟨ra3,ea,Ra⟩:=Fl.rep_add (uh rA) ra (by rw [uh ex'];omega) (by rw [uh ex'];omega)
   obtain ⟨rb3,eb,Rb⟩:=Fl.rep_add (uh rB) rb (by rw [uh ey'];omega) (by rw [uh ey'];omega)
   have hsum:=fun wq:World=>run_complex_sum (P:=Tryz.prog) wq .add (.inl rfl) 141 .f64 A B a2 b2 ra3 rb3 (by unfold cSumBits;rw [ea,eb];rfl)
   have cN:=hide (fun wq=>navNumber_any ra3 rb3 _ _ wq (Fl.std_rep Ra) (Fl.std_rep Rb))
   have hnx:Hid (Nv.num (x+(Fx.way (k:Int)).1) (y+(Fx.way (k:Int)).2)=Nv.next m k):=by show _=Nv.num _ _;rw [uh ex',uh ey']
   rw [uh hnx] at cN
   clear ra rb ea eb Ra Rb d1 d2 d3 d4
   go_wp2_with fail
   refine (uh cN _).mono ?_
   rintro e wy ⟨rfl,rfl⟩
   clear hsum cN hnx wb
   have hup:Hid (Nv.may F (Nv.st E n) m k=false→∀j:Nat,1≤j→j<k+1→Nv.may F (Nv.st E n) m j=false):=fun h j h1 h2=>by
    by_cases e:j=k
    ·rw [e];exact h
    ·exact uh hno' j h1 (by omega)
   rcases Nv.next_cases m k with hn | ⟨p,hp,hn⟩
   ·rw [hn]
    have hno2:=hide (uh hup (Nv.may_out hn))
    clear hn
    go_wp2_with fail
    go_quiet (fail)
    go_wp2
    go_roundw
    case rel=>exact ⟨k+1,by have:=uh H1;omega,by have:=uh HL;omega,by go_num,uh hno2,gdw (uh hgr') _⟩
    case measure=>have:=uh HL;simp [intOf];omega
   ·rw [hn]
    have hmay:=Nv.may_in (F:=F) (st:=Nv.st E n) hn
    have hpm:=Nv.next_ne (uh H1) (uh HL) hn
    have hc6:wy.cell? ⟨g2,p,none⟩=some (.int .i64 (F p)):=((uh hA4').grown (uh hgr') (by simp)).cell hp
    have hc7:wy.cell? ⟨g,p,none⟩=some (.bool (Nv.st E n p)):=by
     have h:wy.cell? ⟨g,p,none⟩=some (.bool (if p=m then false else Nv.st E n p)):=((uh hAb').grown (uh hgr') (by simp)).cell hp
     rwa [if_neg hpm] at h
    have hp':(p:Int)<384:=by omega
    by_cases hq:F p=F m - 1
    ·have hq':(F p == F m - 1)=true:=by rw [beq_iff_eq];exact hq
     rw [decide_eq_true hq,Bool.true_and] at hmay
     clear hn hpm hq hp
     by_cases hs:Nv.st E n p=true
     ·rw [hs] at hc7 hmay
      have hno2:=hide (uh hup hmay)
      clear hs hmay
      go_wp2_with fail
      go_quiet (fail)
      go_wp2
      go_roundw
      case rel=>exact ⟨k+1,by have:=uh H1;omega,by have:=uh HL;omega,by go_num,uh hno2,gdw (uh hgr') _⟩
      case measure=>have:=uh HL;simp [intOf];omega
     ·rw [Bool.not_eq_true] at hs
      rw [hs] at hc7 hmay
      have hr2:Hid (Nv.IsToward f t tlen E n x y (k:Int)):=by
       have h:=uh hr
       rwa [Nv.way_hit 4 k 1 (uh hno') hmay (uh H1) (by have:=uh HL;omega)] at h
      clear hs hmay
      go_wp2_with fail
      go_quiet (fail)
      go_wp2
      go_ret
      exact ⟨_,uh hr2,rfl,gtr (uh hgw') (gdw (uh hgr') _)⟩
    ·have hq':(F p == F m - 1)=false:=by rw [beq_eq_false_iff_ne];exact hq
     rw [decide_eq_false hq,Bool.false_and] at hmay
     have hno2:=hide (uh hup hmay)
     clear hn hpm hq hp hmay hc7
     go_wp2_with fail
     go_quiet (fail)
     go_wp2
     go_roundw
     case rel=>exact ⟨k+1,by have:=uh H1;omega,by have:=uh HL;omega,by go_num,uh hno2,gdw (uh hgr') _⟩
     case measure=>have:=uh HL;simp [intOf];omega
  ·have hge:¬(k:Int)≤4:=by omega
   have hr2:Hid (Nv.IsToward f t tlen E n x y 0):=by
    have h:=uh hr
    rwa [Nv.way_none 4 1 fun j h1 h2=>uh hno' j h1 (by omega)] at h
   go_wp2
   go_ret
   exact ⟨0,uh hr2,rfl,gtr (uh hgw') (uh hgr')⟩


open Go.RowKit

def Nv.best (F:Nat→Int) (st:Nat→Bool):Nat→Int
 | 0=>-1
 | k+1=>if 0≤F k∧st k=false∧(Nv.best F st k<0∨F k<F (Nv.best F st k).toNat) then (k:Int) else Nv.best F st k

theorem Nv.best_cases (F:Nat→Int) (st:Nat→Bool):∀k,Nv.best F st k=-1∨∃p:Nat,p<k∧Nv.best F st k=(p:Int)
  | 0=>.inl rfl
  | k + 1 => by
      unfold Nv.best
      split
      · exact .inr ⟨k,by omega,rfl⟩
      · rcases Nv.best_cases F st k with h | ⟨p,hp,h⟩
        · exact .inl h
        · exact .inr ⟨p,by omega,h⟩

theorem Nv.best_skip {F:Nat→Int} {st:Nat→Bool} {k:Nat} (h:F k<0∨st k=true):Nv.best F st (k+1)=Nv.best F st k:=by
 show (if _ then _ else _)=_
 rw [if_neg]
 rintro ⟨h1,h2,_⟩
 rcases h with h | h
 ·omega
 ·rw [h] at h2;cases h2

theorem Nv.best_first {F:Nat→Int} {st:Nat→Bool} {k:Nat} (h1:0≤F k) (h2:st k=false) (h:Nv.best F st k=-1):Nv.best F st (k+1)=(k:Int):=by
 show (if _ then _ else _)=_
 rw [if_pos ⟨h1,h2,.inl (by omega)⟩]

theorem Nv.best_less {F:Nat→Int} {st:Nat→Bool} {k p:Nat} (h1:0≤F k) (h2:st k=false) (h:Nv.best F st k=(p:Int)) (hlt:F k<F p):Nv.best F st (k+1)=(k:Int):=by
 show (if _ then _ else _)=_
 rw [if_pos ⟨h1,h2,.inr (by rw [h,Int.toNat_natCast];exact hlt)⟩]

theorem Nv.best_more {F:Nat→Int} {st:Nat→Bool} {k p:Nat} (h:Nv.best F st k=(p:Int)) (hlt:¬F k<F p):Nv.best F st (k+1)=Nv.best F st k:=by
 show (if _ then _ else _)=_
 rw [if_neg]
 rintro ⟨_,_,h3 | h3⟩
 ·omega
 ·rw [h,Int.toNat_natCast] at h3;exact hlt h3

def Nv.IsSpot (f:Nat→Int) (E:Nat→Nat→Int) (n:Nat) (x y v:Int):Prop :=
 ∃F:Nat→Int,Gr.IsField (fun i=>Gr.openB f 0 (fun _=>false) i=true) (Gr.tgt f (fun _=>Nv.num x y) 1) F∧v=Nv.best F (Nv.st E n) 384

def Nv.SaysSpot (w:World) (f:Nat→Int) (E:Nat→Nat→Int) (n:Nat) (x y:Int) (e:Ending) (w':World):Prop:=∃v,Nv.IsSpot f E n x y v∧e=.returned (.int .i64 v)∧w.grownBy w' none

theorem Nv.num_bd (x y:Int):-1≤Nv.num x y∧Nv.num x y<384:=by
 rcases Nv.num_cases x y with h | ⟨p,hp,h⟩ <;> omega

theorem Nv.one_row (w:World) (v:Int) (T:TypeId):Vec (w.alloc (.cells #[.int .i64 v] T)).heap.size (w.alloc (.cells #[.int .i64 v] T)) (some ⟨w.heap.size,0,none⟩) 1 (Ints fun _=>v) :=
 ⟨by unfold maxLen;omega,.inr ⟨_,0,rfl,by simp,fun i hi=>by
  obtain rfl:i=0:=by omega
  exact cell_boxed w _ T _ rfl⟩⟩

set_option maxRecDepth 8000 in
set_option maxHeartbeats 1600000 in
theorem navSpot_any (ca a:Option Addr) (cc n c:Nat) (f:Nat→Int) (E:Nat→Nat→Int) (x y:Int) (w:World)
  (hc:Vec w.heap.size w ca 384 (Byts f)) (hf:∀i,0≤f i∧f i≤255) (hL:Nv.Lst w a n c E) (hW:Nv.Words n E)
  (x1:-9223372036854775808≤x) (x2:x≤9223372036854775807) (y1:-9223372036854775808≤y) (y2:y≤9223372036854775807) :
  Calls Tryz.prog 89 #[.slice ca 384 cc,.slice a n c,.int .i64 x,.int .i64 y] w (Nv.SaysSpot w f E n x y):=by
 have hc':=hide hc
 have hf':=hide hf
 have hL':=hide hL
 have hW':=hide hW
 have cn:=hide (fun w'=>numberAt_any x y w' x1 x2 y1 y2)
 have hv:=hide (Nv.num_bd x y)
 have hs0:Hid (∀F,Gr.IsField (fun i=>Gr.openB f 0 (fun _=>false) i=true) (Gr.tgt f (fun _=>Nv.num x y) 1) F→Nv.IsSpot f E n x y (Nv.best F (Nv.st E n) 384)):=fun F h=>⟨F,h,rfl⟩
 generalize Nv.num x y=v at *
 clear hc hf hL hW x1 x2 y1 y2
 go_enter Tryz.func89,Tryz.ntmps89
 go_wp2_with fail
 refine (taken_any a n c E _ (uh hL') (uh hW')).mono ?_
 rintro e w2 ⟨g,rfl,hg,hA,hB⟩
 have hA':=hide hA
 have hB':=hide hB
 clear hA hB
 go_wp2_with fail
 refine (point_any _ _ _).mono ?_
 rintro e w1 ⟨rfl,rfl⟩
 go_wp2_with fail
 refine (uh cn _).mono ?_
 rintro e w1 ⟨rfl,rfl⟩
 go_wp2_with fail
 obtain ⟨w3,hw3⟩:∃w3,w3=w1.alloc (.cells #[.int .i64 v] 3):=⟨_,rfl⟩
 have hB3:Below w.heap.size w w3:=by rw [hw3];exact (uh hB').alloc (uh hB').size _
 have hA3:Arr w3 g 4 384 (Bols (Nv.st E n)):=by rw [hw3];exact (uh hA').alloc _
 have hV:Vec w3.heap.size w3 (some ⟨w1.heap.size,0,none⟩) 1 (Ints fun _=>v):=by rw [hw3];exact Nv.one_row w1 v _
 obtain ⟨v1,v2⟩:=uh hv
 rw [←hw3]
 refine (field_any ca none (some ⟨w1.heap.size,0,none⟩) 0 1 cc 0 1 f (fun _=>v) (fun _=>false) w3 (((uh hc').kept hB3).mono hB3.size) (uh hf') ⟨by unfold maxLen;omega,.inl rfl⟩ hV (fun _=>⟨by omega,by omega⟩)).mono ?_
 rintro e w4 ⟨F,⟨g2,rfl,hg2,hA4,hB4⟩,hF⟩
 have hspot:=hide (uh hs0 F hF)
 have hgw':=hide (below_grown (hB3.trans (hB4.mono hB3.size)))
 have hAb':=hide (hA3.kept hB4 hA3.lt)
 have hA4':=hide hA4
 clear hA4 hB4 hA3 hV hB3 hw3 hF hs0 v1 v2 cn hA' hB' hg2
 go_wp2_with fail
 go_loop [11,25] (fun s i=>∃k:Nat,k≤384∧s=.int .i64 (Nv.best F (Nv.st E n) k)∧i=.int .i64 (k:Int)) (fun _ i=>384 - (intOf i).toNat)
 case atStart=>exact ⟨0,by omega,rfl,rfl⟩
 case round =>
  obtain ⟨k,hk,rfl,rfl⟩:=hrel
  by_cases hlt:k<384
  ·have hlt':(k:Int)<384:=by omega
   have HL:=hide hlt
   have hck:w4.cell? ⟨g2,k,none⟩=some (.int .i64 (F k)):=(uh hA4').cell hlt
   have hcs:w4.cell? ⟨g,k,none⟩=some (.bool (Nv.st E n k)):=(uh hAb').cell hlt
   clear hlt hk
   by_cases h1:F k<0
   ·have hb:=hide (Nv.best_skip (F:=F) (st:=Nv.st E n) (k:=k) (.inl h1))
    generalize Nv.best F (Nv.st E n) k=r at hb
    go_wp2
    go_round
    case rel=>exact ⟨k+1,by have:=uh HL;omega,by rw [uh hb],by go_num⟩
    case measure=>have:=uh HL;simp [intOf];omega
   ·by_cases h2:Nv.st E n k=true
    ·have hb:=hide (Nv.best_skip (F:=F) (st:=Nv.st E n) (k:=k) (.inr h2))
     rw [h2] at hcs
     generalize Nv.best F (Nv.st E n) k=r at hb
     clear h2
     go_wp2
     go_round
     case rel=>exact ⟨k+1,by have:=uh HL;omega,by rw [uh hb],by go_num⟩
     case measure=>have:=uh HL;simp [intOf];omega
    ·rw [Bool.not_eq_true] at h2
     rw [h2] at hcs
     rcases Nv.best_cases F (Nv.st E n) k with e | ⟨p,hp,e⟩
     ·have hb:=hide (Nv.best_first (by omega) h2 e)
      rw [e]
      clear h2 e
      go_wp2
      go_round
      case rel=>exact ⟨k+1,by have:=uh HL;omega,by rw [uh hb],by go_num⟩
      case measure=>have:=uh HL;simp [intOf];omega
     ·have hcp:w4.cell? ⟨g2,p,none⟩=some (.int .i64 (F p)):=(uh hA4').cell (by have:=uh HL;omega)
      have hp':(p:Int)<384:=by have:=uh HL;omega
      by_cases h3:F k<F p
      ·have hb:=hide (Nv.best_less (by omega) h2 e h3)
       rw [e]
       clear h2 e hp
       go_wp2
       go_round
       case rel=>exact ⟨k+1,by have:=uh HL;omega,by rw [uh hb],by go_num⟩
       case measure=>have:=uh HL;simp [intOf];omega
      ·have hb:=hide ((Nv.best_more (st:=Nv.st E n) e h3).trans e)
       rw [e]
       clear h2 e hp
       go_wp2
       go_round
       case rel=>exact ⟨k+1,by have:=uh HL;omega,by rw [uh hb],by go_num⟩
       case measure=>have:=uh HL;simp [intOf];omega
  ·have hge:¬(k:Int)<384:=by omega
   obtain rfl:k=384:=by omega
   generalize Nv.best F (Nv.st E n) 384=r at hspot
   go_wp2
   go_ret
   exact ⟨_,uh hspot,rfl,uh hgw'⟩


open Go.RowKit

def Gd.wornK (I:Nat→Nat→Int) (seat kd:Int):Nat→Bool
 | 0=>false
 | k+1=>Gd.wornK I seat kd k || (decide (I k 1=3∧I k 2=seat) && decide (I k 0=kd))

def Gd.three (b:Bool):Int:=if b=true then 3 else 0
def Gd.two (b:Bool):Int:=if b=true then 2 else 0

set_option maxHeartbeats 6400000 in
theorem bonus_any (s g c:Nat→Int) (E I:Nat→Nat→Int) (gC gE gI cC cE cI:Nat) (seat:Int) (w:World) (hL:Gd.Lists w gC gE gI c E I) :
  Calls Tryz.prog 141 #[.agg (Gd.world s gC gE gI cC cE cI g),.int .i64 seat] w (Says w (.tuple #[.int .i64 (Gd.three (Gd.wornK I seat 2 40)),.int .i64 (Gd.two (Gd.wornK I seat 3 40))])):=by
 obtain ⟨w0,hw0⟩:∃w0,w0=w.alloc (.cells (Gd.world s gC gE gI cC cE cI g) 28):=⟨_,rfl⟩
 have hbox:Lie w0 w.heap.size 28 11 (Gd.box s gC gE gI cC cE cI g):=by rw [hw0];exact (Arr.world (heap_alloc_new w _)).lie
 have hg0:w.grownBy w0 none:=by rw [hw0];exact World.grownBy_alloc _ _ _
 have hL0:=hide (hL.on hg0)
 obtain ⟨B,hB⟩:∃B,w.heap.size=B:=⟨_,rfl⟩
 rw [hB] at hbox
 have hbox':=hide hbox
 have hg0':=hide hg0
 obtain ⟨_,_,_,_,_,_,b6,_⟩:=hbox.eleven
 clear hL hbox hg0
 unfold Gd.world at hw0 ⊢
 go_enter Tryz.func141,Tryz.ntmps141
 go_upto_region 1 with fail
 rw [←hw0]
 clear hw0 hB
 go_wp2_with fail
 go_loopw [6,7,13] (fun a d i wr=>∃k:Nat,k≤40∧i=.int .i64 (k:Int)∧a=.int .i64 (Gd.three (Gd.wornK I seat 2 k))∧d=.int .i64 (Gd.two (Gd.wornK I seat 3 k))∧w0.grownBy wr none) (fun _ _ i _=>200 - (intOf i).toNat)
 case atStart=>exact ⟨0,by omega,rfl,rfl,rfl,World.grownBy.refl _ _⟩
 case round =>
  obtain ⟨k,hk,rfl,rfl,rfl,hgr⟩:=hrel
  have hgr':=hide hgr
  clear hgr b6
  by_cases hlt:k<40
  ·obtain ⟨u0,u1,u2,u3⟩:=((uh hL0).on (uh hgr')).its.row hlt
   have hlt':(k:Int)<40:=by omega
   have HL:=hide hlt
   have hnx:=hide (fun (o:Obj)=>gal (uh hgr') o)
   have e2:=hide (show Gd.wornK I seat 2 (k+1)=(Gd.wornK I seat 2 k || (decide (I k 1=3∧I k 2=seat) && decide (I k 0=2))) from rfl)
   have e3:=hide (show Gd.wornK I seat 3 (k+1)=(Gd.wornK I seat 3 k || (decide (I k 1=3∧I k 2=seat) && decide (I k 0=3))) from rfl)
   clear hlt
   by_cases h1:I k 1=3
   ·by_cases h2:I k 2=seat
    ·by_cases k2:I k 0=2
     ·have r2:Hid (Gd.wornK I seat 2 (k+1)=true):=by show _=_;rw [uh e2];simp [h1,h2,k2]
      have r3:Hid (Gd.wornK I seat 3 (k+1)=Gd.wornK I seat 3 k):=by show _=_;rw [uh e3];simp [k2]
      clear e2 e3
      go_wp2
      go_roundw
      case rel=>exact ⟨k+1,by have:=uh HL;omega,by go_num,by rw [uh r2];rfl,by rw [uh r3],uh hnx _⟩
      case measure=>simp [intOf];omega
     ·have m2:(I k 0 == 2)=false:=by simp [k2]
      have r2:Hid (Gd.wornK I seat 2 (k+1)=Gd.wornK I seat 2 k):=by show _=_;rw [uh e2];simp [k2]
      by_cases k3:I k 0=3
      ·have r3:Hid (Gd.wornK I seat 3 (k+1)=true):=by show _=_;rw [uh e3];simp [h1,h2,k3]
       clear e2 e3
       go_wp2
       go_roundw
       case rel=>exact ⟨k+1,by have:=uh HL;omega,by go_num,by rw [uh r2],by rw [uh r3];rfl,uh hnx _⟩
       case measure=>simp [intOf];omega
      ·have m3:(I k 0 == 3)=false:=by simp [k3]
       have r3:Hid (Gd.wornK I seat 3 (k+1)=Gd.wornK I seat 3 k):=by show _=_;rw [uh e3];simp [k3]
       clear e2 e3
       go_wp2
       go_roundw
       case rel=>exact ⟨k+1,by have:=uh HL;omega,by go_num,by rw [uh r2],by rw [uh r3],uh hnx _⟩
       case measure=>simp [intOf];omega
    ·have m2:(I k 2 == seat)=false:=by simp [h2]
     have r2:Hid (Gd.wornK I seat 2 (k+1)=Gd.wornK I seat 2 k):=by show _=_;rw [uh e2];simp [h2]
     have r3:Hid (Gd.wornK I seat 3 (k+1)=Gd.wornK I seat 3 k):=by show _=_;rw [uh e3];simp [h2]
     clear e2 e3
     go_wp2
     go_roundw
     case rel=>exact ⟨k+1,by have:=uh HL;omega,by go_num,by rw [uh r2],by rw [uh r3],uh hnx _⟩
     case measure=>simp [intOf];omega
   ·have m1:(I k 1 == 3)=false:=by simp [h1]
    have r2:Hid (Gd.wornK I seat 2 (k+1)=Gd.wornK I seat 2 k):=by show _=_;rw [uh e2];simp [h1]
    have r3:Hid (Gd.wornK I seat 3 (k+1)=Gd.wornK I seat 3 k):=by show _=_;rw [uh e3];simp [h1]
    clear e2 e3
    go_wp2
    go_roundw
    case rel=>exact ⟨k+1,by have:=uh HL;omega,by go_num,by rw [uh r2],by rw [uh r3],uh hnx _⟩
    case measure=>simp [intOf];omega
  ·have hge:¬(k:Int)<40:=by omega
   have hfin:=hide (gtr (uh hg0') (uh hgr'))
   obtain rfl:k=40:=by omega
   go_wp2
   refine bodyPost_ret (v:=.tuple #[.int .i64 (Gd.three (Gd.wornK I seat 2 40)),.int .i64 (Gd.two (Gd.wornK I seat 3 40))]) (by simp [results,Tryz.results141,go_sem]) rfl ?_
   exact ⟨rfl,uh hfin⟩


open Go.RowKit

def Md.Fine (E:Nat→Nat→Int):Prop:=∀k,k<32→E k 0≠0→0≤E k 3∧E k 3<24∧0≤E k 4∧E k 4<16∧0≤E k 6∧E k 6≤20

def Md.who (E:Nat→Nat→Int) (x y:Int) (d:Nat):Int:=En.first (En.atQ E (x+(Fx.way (d:Int)).1) (y+(Fx.way (d:Int)).2)) 32

def Md.foe (E:Nat→Nat→Int) (x y:Int) (d:Nat):Bool:=decide (0≤Md.who E x y d) && !(decide (E (Md.who E x y d).toNat 0=1))

def Md.robotAt (c:Nat→Int) (E I:Nat→Nat→Int) (seat:Int) (k:Nat) (v:Int):Prop :=
 if E k 5≤E k 6 / 3∧0≤Gd.has I 40 seat 1 1 then v=6
 else if Nv.wayFrom (Md.foe E (E k 3) (E k 4)) 4 1≠0 then v=Nv.wayFrom (Md.foe E (E k 3) (E k 4)) 4 1
 else if 0≤Gd.find I 40 1 (E k 3) (E k 4)∧(I (Gd.find I 40 1 (E k 3) (E k 4)).toNat 0=4∨0≤Gd.slot I 40 seat) then v=5
 else if Gr.at 384 c (E k 3) (E k 4)=4 then v=9
 else Nv.IsToward c (fun _=>Gr.find 384 c 4) 1 E 32 (E k 3) (E k 4) v

def Md.IsRobot (c:Nat→Int) (E I:Nat→Nat→Int) (seat v:Int):Prop :=
 if Gd.hero E seat<0 then v=0 else Md.robotAt c E I seat (Gd.hero E seat).toNat v

theorem Md.hero_row {E:Nat→Nat→Int} {seat:Int} (h:¬Gd.hero E seat<0):∃k:Nat,k<32∧Gd.hero E seat=(k:Int)∧E k 0=1∧E k 2=seat:=by
 unfold Gd.hero at h ⊢
 rcases En.first_cases (En.heroQ E seat) 32 with ⟨he,_⟩ | ⟨k,hk,he,hq,_⟩
 ·omega
 ·simp only [En.heroQ,Bool.and_eq_true,decide_eq_true_eq] at hq
  exact ⟨k,hk,he,hq.1,hq.2⟩

theorem Md.who_row {E:Nat→Nat→Int} {x y:Int} {d:Nat}:Md.who E x y d=-1∨∃j:Nat,j<32∧Md.who E x y d=(j:Int):=by
 unfold Md.who
 rcases En.first_cases (En.atQ E (x+(Fx.way (d:Int)).1) (y+(Fx.way (d:Int)).2)) 32 with ⟨he,_⟩ | ⟨j,hj,he,_⟩
 ·exact .inl he
 ·exact .inr ⟨j,hj,he⟩

theorem Md.way_small (d:Nat):-1≤(Fx.way (d:Int)).1∧(Fx.way (d:Int)).1≤1∧-1≤(Fx.way (d:Int)).2∧(Fx.way (d:Int)).2≤1:=by
 unfold Fx.way
 split
 ·simp
 ·split
  ·simp
  ·split
   ·simp
   ·split <;> simp


open Go.RowKit

theorem Lie.copied (x:World) (e:Nat→Int) (T:TypeId):Lie (x.alloc (.cells (En.cells e) T)) x.heap.size T 11 (Ints e) :=
 Lie.congr (m:=11) (Arr.lit (heap_alloc_new x (.cells (En.cells e) T))).lie fun j hj=>by
  rcases (show j=0∨j=1∨j=2∨j=3∨j=4∨j=5∨j=6∨j=7∨j=8∨j=9∨j=10 by omega) with rfl | rfl | rfl | rfl | rfl | rfl | rfl | rfl | rfl | rfl | rfl <;> rfl

structure Gd.Shown (w x:World) (B gC gE gI cC cE cI:Nat) (s g c:Nat→Int) (E I:Nat→Nat→Int):Prop where
 box:Lie x B 28 11 (Gd.box s gC gE gI cC cE cI g)
 lists:Gd.Lists x gC gE gI c E I
 grown:w.grownBy x none

theorem Gd.Shown.on {w x y:World} {B gC gE gI cC cE cI:Nat} {s g c:Nat→Int} {E I:Nat→Nat→Int} (h:Gd.Shown w x B gC gE gI cC cE cI s g c E I) (hg:x.grownBy y none):Gd.Shown w y B gC gE gI cC cE cI s g c E I :=
 ⟨h.box.on hg,h.lists.on hg,gtr h.grown hg⟩

def Md.Says (w:World) (p:Int→Prop) (e:Ending) (w':World):Prop:=∃v,p v∧e=.returned (.int .i64 v)∧w.grownBy w' none

theorem Md.find_bd (f:Nat→Int) (kind:Int):∀(n k:Nat),-1≤Gr.findFrom f kind n k∧Gr.findFrom f kind n k≤(k:Int)+n
 | 0,k=>by unfold Gr.findFrom;omega
 | n+1,k=>by
  unfold Gr.findFrom
  have:=Md.find_bd f kind n (k+1)
  split <;> omega


open Go.RowKit

def Md.Takes (c:Nat→Int) (x y hx hy r b a:Int):Prop:=r≤1536∧Gr.Sees 384 c x y hx hy∧(a<0∨r<b)

def Md.Seen (c:Nat→Int) (E:Nat→Nat→Int) (x y:Int):Nat→Int→Int→Prop
  | 0,b,a=>b=0∧a=-1
  | t + 1, b, a => ∃ b0 a0, Md.Seen c E x y t b0 a0 ∧
      ((Gd.hero E (t : Int) < 0 ∧ b = b0 ∧ a = a0) ∨
       ∃ (h : Nat) (r : Int), Gd.hero E (t : Int) = (h : Int) ∧ Fx.isRoot (((E h 3 - x) * (E h 3 - x) + (E h 4 - y) * (E h 4 - y)) * 65536) r ∧
         ((Md.Takes c x y (E h 3) (E h 4) r b0 a0∧b=r∧a=(h:Int))∨(¬Md.Takes c x y (E h 3) (E h 4) r b0 a0∧b=b0∧a=a0)))

def Md.stray (s c:Nat→Int) (E:Nat→Nat→Int) (k:Nat):Int :=
 if (1≤Dc.die 8 (s 0) [s 1,(k:Int),90]∧Dc.die 8 (s 0) [s 1,(k:Int),90]≤4)∧Gr.walkB (Gr.at 384 c (E k 3+(Fx.way (Dc.die 8 (s 0) [s 1,(k:Int),90])).1) (E k 4+(Fx.way (Dc.die 8 (s 0) [s 1,(k:Int),90])).2))=true∧En.first (En.atQ E (E k 3+(Fx.way (Dc.die 8 (s 0) [s 1,(k:Int),90])).1) (E k 4+(Fx.way (Dc.die 8 (s 0) [s 1,(k:Int),90])).2)) 32<0
 then Dc.die 8 (s 0) [s 1,(k:Int),90] else 0

def Md.monsterAt (s c:Nat→Int) (E:Nat→Nat→Int) (k:Nat) (v:Int):Prop :=
  ∃b a,Md.Seen c E (E k 3) (E k 4) 4 b a ∧
    ((a < 0 ∧ v = Md.stray s c E k) ∨
     ∃ h : Nat, a = (h : Int) ∧
       if 0 < Nv.beside (E h 3 - E k 3) (E h 4 - E k 4) then v = Nv.beside (E h 3 - E k 3) (E h 4 - E k 4)
       else Nv.IsToward c (fun _=>E h 4*24+E h 3) 1 E 32 (E k 3) (E k 4) v)

def Md.IsMonster (s c:Nat→Int) (E:Nat→Nat→Int) (row v:Int):Prop :=
 if (row<0∨32≤row)∨E row.toNat 0=0∨E row.toNat 0=1 then v=0 else Md.monsterAt s c E row.toNat v


open Go.RowKit

def Gd.fitsB (c:Nat→Int) (k p a b:Int):Bool :=
 decide (1≤k∧k≤4) && (if p=1 then Gr.walkB (Gr.at 384 c a b) else if p=2 then Gd.isSeat a && (decide (0≤b) && (decide (b<4) && decide (k≠4)))
  else if p=3 then Gd.isSeat a && (Gd.serves k 7 && decide (b=k - 2)) else if p=4 then decide (0≤a) && (decide (a<3) && (decide (b=0) && decide (k≠4))) else false)

theorem Gd.serves_7 (k:Int):Gd.serves k 7=(decide (k=2) || decide (k=3)):=by
 unfold Gd.serves
 rw [if_neg (by decide),if_pos rfl]

theorem Gd.at_out {c:Nat→Int} {x y:Int} (h:Gr.inB x y=false):Gr.at 384 c x y=0:=by
 unfold Gr.at
 rw [if_neg (by rw [h];simp)]

theorem Gd.fits_iff (c r:Nat→Int):Gd.fitsB c (r 0) (r 1) (r 2) (r 3)=true↔Gd.Placed c r:=by
 unfold Gd.fitsB Gd.Placed
 rw [Bool.and_eq_true,decide_eq_true_eq]
 constructor
 ·rintro ⟨⟨h1,h2⟩,h⟩
  refine ⟨h1,h2,?_⟩
  by_cases p1:r 1=1
  ·rw [if_pos p1] at h
   refine .inl ⟨p1,?_,h⟩
   cases hin:Gr.inB (r 2) (r 3) with
   | true=>rfl
   | false=>rw [Gd.at_out hin] at h;simp [Gr.walkB] at h
  ·rw [if_neg p1] at h
   by_cases p2:r 1=2
   ·rw [if_pos p2] at h
    simp only [Gd.isSeat,Bool.and_eq_true,decide_eq_true_eq] at h
    exact .inr (.inl ⟨p2,h.1.1,h.1.2,h.2.1,h.2.2.1,h.2.2.2⟩)
   ·rw [if_neg p2] at h
    by_cases p3:r 1=3
    ·rw [if_pos p3] at h
     simp only [Gd.isSeat,Gd.serves_7,Bool.and_eq_true,Bool.or_eq_true,decide_eq_true_eq] at h
     obtain ⟨⟨s0,s1⟩,hs,hb⟩:=h
     exact .inr (.inr (.inl ⟨p3,s0,s1,by omega⟩))
    ·rw [if_neg p3] at h
     by_cases p4:r 1=4
     ·rw [if_pos p4] at h
      simp only [Bool.and_eq_true,decide_eq_true_eq] at h
      exact .inr (.inr (.inr ⟨p4,h.1,h.2.1,h.2.2.1,h.2.2.2⟩))
     ·rw [if_neg p4] at h
      cases h
 ·rintro ⟨h1,h2,h | h | h | h⟩
  ·exact ⟨⟨h1,h2⟩,by rw [if_pos h.1];exact h.2.2⟩
  ·refine ⟨⟨h1,h2⟩,?_⟩
   rw [if_neg (by omega),if_pos h.1]
   simp only [Gd.isSeat,Bool.and_eq_true,decide_eq_true_eq]
   exact ⟨⟨h.2.1,h.2.2.1⟩,h.2.2.2.1,h.2.2.2.2.1,h.2.2.2.2.2⟩
  ·refine ⟨⟨h1,h2⟩,?_⟩
   rw [if_neg (by omega),if_neg (by omega),if_pos h.1]
   simp only [Gd.isSeat,Gd.serves_7,Bool.and_eq_true,Bool.or_eq_true,decide_eq_true_eq]
   exact ⟨⟨h.2.1,h.2.2.1⟩,by omega,by omega⟩
  ·refine ⟨⟨h1,h2⟩,?_⟩
   rw [if_neg (by omega),if_neg (by omega),if_neg (by omega),if_pos h.1]
   simp only [Bool.and_eq_true,decide_eq_true_eq]
   exact ⟨h.2.1,h.2.2.1,h.2.2.2.1,h.2.2.2.2⟩

theorem ret_says {w w':World} {a b:Bool} (h:a=b) (hg:w.grownBy w' none):Says w (.bool b) (.returned (.bool a)) w':=⟨ret_bool h,hg⟩


open Go.RowKit

def Gd.good (c:Nat→Int) (I:Nat→Nat→Int) (j:Nat):Prop:=Gd.zeroB (I j 0) (I j 1) (I j 2) (I j 3)=true∨(Gd.fitsB c (I j 0) (I j 1) (I j 2) (I j 3)=true∧Gd.find I 40 (I j 1) (I j 2) (I j 3)=(j:Int))

theorem Gd.zero_iff (r:Nat→Int):Gd.zeroB (r 0) (r 1) (r 2) (r 3)=true↔Gd.Zero r:=by
 unfold Gd.zeroB Gd.Zero
 rw [decide_eq_true_eq]

theorem Gd.ok_good {c:Nat→Int} {I:Nat→Nat→Int} (h:Gd.Ok c 40 I) {k:Nat} (hk:k<40):Gd.good c I k:=by
 rcases h.each k hk with hz | hp
 ·exact .inl ((Gd.zero_iff (I k)).2 hz)
 ·refine .inr ⟨(Gd.fits_iff c (I k)).2 hp,?_⟩
  rcases Gd.find_cases I 40 (I k 1) (I k 2) (I k 3) with ⟨_,hno⟩ | ⟨m,hm,e,h1,h2,h3,_⟩
  ·exact absurd ⟨rfl,rfl,rfl⟩ (hno k hk)
  ·by_cases em:m=k
   ·rw [e,em]
   ·exact absurd (⟨h1,h2,h3⟩:Gd.Share (I m) (I k)) (h.one k m hk hm (fun e=>em e.symm) hp.where_ne)

theorem Gd.good_ok {c:Nat→Int} {I:Nat→Nat→Int} (h:∀k,k<40→Gd.good c I k):Gd.Ok c 40 I:=by
 refine ⟨fun i hi=>?_,fun i k hi hk hik hw hs=>?_⟩
 ·rcases h i hi with hz | ⟨hp,_⟩
  ·exact .inl ((Gd.zero_iff (I i)).1 hz)
  ·exact .inr ((Gd.fits_iff c (I i)).1 hp)
 ·have fi:Gd.find I 40 (I i 1) (I i 2) (I i 3)=(i:Int):=by
   rcases h i hi with hz | ⟨_,hf⟩
   ·exact absurd ((Gd.zero_iff (I i)).1 hz).2.1 hw
   ·exact hf
  have fk:Gd.find I 40 (I k 1) (I k 2) (I k 3)=(k:Int):=by
   rcases h k hk with hz | ⟨_,hf⟩
   ·exact absurd (hs.1 ▸ ((Gd.zero_iff (I k)).1 hz).2.1) hw
   ·exact hf
  rw [hs.1,hs.2.1,hs.2.2,fi] at fk
  omega

def Tells7 (w:World) (p:Prop) (e:Ending) (w':World):Prop:=∃r:Bool,e=.returned (.bool r)∧(r=true↔p)∧w.grownBy w' none


open Go.RowKit

theorem run_eq_gold (a b c d:Int) (w:World):(Op.equalIn 10000 26 (.agg #[.int .i64 a,.int .i64 b,.int .i64 c,.int .i64 d]) (.agg #[.int .i64 a,.int .i64 b,.int .i64 c,.int .i64 d])).run Tryz.prog w=.ok true w:=by
 obtain ⟨i0,hi,_,_,_⟩:=info_parts info_int
 have hc:Tryz.prog.cellsOf 3=1:=by kernel_rfl
 have h:=run_equalIn_array (P:=Tryz.prog) (w:=w) 9999 #[.int .i64 a,.int .i64 b,.int .i64 c,.int .i64 d] #[.int .i64 a,.int .i64 b,.int .i64 c,.int .i64 d] Tryz.underlying26 hi
 have hr:(Op.eqItems 9999 3 (Tryz.prog.cellsOf 3) #[Value.int .i64 a,.int .i64 b,.int .i64 c,.int .i64 d] #[.int .i64 a,.int .i64 b,.int .i64 c,.int .i64 d] (List.range 4)).run Tryz.prog w=.ok true w:=by
  rw [hc]
  simp [List.range,List.range.loop,Op.eqItems,go_sem]
 rw [hr] at h
 exact h


open Go.RowKit

theorem Own.of_append {w:World} {base n:Nat} {v:Value} {E:Nat→Nat→Int} (h:w.ownsRow base 42 11 v n (En.list n E)) (hv:v≠.slice none 0 0) (hn:n≤32) :
  ∃g cap,v=.slice (some ⟨g,0,none⟩) n cap∧base≤g∧n≤cap∧cap≤maxLen∧Own w g n E:=by
 rcases h.2 with ⟨h',_⟩ | ⟨g,cap,cur,rfl,hb,hg,hnc,hcm,hcs,htake⟩
 ·exact absurd h' hv
 ·exact ⟨g,cap,rfl,hb,hnc,hcm,Own.of_owns h hn (fun c hc=>En.list_at hc)⟩

theorem En.flat_src {w w':World} {b n:Nat} {E:Nat→Nat→Int} (h:Ents w b n E) (hg:w.grownBy w' none):∀j v,(En.list n E)[j]?=some v→w'.cell? ((⟨b,0,none⟩:Addr).add j)=some v:=(h.on hg).src

set_option maxHeartbeats 1600000 in
theorem refSpawn_full (b n c:Nat) (E:Nat→Nat→Int) (e:Nat→Int) (w:World) (hE:Ents w b n E) (hk:1≤e 0∧e 0≤4) (hf:∀j,j<n→En.freeQ E j=false) :
  Calls Tryz.prog 18 #[.slice (some ⟨b,0,none⟩) n c,.agg (En.cells e)] w (Says w (.tuple #[.slice none 0 0,.int .i64 0,.int .i64 5])):=by
 have hn:=hE.1
 have hg:=hide (World.grownBy_alloc w (.cells (En.cells e) 42) none)
 have hE':=hide (hE.on (uh hg))
 have hf':=hide hf
 obtain ⟨W,hW⟩:∃W,W=w.alloc (.cells (En.cells e) 42):=⟨_,rfl⟩
 rw [←hW] at hg hE'
 obtain ⟨k1,k2⟩:=hk
 have k3:¬e 0<1:=by omega
 have k4:¬4<e 0:=by omega
 have hW':=hide hW
 clear hE hf hW
 unfold En.cells at hW' ⊢
 go_enter Tryz.func18,Tryz.ntmps18
 go_wp2_with fail
 rw [←uh hW']
 clear hW' k1 k2 k3 k4
 go_loop [7] (fun i=>∃k:Nat,k≤n∧i=.int .i64 (k:Int)) (fun i=>40 - (intOf i).toNat)
 case atStart=>exact ⟨0,by omega,rfl⟩
 case round =>
  obtain ⟨k,hk,rfl⟩:=hrel
  by_cases hlt:k<n
  ·obtain ⟨u0,_⟩:=(uh hE').row hlt
   have hlt':(k:Int)<(n:Int):=by omega
   have h32:(k:Int)<32:=by omega
   have hz:(E k 0 == 0)=false:=by have:=uh hf' k hlt;simpa [En.freeQ] using this
   have HL:=hide hlt
   clear hlt
   go_wp2
   go_round
   case rel=>exact ⟨k+1,by have:=uh HL;omega,by go_num⟩
   case measure=>simp [intOf];omega
  ·have hge:¬(k:Int)<(n:Int):=by omega
   go_wp2
   go_ret3
   exact ⟨rfl,uh hg⟩

set_option maxRecDepth 8000 in
set_option maxHeartbeats 4000000 in
theorem refSpawn_some (b n c r:Nat) (E:Nat→Nat→Int) (e:Nat→Int) (w:World) (hE:Ents w b n E) (hk:1≤e 0∧e 0≤4) (hr:r<n) (hq:E r 0=0) (hf:∀j,j<r→En.freeQ E j=false) (hG:En.Gens n E) :
  Calls Tryz.prog 18 #[.slice (some ⟨b,0,none⟩) n c,.agg (En.cells e)] w (Spawns w n (En.put E r (En.gen e ((E r 1+1) % 256))) r):=by
 have hn:=hE.1
 have hg:=hide (World.grownBy_alloc w (.cells (En.cells e) 42) none)
 have hE':=hide (hE.on (uh hg))
 have hbox:=hide (Arr.lit (heap_alloc_new w (.cells (En.cells e) 42)))
 have hf':=hide hf
 obtain ⟨g0,g1⟩:=hG r hr
 obtain ⟨W,hW⟩:∃W,W=w.alloc (.cells (En.cells e) 42):=⟨_,rfl⟩
 have hWs:Hid (W.heap.size=w.heap.size+1):=by rw [hW];simp [Hid]
 rw [←hW] at hg hE' hbox
 obtain ⟨k1,k2⟩:=hk
 have k3:¬e 0<1:=by omega
 have k4:¬4<e 0:=by omega
 have hW':=hide hW
 have hbw:=hide hE.2.1
 obtain ⟨i0,hi,hz0,hz1,hz2⟩:=info_parts info_ent
 obtain ⟨G2,hG2⟩:∃G2,G2=(E r 1+1) % 256:=⟨_,rfl⟩
 have hst:Hid (∀(x:World) (g:Nat),Own x g n E→Own (x.setCells g (r*11) (En.cells (En.gen e G2)).toList) g n (En.put E r (En.gen e G2))):=fun x g h=>h.store r _
 have hgs:Hid (∀(x:World) (g:Nat),w.grownBy x none→w.heap.size≤g→w.grownBy (x.setCells g (r*11) (En.cells (En.gen e G2)).toList) none):=fun x g h hg=>own_sets hg _ _ x h
 obtain ⟨F,hF⟩:∃F,F=En.put E r (En.gen e G2):=⟨_,rfl⟩
 rw [←hF] at hst
 rw [←hG2,←hF]
 have hG2':=hide hG2
 have hq':=hide hq
 clear hE hf hW hG hF hG2 hq
 unfold En.cells at hW' hbox ⊢
 go_enter Tryz.func18,Tryz.ntmps18
 go_wp2_with fail
 rw [←uh hW']
 clear hW' k1 k2 k3 k4
 go_loop [7] (fun i=>∃k:Nat,k≤r∧i=.int .i64 (k:Int)) (fun i=>40 - (intOf i).toNat)
 case atStart=>exact ⟨0,by omega,rfl⟩
 case round =>
  obtain ⟨k,hk,rfl⟩:=hrel
  by_cases hlt:k<r
  ·obtain ⟨u0,_⟩:=(uh hE').row (k:=k) (by omega)
   have hlt':(k:Int)<(n:Int):=by omega
   have h32:(k:Int)<32:=by omega
   have hz:(E k 0 == 0)=false:=by have:=uh hf' k hlt;simpa [En.freeQ] using this
   have HL:=hide hlt
   clear hlt
   go_wp2
   go_round
   case rel=>exact ⟨k+1,by have:=uh HL;omega,by go_num⟩
   case measure=>simp [intOf];omega
  ·obtain rfl:k=r:=by omega
   obtain ⟨u0,u1,_⟩:=(uh hE').row hr
   rw [uh hq'] at u0
   have hlt':(k:Int)<(n:Int):=by omega
   have h32:(k:Int)<32:=by omega
   go_wp2_with (at_builtin;refine wpList_append_own _ rfl _ _ 24 rfl W.heap.size 42 i0 (.agg #[.int .i64 0,.int .i64 0,.int .i64 0,.int .i64 0,.int .i64 0,.int .i64 0,.int .i64 0,.int .i64 0,.int .i64 0,.int .i64 0,.int .i64 0]) 11 88 Tryz.underlying24 hi hz0 hz1 hz2 rfl (by decide) _ 0 [] rfl (World.ownsRow_made _ _ _ (Nat.le_refl _) (by decide) (by simp)) ⟨b,0,none⟩ n c (En.list n E) rfl (En.list_len n E) (En.flat_src (uh hE') (World.grownBy_alloc _ _ _)) En.list_one ?c4 ?c5 ?c6 ?_)
   case c4=>unfold maxLen;omega
   case c5=>omega
   try (case c6=>simp)
   intro v' w1 hown hgrow hnil
   obtain ⟨g,cap,rfl,hlo,hnc,hcm,hown1⟩:=Own.of_append hown hnil hn
   have hgW:=gow (World.grownBy_alloc W (.cells #[] 42) none) hgrow (by intro m hm;simp [Value.ownBlock] at hm;omega)
   have hgr1:=hide (gtr (uh hg) hgW)
   have hbox1:=hide ((uh hbox).grown hgW (by simp))
   have hlo':w.heap.size<g:=by have:=uh hWs;omega
   have hcapf:=hide (And.intro hlo' (And.intro hnc hcm))
   have hs1:w1.cell? ⟨b,k*11+1,none⟩=some (.int .i64 (E k 1)):=((uh hE').on hgW).2.2 k 1 hr (by omega)
   have hz:=fun j (hj:j<11)=>(uh hbox1).cell (i:=j) hj
   have z0:=hz 0 (by omega)
   have z1:=hz 1 (by omega)
   have z2:=hz 2 (by omega)
   have z3:=hz 3 (by omega)
   have z4:=hz 4 (by omega)
   have z5:=hz 5 (by omega)
   have z6:=hz 6 (by omega)
   have z7:=hz 7 (by omega)
   have z8:=hz 8 (by omega)
   have z9:=hz 9 (by omega)
   have z10:=hz 10 (by omega)
   simp only [List.getElem?_toArray,List.getElem?_cons_zero,List.getElem?_cons_succ,Option.getD_some] at z0 z1 z2 z3 z4 z5 z6 z7 z8 z9 z10
   have zf:=(uh hbox1).free 1
   have hown1':=hide hown1
   clear hown hgrow hnil hlo hnc hcm hown1 hi hz0 hz1 hz2 hgW hz u0 u1
   obtain ⟨w2,hw2⟩:∃w2,w2=w1.setCell ⟨w.heap.size,1,none⟩ (.int .i64 G2):=⟨_,rfl⟩
   have hown2:Hid (Own w2 g n E):=by
    have hne:w.heap.size≠g:=by omega
    obtain ⟨hn',m,F',hA,hm,hF'⟩:=uh hown1'
    obtain ⟨cur,q1,q2,q3⟩:=hA
    rw [hw2]
    exact ⟨hn',m,F',⟨cur,(heap_setCell_other w1 ⟨w.heap.size,1,none⟩ g _ hne.symm).trans q1,q2,q3⟩,hm,hF'⟩
   have hgr2:Hid (w.grownBy w2 none):=by rw [hw2];exact gsr (uh hgr1) ⟨w.heap.size,1,none⟩ (Nat.le_refl _) _
   obtain ⟨t0,t1,t2,t3,t4,t5,t6,t7,t8,t9,t10⟩:=(uh hown2).ents.row hr
   have f:=fun i=>(uh hown2).free i
   have hb2:=(uh hbox1).store 1 (.int .i64 G2)
   rw [←hw2] at hb2
   have y0:w2.cell? ⟨w.heap.size,0,none⟩=some (.int .i64 (e 0)):=hb2.cell (i:=0) (by show 0<11;omega)
   have y1:w2.cell? ⟨w.heap.size,1,none⟩=some (.int .i64 G2):=hb2.cell (i:=1) (by show 1<11;omega)
   have y2:w2.cell? ⟨w.heap.size,2,none⟩=some (.int .i64 (e 2)):=hb2.cell (i:=2) (by show 2<11;omega)
   have y3:w2.cell? ⟨w.heap.size,3,none⟩=some (.int .i64 (e 3)):=hb2.cell (i:=3) (by show 3<11;omega)
   have y4:w2.cell? ⟨w.heap.size,4,none⟩=some (.int .i64 (e 4)):=hb2.cell (i:=4) (by show 4<11;omega)
   have y5:w2.cell? ⟨w.heap.size,5,none⟩=some (.int .i64 (e 5)):=hb2.cell (i:=5) (by show 5<11;omega)
   have y6:w2.cell? ⟨w.heap.size,6,none⟩=some (.int .i64 (e 6)):=hb2.cell (i:=6) (by show 6<11;omega)
   have y7:w2.cell? ⟨w.heap.size,7,none⟩=some (.int .i64 (e 7)):=hb2.cell (i:=7) (by show 7<11;omega)
   have y8:w2.cell? ⟨w.heap.size,8,none⟩=some (.int .i64 (e 8)):=hb2.cell (i:=8) (by show 8<11;omega)
   have y9:w2.cell? ⟨w.heap.size,9,none⟩=some (.int .i64 (e 9)):=hb2.cell (i:=9) (by show 9<11;omega)
   have y10:w2.cell? ⟨w.heap.size,10,none⟩=some (.int .i64 (e 10)):=hb2.cell (i:=10) (by show 10<11;omega)
   have hw2':=hide hw2
   clear hb2
   clear hw2
   go_upto_region 9 with fail
   rw [←uh hG2',←uh hw2']
   clear hs1 z0 z1 z2 z3 z4 z5 z6 z7 z8 z9 z10 zf hw2'
   go_wp2
   go_ret3
   exact ⟨g,cap,rfl,Nat.le_of_lt (uh hcapf).1,(uh hcapf).2.1,(uh hcapf).2.2,uh hst _ _ (uh hown2),uh hgs _ _ (uh hgr2) (Nat.le_of_lt (uh hcapf).1)⟩


open Go.RowKit

def Md.BagIs (I:Nat→Nat→Int) (seat:Int) (n:Nat) (f:Nat→Int):Prop:=∀b:Nat,b<4→(∃i,i<n∧I i 1=2∧I i 2=seat∧I i 3=(b:Int)∧f b=I i 0)∨((∀i,i<n→¬(I i 1=2∧I i 2=seat∧I i 3=(b:Int)))∧f b=0)

theorem Md.BagIs.skip {I:Nat→Nat→Int} {seat:Int} {n:Nat} {f:Nat→Int} (h:Md.BagIs I seat n f) (hno:∀b:Nat,b<4→¬(I n 1=2∧I n 2=seat∧I n 3=(b:Int))):Md.BagIs I seat (n+1) f:=fun b hb=>by
 rcases h b hb with ⟨i,hi,r⟩ | ⟨h1,h2⟩
 ·exact .inl ⟨i,by omega,r⟩
 ·refine .inr ⟨fun i hi=>?_,h2⟩
  by_cases e:i=n
  ·rw [e];exact hno b hb
  ·exact h1 i (by omega)

theorem Md.BagIs.take {I:Nat→Nat→Int} {seat:Int} {n b:Nat} {f:Nat→Int} (h:Md.BagIs I seat n f) (h1:I n 1=2) (h2:I n 2=seat) (h3:I n 3=(b:Int)):Md.BagIs I seat (n+1) (Gr.upd f b (I n 0)):=fun b' hb=>by
 by_cases e:b'=b
 ·subst e
  refine .inl ⟨n,by omega,h1,h2,h3,?_⟩
  simp [Gr.upd]
 ·have hu:Gr.upd f b (I n 0) b'=f b':=by simp [Gr.upd,e]
  rw [hu]
  rcases h b' hb with ⟨i,hi,r⟩ | ⟨g1,g2⟩
  ·exact .inl ⟨i,by omega,r⟩
  ·refine .inr ⟨fun i hi=>?_,g2⟩
   by_cases e2:i=n
   ·rw [e2];rintro ⟨_,_,h⟩;omega
   ·exact g1 i (by omega)

theorem Gd.Ok.same {c:Nat→Int} {I:Nat→Nat→Int} (h:Gd.Ok c 40 I) {i k:Nat} (hi:i<40) (hk:k<40) (h0:I i 1≠0) (h1:I k 1=I i 1) (h2:I k 2=I i 2) (h3:I k 3=I i 3):i=k:=by
 by_cases e:i=k
 ·exact e
 ·exact absurd ⟨h1,h2,h3⟩ (h.one i k hi hk e h0)

def Md.among (f:Nat→Int) (v:Int):Bool:=decide (0≤En.first (fun b=>decide (v=f b)) 4)

theorem Md.among_iff (f:Nat→Int) (v:Int):Md.among f v=true↔∃b,b<4∧f b=v:=by
 unfold Md.among
 rcases En.first_cases (fun b=>decide (v=f b)) 4 with ⟨he,hno⟩ | ⟨k,hk,he,hq,_⟩
 ·rw [he]
  refine ⟨fun h=>by simp at h,fun ⟨b,hb,e⟩=>?_⟩
  have:=hno b hb
  simp [e] at this
 ·rw [he]
  refine ⟨fun _=>⟨k,hk,?_⟩,fun _=>by simp⟩
  have:=of_decide_eq_true hq
  exact this.symm

theorem Md.has_iff {c:Nat→Int} {I:Nat→Nat→Int} {seat:Int} {f:Nat→Int} (hok:Gd.Ok c 40 I) (h:Md.BagIs I seat 40 f):Md.among f 1=decide (0≤Gd.has I 40 seat 1 1):=by
 rw [Bool.eq_iff_iff,Md.among_iff,decide_eq_true_iff]
 constructor
 ·rintro ⟨b,hb,e⟩
  rcases h b hb with ⟨i,hi,i1,i2,i3,hf⟩ | ⟨_,h0⟩
  ·have hfi:∃k:Nat,k<40∧Gd.find I 40 2 seat (b:Int)=(k:Int)∧I k 1=2∧I k 2=seat∧I k 3=(b:Int):=by
    rcases Gd.find_cases I 40 2 seat (b:Int) with ⟨_,hno⟩ | ⟨k,hk,he,k1,k2,k3,_⟩
    ·exact absurd ⟨i1,i2,i3⟩ (hno i hi)
    ·exact ⟨k,hk,he,k1,k2,k3⟩
   obtain ⟨k,hk,he,k1,k2,k3⟩:=hfi
   obtain rfl:i=k:=hok.same hi hk (by omega) (by omega) (by omega) (by omega)
   have hQ:Gd.hasQ I 40 seat 1 1 b=true:=by
    simp only [Gd.hasQ,Bool.and_eq_true,decide_eq_true_eq]
    rw [he,Int.toNat_natCast]
    omega
   unfold Gd.has
   rcases En.first_cases (Gd.hasQ I 40 seat 1 1) 4 with ⟨hf1,hno⟩ | ⟨m,hm,hf1,hq,_⟩
   ·rw [hno b hb] at hQ;cases hQ
   ·rw [if_pos (by omega),hf1]
    simp only [Gd.hasQ,Bool.and_eq_true,decide_eq_true_eq] at hq
    exact hq.1
  ·omega
 ·intro hh
  obtain ⟨k,hk,_,k1,k2,k3,k4,k5,k6⟩:=Gd.has_pos hh
  refine ⟨(I k 3).toNat,by omega,?_⟩
  rcases h (I k 3).toNat (by omega) with ⟨i,hi,i1,i2,i3,hf⟩ | ⟨hno,_⟩
  ·obtain rfl:i=k:=hok.same hi hk (by omega) (by omega) (by omega) (by omega)
   omega
  ·exact absurd ⟨k1,k2,by omega⟩ (hno k hk)

theorem Md.slot_iff {c:Nat→Int} {I:Nat→Nat→Int} {seat:Int} {f:Nat→Int} (hok:Gd.Ok c 40 I) (h:Md.BagIs I seat 40 f):Md.among f 0=decide (0≤Gd.slot I 40 seat):=by
 rw [Bool.eq_iff_iff,Md.among_iff,decide_eq_true_iff]
 constructor
 ·rintro ⟨b,hb,e⟩
  rcases h b hb with ⟨i,hi,i1,i2,i3,hf⟩ | ⟨hno,_⟩
  ·rcases hok.each i hi with hz | hp
   ·have:=hz.2.1;omega
   ·have:=hp.1;omega
  ·unfold Gd.slot
   rcases En.first_cases (fun b=>decide (Gd.find I 40 2 seat (b:Int)<0)) 4 with ⟨_,hn⟩ | ⟨m,hm,hf1,_⟩
   ·have:=hn b hb
    simp only [decide_eq_false_iff_not] at this
    obtain ⟨k,hk,_,k1,k2,k3⟩:=Gd.find_pos (I:=I) (n:=40) (w:=2) (a:=seat) (b:=(b:Int)) (by omega)
    exact absurd ⟨k1,k2,k3⟩ (hno k hk)
   ·omega
 ·intro hs
  obtain ⟨h4,hno⟩:=Gd.slot_pos hs
  refine ⟨(Gd.slot I 40 seat).toNat,by omega,?_⟩
  rcases h (Gd.slot I 40 seat).toNat (by omega) with ⟨i,hi,i1,i2,i3,_⟩ | ⟨_,h0⟩
  ·exact absurd ⟨i1,i2,by omega⟩ (hno i hi)
  ·exact h0

def Md.liesQ (I:Nat→Nat→Int) (x y:Int) (room:Bool):Nat→Bool:=fun i=>(decide (I i 1=1) && (decide (I i 2=x) && decide (I i 3=y))) && (room || decide (I i 0=4))

def Md.lies (I:Nat→Nat→Int) (x y:Int) (room:Bool):Bool:=decide (0≤En.first (Md.liesQ I x y room) 40)

theorem Md.lies_iff {c:Nat→Int} {I:Nat→Nat→Int} {x y S:Int} (hok:Gd.Ok c 40 I):Md.lies I x y (decide (0≤S))=decide (0≤Gd.find I 40 1 x y∧(I (Gd.find I 40 1 x y).toNat 0=4∨0≤S)):=by
 unfold Md.lies
 rw [Bool.eq_iff_iff,decide_eq_true_iff,decide_eq_true_iff]
 constructor
 ·intro h
  rcases En.first_cases (Md.liesQ I x y (decide (0≤S))) 40 with ⟨he,_⟩ | ⟨k,hk,he,hq,_⟩
  ·omega
  ·simp only [Md.liesQ,Bool.and_eq_true,Bool.or_eq_true,decide_eq_true_eq] at hq
   obtain ⟨⟨k1,k2,k3⟩,k4⟩:=hq
   rcases Gd.find_cases I 40 1 x y with ⟨_,hno⟩ | ⟨j,hj,hf,j1,j2,j3,_⟩
   ·exact absurd ⟨k1,k2,k3⟩ (hno k hk)
   ·obtain rfl:k=j:=hok.same hk hj (by omega) (by omega) (by omega) (by omega)
    rw [hf,Int.toNat_natCast]
    exact ⟨by omega,by rcases k4 with h | h <;> omega⟩
 ·rintro ⟨h1,h2⟩
  obtain ⟨k,hk,he,k1,k2,k3⟩:=Gd.find_pos h1
  rw [he,Int.toNat_natCast] at h2
  rcases En.first_cases (Md.liesQ I x y (decide (0≤S))) 40 with ⟨_,hno⟩ | ⟨m,hm,hf,_⟩
  ·have:=hno k hk
   have hq:Md.liesQ I x y (decide (0≤S)) k=true:=by
    simp only [Md.liesQ,Bool.and_eq_true,Bool.or_eq_true,decide_eq_true_eq]
    exact ⟨⟨k1,k2,k3⟩,by rcases h2 with h | h <;> omega⟩
   rw [hq] at this;cases this
  ·omega

def Md.BagSays (w:World) (I:Nat→Nat→Int) (seat:Int) (e:Ending) (w':World):Prop:=∃G f,e=.returned (.slice (some ⟨G,0,none⟩) 4 4)∧Arr w' G 3 4 (Ints f)∧Md.BagIs I seat 40 f∧w.grownBy w' none

set_option maxRecDepth 8000 in
set_option maxHeartbeats 3200000 in
theorem mBag_any (I:Nat→Nat→Int) (gI cI:Nat) (seat:Int) (w:World) (hI:Its w gI 0 40 I) :
  Calls Tryz.prog 186 #[.slice (some ⟨gI,0,none⟩) 40 cI,.int .i64 seat] w (Md.BagSays w I seat):=by
 have hI':=hide hI
 obtain ⟨i0,hi,hz0,hz1,hz2⟩:=info_parts info_int
 clear hI
 go_enter Tryz.func186,Tryz.ntmps186
 obtain ⟨G,hG⟩:∃G,G=w.heap.size:=⟨_,rfl⟩
 have hG':=hide hG
 clear hG
 go_wp2_with (at_make;refine wpList_make_full _ rfl _ _ 65 rfl G 3 i0 (.int .i64 0) 1 Tryz.underlying65 hi hz0 hz1 .i64 .i64 _ _ 4 rfl rfl rfl rfl ?q3 ?q4 (Nat.le_of_eq (uh hG')) ?_)
 case q3=>rw [hz2];omega
 case q4=>unfold maxLen;omega
 intro w2 hown hgrow
 rw [←uh hG'] at hown ⊢
 have hA:=hide (Arr.zero hown)
 have hB0:Hid (w.grownBy w2 none):=below_grown (by rw [←uh hG'];exact (Below.refl _ _).grown hgrow (Nat.le_of_eq (uh hG')) (by intro k hk;cases hk))
 clear hown hgrow hi hz0 hz1 hz2
 go_wp2_with fail
 go_loopw [7,11] (fun _ i wr=>∃(k:Nat) (f:Nat→Int),k≤40∧i=.int .i64 (k:Int)∧Hid (Arr wr G 3 4 (Ints f))∧Hid (Md.BagIs I seat k f)∧Hid (w.grownBy wr none)) (fun _ i _=>50 - (intOf i).toNat)
 case atStart=>exact ⟨0,fun _=>0,Nat.zero_le _,rfl,(uh hA).congr fun _ _=>rfl,fun b _=>.inr ⟨fun i hi=>by omega,rfl⟩,hB0⟩
 case round =>
  obtain ⟨k,f,hk,rfl,hA1,hB1,hg1⟩:=hrel
  clear hA hB0
  by_cases hlt:k<40
  ·have hlt':(k:Int)<40:=by omega
   have HL:=hide hlt
   obtain ⟨u0,u1,u2,u3⟩:=((uh hI').on (uh hg1)).row hlt
   obtain ⟨p0,h0⟩:∃p,I k 0=p:=⟨_,rfl⟩
   obtain ⟨p1,h1⟩:∃p,I k 1=p:=⟨_,rfl⟩
   obtain ⟨p2,h2⟩:∃p,I k 2=p:=⟨_,rfl⟩
   obtain ⟨p3,h3⟩:∃p,I k 3=p:=⟨_,rfl⟩
   rw [h0] at u0
   rw [h1] at u1
   rw [h2] at u2
   rw [h3] at u3
   have hP:=hide (show I k 0=p0∧I k 1=p1∧I k 2=p2∧I k 3=p3 from ⟨h0,h1,h2,h3⟩)
   clear h0 h1 h2 h3 hlt hk
   have hga:=hide (World.grownBy_alloc wr (.cells #[.int .i64 p0,.int .i64 p1,.int .i64 p2,.int .i64 p3] 47) none)
   by_cases m:p1=2∧p2=seat∧0≤p3∧p3<4
   ·obtain ⟨rfl,rfl,m3,m4⟩:=m
    obtain ⟨b,rfl⟩:∃b:Nat,p3=(b:Int):=⟨p3.toNat,by omega⟩
    have HB:=hide (show b<4 by omega)
    have hA2:=hide ((uh hA1).grown (uh hga) (by simp))
    have hcc:=(uh hA2).cell (uh HB)
    have hff:=(uh hA2).free b
    have hB2:Hid (Md.BagIs I p2 (k+1) (Gr.upd f b p0)):=by
     have hP':=uh hP
     have:=(uh hB1).take hP'.2.1 hP'.2.2.1 hP'.2.2.2
     rw [hP'.1] at this
     exact this
    have hfin:Hid (∀v:Int,w.grownBy ((wr.alloc (.cells #[.int .i64 p0,.int .i64 2,.int .i64 p2,.int .i64 (b:Int)] 47)).setCell ⟨G,b,none⟩ (.int .i64 v)) none):=fun v=>gsr (gtr (uh hg1) (uh hga)) ⟨G,b,none⟩ (Nat.le_of_eq (uh hG').symm) _
    clear hP hga hA1 hB1 hg1
    go_wp2
    go_roundw
    case rel=>exact ⟨k+1,Gr.upd f b p0,by have:=uh HL;omega,by go_num,(uh hA2).upd p0,hB2,uh hfin p0⟩
    case measure=>have:=uh HL;simp [intOf];omega
   ·have hB2:Hid (Md.BagIs I seat (k+1) f):=(uh hB1).skip fun b hb ⟨j1,j2,j3⟩=>m (by have:=uh hP;omega)
    have hA2:=hide ((uh hA1).grown (uh hga) (by simp))
    have hg2:=hide (gtr (uh hg1) (uh hga))
    clear hP hga hA1 hB1 hg1
    by_cases m1:p1=2
    ·subst m1
     by_cases m2:p2=seat
     ·subst m2
      by_cases m3:p3<0
      ·have m3':¬p3≥0:=by omega
       clear m
       go_wp2
       go_roundw
       case rel=>exact ⟨k+1,f,by have:=uh HL;omega,by go_num,hA2,hB2,hg2⟩
       case measure=>have:=uh HL;simp [intOf];omega
      ·have m3':p3≥0:=by omega
       have m4':¬p3<4:=by omega
       clear m
       go_wp2
       go_roundw
       case rel=>exact ⟨k+1,f,by have:=uh HL;omega,by go_num,hA2,hB2,hg2⟩
       case measure=>have:=uh HL;simp [intOf];omega
     ·have m2':(p2 == seat)=false:=by simpa using m2
      clear m m2
      go_wp2
      go_roundw
      case rel=>exact ⟨k+1,f,by have:=uh HL;omega,by go_num,hA2,hB2,hg2⟩
      case measure=>have:=uh HL;simp [intOf];omega
    ·have m1':(p1 == 2)=false:=by simpa using m1
     clear m m1
     go_wp2
     go_roundw
     case rel=>exact ⟨k+1,f,by have:=uh HL;omega,by go_num,hA2,hB2,hg2⟩
     case measure=>have:=uh HL;simp [intOf];omega
  ·obtain rfl:k=40:=by omega
   have hge:¬((40:Nat):Int)<40:=by omega
   have hfin:Hid (Md.BagSays w I seat (.returned (.slice (some ⟨G,0,none⟩) 4 4)) wr):=⟨G,f,rfl,uh hA1,uh hB1,uh hg1⟩
   clear hlt hk
   go_wp2
   go_ret
   exact uh hfin

set_option maxHeartbeats 800000 in
theorem mIndex_any (G:Nat) (f:Nat→Int) (v:Int) (w:World) (hA:Arr w G 3 4 (Ints f)) :
  Calls Tryz.prog 108 #[.slice (some ⟨G,0,none⟩) 4 4,.int .i64 v] w fun e w'=>e=.returned (.int .i64 (En.first (fun b=>decide (v=f b)) 4))∧w'=w:=by
 have hA':=hide hA
 have hhit:Hid (∀k:Nat,k<4→(∀j,j<k→v≠f j)→v=f k→En.first (fun b=>decide (v=f b)) 4=(k:Int)):=fun k hk hno e=>En.first_hit (fun j hj=>decide_eq_false (hno j hj)) (decide_eq_true e) hk
 have hnone:Hid ((∀j,j<4→v≠f j)→En.first (fun b=>decide (v=f b)) 4=-1):=fun hno=>En.first_none (fun j hj=>decide_eq_false (hno j hj))
 generalize En.first (fun b=>decide (v=f b)) 4=r at hhit hnone ⊢
 clear hA
 go_enter Tryz.func108,Tryz.ntmps108
 go_wp2_with fail
 go_loop [5,8] (fun _ i=>∃k:Nat,k≤4∧i=.int .i64 (k:Int)∧Hid (∀j,j<k→v≠f j)) (fun _ i=>10 - (intOf i).toNat)
 case atStart=>exact ⟨0,by omega,rfl,fun j hj=>by omega⟩
 case round =>
  obtain ⟨k,hk,rfl,hno⟩:=hrel
  by_cases hlt:k<4
  ·have q:w.cell? ⟨G,k,none⟩=some (.int .i64 (f k)):=(uh hA').cell hlt
   have hlt':(k:Int)<4:=by omega
   have HL:=hide hlt
   obtain ⟨u,hu⟩:∃u,f k=u:=⟨_,rfl⟩
   rw [hu] at q
   have hu':=hide hu
   clear hu hlt hk
   by_cases e:v=u
   ·have he:Hid (r=(k:Int)):=uh hhit k (uh HL) (uh hno) (by rw [uh hu'];exact e)
    subst e
    go_wp2
    go_ret
    exact ⟨rti (uh he).symm,rfl⟩
   ·have e':(v == u)=false:=by simpa using e
    have hno2:Hid (∀j,j<k+1→v≠f j):=fun j hj=>by
     by_cases ej:j=k
     ·rw [ej,uh hu'];exact e
     ·exact uh hno j (by omega)
    clear e
    go_wp2
    go_round
    case rel=>exact ⟨k+1,by have:=uh HL;omega,by go_num,hno2⟩
    case measure=>have:=uh HL;simp [intOf];omega
  ·obtain rfl:k=4:=by omega
   have hge:¬((4:Nat):Int)<4:=by omega
   have he:Hid (r=-1):=uh hnone (uh hno)
   clear hlt hk
   go_wp2
   go_ret
   exact ⟨rti (uh he).symm,rfl⟩

theorem mContains_any (G:Nat) (f:Nat→Int) (v:Int) (w:World) (hA:Arr w G 3 4 (Ints f)) :
  Calls Tryz.prog 188 #[.slice (some ⟨G,0,none⟩) 4 4,.int .i64 v] w fun e w'=>e=.returned (.bool (Md.among f v))∧w'=w:=by
 have ci:=hide (mIndex_any G f v w hA)
 have hd:Hid (Md.among f v=decide (0≤En.first (fun b=>decide (v=f b)) 4)):=rfl
 rw [uh hd]
 generalize En.first (fun b=>decide (v=f b)) 4=r at ci ⊢
 clear hA hd
 go_enter Tryz.func188,Tryz.ntmps188
 go_wp2_with fail
 refine (uh ci).mono ?_
 rintro e wy ⟨rfl,hw⟩
 subst wy
 go_wp2
 go_ret
 exact ⟨by simp,rfl⟩


open Go.RowKit

theorem slice_items (a:Option Addr) (len cap k:Nat) (w:World) (hk:k≤cap) :
  (Instr.slice 25 (.slice a len cap) none (some (.int .i64 (k:Int))) none).run Tryz.prog w=.ok (.slice a k cap) w:=by
 have hs:(sizeOf (Tryz.prog.elem 25)).run Tryz.prog w=.ok 4 w:=by kernel_rfl
 rw [run_slice_h w 25 a len cap (by kernel_rfl) .i64 (k:Int) (by omega) (by omega),hs]
 have e:a.map (fun x=>x.add (0*4))=a:=by
  cases a with
  | none=>rfl
  | some x=>simp [Addr.add]
 simp only [Result.andThen,sliced,e,Int.toNat_natCast,Nat.sub_zero,ite_self]

set_option maxHeartbeats 6400000 in
theorem lay_any (b cp n cm:Nat) (a:Option Addr) (I M:Nat→Nat→Int) (w:World) (hL:Lie w b 47 160 (Gd.flat I)) (hM:Gd.Some w a n M) :
  Calls Tryz.prog 55 #[.slice (some ⟨b,0,none⟩) 40 cp,.slice a n cm] w (Gd.Gives40 w (Gd.lay I M n)):=by
 have hn:=hM.1
 have hM':=hide hM
 have ct:=hide (twinItems_any b 40 160 cp (Gd.flat I) w (by omega) (by omega) (fun _=>rfl) (fun q hq=>hL.cell hq) hL.lt)
 clear hL hM
 go_enter Tryz.func55,Tryz.ntmps55
 go_wp2_with fail
 refine (uh ct).mono ?_
 rintro e w1 ⟨g,rfl,hlo,hA,hg⟩
 have hl1:=hide hA.lie
 have hg1:=hide hg
 have hlo':=hide hlo
 have hs:=fun wx=>slice_items (some ⟨g,0,none⟩) 40 40 40 wx (by omega)
 clear ct hlo hA hg
 go_wp2_with fail
 clear hs
 go_loopw [7,19] (fun q i wr=>∃r m:Nat,m≤n∧r≤40∧q=.int .i64 (r:Int)∧i=.int .i64 (m:Int)∧(∀j,j<r→Gd.goneQ (Gd.lay I M m) j=false)∧Lie wr g 47 160 (Gd.flat (Gd.lay I M m))∧w.grownBy wr none) (fun _ i _=>200 - (intOf i).toNat)
 case atStart=>exact ⟨0,0,by omega,by omega,rfl,rfl,fun j hj=>by omega,uh hl1,uh hg1⟩
 case round =>
  obtain ⟨r0,m,hm,hr0,rfl,rfl,hno0,hJ,hgr⟩:=hrel
  have hno0':=hide hno0
  have hJ':=hide hJ
  have hgr':=hide hgr
  clear hno0 hJ hgr
  by_cases hlt:m<n
  ·have hlt':(m:Int)<(n:Int):=by omega
   have HL:=hide hlt
   obtain ⟨bm,om,rfl,lbm,v0,v1,v2,v3⟩:=((uh hM').on (uh hgr')).row hlt
   clear hlt
   have hnew0:=(Arr.lit (heap_alloc_new wr (.cells #[.int .i64 (M m 0),.int .i64 (M m 1),.int .i64 (M m 2),.int .i64 (M m 3)] 47))).lie
   have hga:=hide (World.grownBy_alloc wr (.cells #[.int .i64 (M m 0),.int .i64 (M m 1),.int .i64 (M m 2),.int .i64 (M m 3)] 47) none)
   go_wp2_with fail
   obtain ⟨wb,hwb⟩:∃wb,wr.alloc (.cells #[.int .i64 (M m 0),.int .i64 (M m 1),.int .i64 (M m 2),.int .i64 (M m 3)] 47)=wb:=⟨_,rfl⟩
   obtain ⟨P,hP⟩:∃P,wr.heap.size=P:=⟨_,rfl⟩
   have hPg:g<P:=by rw [←hP];exact (uh hJ').lt
   rw [hwb] at hnew0 hga ⊢
   rw [hP] at hnew0 ⊢
   have hnew:=hide hnew0
   have hJb:=hide ((uh hJ').on (uh hga))
   have hgb:=hide (gtr (uh hgr') (uh hga))
   clear hwb hP hnew0 hga v0 v1 v2 v3 lbm hJ' hgr'
   go_loopw [7] (fun q wz=>∃r:Nat,r≤40∧q=.int .i64 (r:Int)∧(∀j,j<r→Gd.goneQ (Gd.lay I M m) j=false)∧wb.grownBy wz none) (fun q _=>200 - (intOf q).toNat)
   case atStart=>exact ⟨r0,hr0,rfl,uh hno0',World.grownBy.refl _ _⟩
   case round =>
    obtain ⟨r,hr,rfl,hno,hgz⟩:=hrel
    have hno':=hide hno
    have hgz':=hide hgz
    clear hno hgz
    by_cases hr40:r<40
    ·have hr':(r:Int)<40:=by omega
     have HR:=hide hr40
     obtain ⟨u0,u1,u2,u3⟩:=(((uh hJb).on (uh hgz')).its (n:=40) (by omega) (by omega)).row hr40
     have hgq:=hide (show Gd.goneQ (Gd.lay I M m) r=Gd.zeroB (Gd.lay I M m r 0) (Gd.lay I M m r 1) (Gd.lay I M m r 2) (Gd.lay I M m r 3) from rfl)
     have cg0:=isGone_any (Gd.lay I M m r 0) (Gd.lay I M m r 1) (Gd.lay I M m r 2) (Gd.lay I M m r 3) wr
     obtain ⟨z,hz⟩:∃z,Gd.zeroB (Gd.lay I M m r 0) (Gd.lay I M m r 1) (Gd.lay I M m r 2) (Gd.lay I M m r 3)=z:=⟨_,rfl⟩
     rw [hz] at cg0 hgq
     have cg:=hide cg0
     clear cg0 hz hr40
     go_wp2_with fail
     refine (uh cg).mono ?_
     rintro e w3 ⟨rfl,hg3⟩
     have hgz3:=hide (gtr (uh hgz') hg3)
     clear cg hg3 u0 u1 u2 u3
     cases z with
     | false =>
      go_wp2
      go_roundw
      case rel=>exact ⟨r+1,by have:=uh HR;omega,by go_num,fun j hj=>by
       by_cases e:j=r
       ·rw [e];exact uh hgq
       ·exact uh hno' j (by omega),uh hgz3⟩
      case measure=>simp [intOf];omega
     | true =>
      have hs:=hide (Gd.lay_some (uh hno') (uh hgq) (uh HR))
      have hnw:=(uh hnew).on (uh hgz3)
      have x0:w3.cell? ⟨P,0,none⟩=some (.int .i64 (M m 0)):=hnw.cell (c:=0) (by simp)
      have x1:w3.cell? ⟨P,1,none⟩=some (.int .i64 (M m 1)):=hnw.cell (c:=1) (by simp)
      have x2:w3.cell? ⟨P,2,none⟩=some (.int .i64 (M m 2)):=hnw.cell (c:=2) (by simp)
      have x3:w3.cell? ⟨P,3,none⟩=some (.int .i64 (M m 3)):=hnw.cell (c:=3) (by simp)
      have hJ3:=(uh hJb).on (uh hgz3)
      obtain ⟨u0,u1,u2,u3⟩:=(hJ3.its (n:=40) (by omega) (by omega)).row (uh HR)
      have fI:=hJ3.free
      have hJn:=hide (hJ3.put r (M m 0) (M m 1) (M m 2) (M m 3))
      have hgn:=hide (gow (gtr (uh hgb) (uh hgz3)) (grown_put4 (World.grownBy.refl _ (some g)) r (.int .i64 (M m 0)) (.int .i64 (M m 1)) (.int .i64 (M m 2)) (.int .i64 (M m 3))) (fun k e=>by cases e;exact uh hlo'))
      have hrne:((r:Int) == 40)=false:=by simp;omega
      clear hnw hJ3
      go_wp2
      go_roundw
      case rel=>exact ⟨r,m+1,by have:=uh HL;omega,by have:=uh HR;omega,rfl,by go_num,fun j hj=>by
       rw [uh hs]
       show Gd.zeroB _ _ _ _=false
       rw [En.put_other (by omega)]
       exact uh hno' j hj,by rw [uh hs];exact uh hJn,uh hgn⟩
      case measure=>simp [intOf];omega
    ·have hge:¬(r:Int)<40:=by omega
     have er:(r:Int)=40:=by omega
     have hst:=hide (Gd.lay_stuck (I:=I) (M:=M) (m:=m) (fun j hj=>uh hno' j (by omega)) (n - m))
     have hJf:=hide ((uh hJb).on (uh hgz'))
     have hgf:=hide (gtr (uh hgb) (uh hgz'))
     rw [er]
     clear er hge hr
     go_wp2
     go_ret
     refine ⟨g,40,rfl,uh hlo',?_,uh hgf⟩
     have h:=uh hst
     rw [show m+(n - m)=n by omega] at h
     rw [h]
     exact uh hJf
  ·have hge:¬(m:Int)<(n:Int):=by omega
   obtain rfl:m=n:=by omega
   go_wp2
   go_ret
   exact ⟨g,40,rfl,uh hlo',uh hJ',uh hgr'⟩


open Go.RowKit

set_option maxHeartbeats 3200000 in
theorem refPlaced_any (s g c:Nat→Int) (gC gE gI cC cE cI:Nat) (k p a b:Int) (w:World) (hC:Vec w.heap.size w (some ⟨gC,0,none⟩) 384 (Byts c)) (hc:∀i,0≤c i∧c i≤255) (k1:1≤k) (k5:k≤4) :
  Calls Tryz.prog 30 #[.agg (Gd.world s gC gE gI cC cE cI g),.agg #[.int .i64 k,.int .i64 p,.int .i64 a,.int .i64 b]] w (Says w (.bool (Gd.fitsB c k p a b))):=by
 obtain ⟨r,hr⟩:∃r,Gd.fitsB c k p a b=r:=⟨_,rfl⟩
 rw [hr]
 have hr':=hide hr
 have hg:=hide (fun (o1 o2:Obj)=>gal (World.grownBy_alloc w o1 none) o2)
 have hC':=hide hC
 have hc':=hide hc
 have ek:Hid (decide (1≤k∧k≤4)=true):=decide_eq_true ⟨k1,k5⟩
 unfold Gd.world
 clear hr hC hc
 by_cases p1:p=1
 ·subst p1
  have he:=uh hr'
  unfold Gd.fitsB at he
  rw [uh ek,Bool.true_and,if_pos rfl] at he
  have he':=hide he
  clear he
  have cI:=fun wx=>refIn_any a b wx
  by_cases hin:Gr.inB a b=true
  ·rw [hin] at cI
   have cI':=hide cI
   have cA:Hid (∀o o':Obj,Calls Tryz.prog 14 #[.slice (some ⟨gC,0,none⟩) 384 cC,.int .i64 a,.int .i64 b] ((w.alloc o).alloc o') fun e w'=>e=.returned (.int .i64 (Gr.at 384 c a b))∧w'=(w.alloc o).alloc o'):=fun o o'=>refAt_any w.heap.size (some ⟨gC,0,none⟩) 384 cC c a b _ ((uh hC').kept (none_below (uh hg o o'))) (uh hc')
   obtain ⟨A,hA⟩:∃A,Gr.at 384 c a b=A:=⟨_,rfl⟩
   rw [hA] at cA he'
   clear hA cI
   go_enter Tryz.func30,Tryz.ntmps30
   go_wp2_with fail
   refine (uh cI' _).mono ?_
   rintro e w' ⟨rfl,hw⟩
   subst w'
   go_wp2_with fail
   refine (uh cA _ _).mono ?_
   rintro e w' ⟨rfl,hw⟩
   subst w'
   go_wp2_with fail
   refine (refWalk_any A _).mono ?_
   rintro e w' ⟨rfl,hw⟩
   subst w'
   go_wp2
   go_ret
   exact ret_says (uh he') (uh hg _ _)
  ·have hin':Gr.inB a b=false:=by simpa using hin
   rw [hin'] at cI
   have cI':=hide cI
   have hf:=hide (show false=r by rw [←uh he',Gd.at_out hin'];rfl)
   clear cI hin
   go_enter Tryz.func30,Tryz.ntmps30
   go_wp2_with fail
   refine (uh cI' _).mono ?_
   rintro e w' ⟨rfl,hw⟩
   subst w'
   go_wp2
   go_ret
   exact ret_says (uh hf) (uh hg _ _)
 ·by_cases p2:p=2
  ·subst p2
   have he:=uh hr'
   unfold Gd.fitsB at he
   rw [uh ek,Bool.true_and,if_neg (by decide),if_pos rfl] at he
   have he':=hide he
   clear he p1
   unfold Gd.isSeat at he'
   by_cases a0:0≤a
   ·by_cases a4:a<4
    ·by_cases b0:0≤b
     ·by_cases b4:b<4
      ·by_cases k4:k=4
       ·have hf:=hide (show false=r by rw [←uh he'];simp [k4])
        subst k4
        go_enter Tryz.func30,Tryz.ntmps30
        go_wp2
        go_ret
        exact ret_says (uh hf) (uh hg _ _)
       ·have hf:=hide (show true=r by rw [←uh he'];simp [k4,a0,a4,b0,b4])
        have k4':(k == 4)=false:=by simp [k4]
        go_enter Tryz.func30,Tryz.ntmps30
        go_wp2
        go_ret
        exact ret_says (by rw [←uh hf];simp [k4]) (uh hg _ _)
      ·have hf:=hide (show false=r by rw [←uh he'];simp [b4])
       go_enter Tryz.func30,Tryz.ntmps30
       go_wp2
       go_ret
       exact ret_says (uh hf) (uh hg _ _)
     ·have hf:=hide (show false=r by rw [←uh he'];simp [b0])
      go_enter Tryz.func30,Tryz.ntmps30
      go_wp2
      go_ret
      exact ret_says (uh hf) (uh hg _ _)
    ·have hf:=hide (show false=r by rw [←uh he'];simp [a4])
     go_enter Tryz.func30,Tryz.ntmps30
     go_wp2
     go_ret
     exact ret_says (uh hf) (uh hg _ _)
   ·have hf:=hide (show false=r by rw [←uh he'];simp [a0])
    go_enter Tryz.func30,Tryz.ntmps30
    go_wp2
    go_ret
    exact ret_says (uh hf) (uh hg _ _)
  ·by_cases p3:p=3
   ·subst p3
    have he:=uh hr'
    unfold Gd.fitsB at he
    rw [uh ek,Bool.true_and,if_neg (by decide),if_neg (by decide),if_pos rfl,Gd.serves_7] at he
    have he':=hide he
    clear he p1 p2
    unfold Gd.isSeat at he'
    by_cases a0:0≤a
    ·by_cases a4:a<4
     ·by_cases k2:k=2
      ·subst k2
       by_cases b0:b=0
       ·have hf:=hide (show true=r by rw [←uh he'];simp [a0,a4,b0])
        subst b0
        go_enter Tryz.func30,Tryz.ntmps30
        go_wp2
        go_ret
        exact ret_says (uh hf) (uh hg _ _)
       ·have hf:=hide (show false=r by rw [←uh he'];simp [b0])
        have b0':(b == 0)=false:=by simp [b0]
        go_enter Tryz.func30,Tryz.ntmps30
        go_wp2
        go_ret
        exact ret_says (uh hf) (uh hg _ _)
      ·have k2':(k == 2)=false:=by simp [k2]
       by_cases k3:k=3
       ·subst k3
        by_cases b1:b=1
        ·have hf:=hide (show true=r by rw [←uh he'];simp [a0,a4,b1])
         subst b1
         go_enter Tryz.func30,Tryz.ntmps30
         go_wp2
         go_ret
         exact ret_says (uh hf) (uh hg _ _)
        ·have hf:=hide (show false=r by rw [←uh he'];simp [b1])
         have b1':(b == 1)=false:=by simp [b1]
         go_enter Tryz.func30,Tryz.ntmps30
         go_wp2
         go_ret
         exact ret_says (uh hf) (uh hg _ _)
       ·have hf:=hide (show false=r by rw [←uh he'];simp [k2,k3])
        have k3':(k == 3)=false:=by simp [k3]
        go_enter Tryz.func30,Tryz.ntmps30
        go_wp2
        go_ret
        exact ret_says (uh hf) (uh hg _ _)
     ·have hf:=hide (show false=r by rw [←uh he'];simp [a4])
      go_enter Tryz.func30,Tryz.ntmps30
      go_wp2
      go_ret
      exact ret_says (uh hf) (uh hg _ _)
    ·have hf:=hide (show false=r by rw [←uh he'];simp [a0])
     go_enter Tryz.func30,Tryz.ntmps30
     go_wp2
     go_ret
     exact ret_says (uh hf) (uh hg _ _)
   ·by_cases p4:p=4
    ·subst p4
     have he:=uh hr'
     unfold Gd.fitsB at he
     rw [uh ek,Bool.true_and,if_neg (by decide),if_neg (by decide),if_neg (by decide),if_pos rfl] at he
     have he':=hide he
     clear he p1 p2 p3
     by_cases a0:0≤a
     ·by_cases a3:a<3
      ·by_cases b0:b=0
       ·by_cases k4:k=4
        ·have hf:=hide (show false=r by rw [←uh he'];simp [k4])
         subst k4
         go_enter Tryz.func30,Tryz.ntmps30
         go_wp2
         go_ret
         exact ret_says (uh hf) (uh hg _ _)
        ·have hf:=hide (show true=r by rw [←uh he'];simp [k4,a0,a3,b0])
         have k4':(k == 4)=false:=by simp [k4]
         subst b0
         go_enter Tryz.func30,Tryz.ntmps30
         go_wp2
         go_ret
         exact ret_says (by rw [←uh hf];simp [k4]) (uh hg _ _)
       ·have hf:=hide (show false=r by rw [←uh he'];simp [b0])
        have b0':(b == 0)=false:=by simp [b0]
        go_enter Tryz.func30,Tryz.ntmps30
        go_wp2
        go_ret
        exact ret_says (uh hf) (uh hg _ _)
      ·have hf:=hide (show false=r by rw [←uh he'];simp [a3])
       go_enter Tryz.func30,Tryz.ntmps30
       go_wp2
       go_ret
       exact ret_says (uh hf) (uh hg _ _)
     ·have hf:=hide (show false=r by rw [←uh he'];simp [a0])
      go_enter Tryz.func30,Tryz.ntmps30
      go_wp2
      go_ret
      exact ret_says (uh hf) (uh hg _ _)
    ·have he:=uh hr'
     unfold Gd.fitsB at he
     rw [uh ek,Bool.true_and,if_neg p1,if_neg p2,if_neg p3,if_neg p4] at he
     have he':=hide he
     clear he
     go_enter Tryz.func30,Tryz.ntmps30
     go_wp2
     go_ret
     exact ret_says (uh he') (uh hg _ _)

end Go.Proofs.YtbanjoflgoiegabGreat
