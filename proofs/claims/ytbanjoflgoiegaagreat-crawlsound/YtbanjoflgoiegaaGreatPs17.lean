import Derived.Test.YtbanjoflgoiegaaGreatPs15
import Derived.Test.YtbanjoflgoiegaaGreatPs16
import Derived.Laws.BytesArg
import Derived.ChangeKeysEq
namespace Go.Proofs.YtbanjoflgoiegaaGreat
open Go.RowKit

def Nv.blk (E:Nat→Nat→Int) (n m:Nat) (c:Nat):Bool:=if c=m then false else Nv.st E n c

def Nv.wayFrom (q:Nat→Bool):Nat→Nat→Int
 | 0,_=>0
 | m+1,k=>if q k=true then (k:Int) else Nv.wayFrom q m (k+1)

theorem Nv.way_hit {q:Nat→Bool}:∀(m k i:Nat),(∀j,i≤j→j<k→q j=false)→q k=true→i≤k→k<i+m→Nv.wayFrom q m i=(k:Int)
  | 0,k,i,_,_,h1,h2=>by omega
  | m + 1, k, i, hno, hk, h1, h2 => by
      unfold Nv.wayFrom
      by_cases e:i=k
      · rw [e,if_pos hk]
      · rw [if_neg (by rw [hno i (Nat.le_refl _) (by omega)];simp),Nv.way_hit m k (i+1) (fun j hj1 hj2=>hno j (by omega) hj2) hk (by omega) (by omega)]

theorem Nv.way_none {q:Nat→Bool}:∀(m i:Nat),(∀j,i≤j→j<i+m→q j=false)→Nv.wayFrom q m i=0
  | 0,_,_=>rfl
  | m + 1, i, hno => by
      unfold Nv.wayFrom
      rw [if_neg (by rw [hno i (Nat.le_refl _) (by omega)];simp),Nv.way_none m (i+1) (fun j hj1 hj2=>hno j (by omega) (by omega))]

def Nv.next (m k:Nat):Int:=Nv.num (((m % 24:Nat):Int)+(Fx.way (k:Int)).1) (((m / 24:Nat):Int)+(Fx.way (k:Int)).2)

def Nv.may (F:Nat→Int) (st:Nat→Bool) (m k:Nat):Bool:=decide (0≤Nv.next m k) && (decide (F (Nv.next m k).toNat=F m - 1) && !(st (Nv.next m k).toNat))

def Nv.step (F:Nat→Int) (st:Nat→Bool) (m:Nat):Int:=if F m<1 then 0 else Nv.wayFrom (Nv.may F st m) 4 1

theorem Nv.next_cases (m k:Nat):Nv.next m k=-1∨∃p:Nat,p<384∧Nv.next m k=(p:Int):=Nv.num_cases _ _

theorem Nv.next_ne {m k p:Nat} (hk:1≤k) (hk4:k≤4) (h:Nv.next m k=(p:Int)):p≠m:=by
 obtain ⟨e1,e2,_⟩:=Nv.num_at h
 rintro rfl
 rcases (show k=1∨k=2∨k=3∨k=4 by omega) with rfl | rfl | rfl | rfl
 ·rw [show (Fx.way ((1:Nat):Int)).2=-1 from rfl] at e2;omega
 ·rw [show (Fx.way ((2:Nat):Int)).1=1 from rfl] at e1;omega
 ·rw [show (Fx.way ((3:Nat):Int)).2=1 from rfl] at e2;omega
 ·rw [show (Fx.way ((4:Nat):Int)).1=-1 from rfl] at e1;omega

theorem Nv.may_out {F:Nat→Int} {st:Nat→Bool} {m k:Nat} (h:Nv.next m k=-1):Nv.may F st m k=false:=by
 unfold Nv.may
 rw [h]
 rfl

theorem Nv.may_in {F:Nat→Int} {st:Nat→Bool} {m k p:Nat} (h:Nv.next m k=(p:Int)):Nv.may F st m k=(decide (F p=F m - 1) && !(st p)):=by
 unfold Nv.may
 rw [h,Int.toNat_natCast,decide_eq_true (by omega),Bool.true_and]

def Nv.IsToward (f t:Nat→Int) (tlen:Nat) (E:Nat→Nat→Int) (n:Nat) (x y v:Int):Prop :=
 (Nv.num x y=-1∧v=0)∨∃(m:Nat) (F:Nat→Int),Nv.num x y=(m:Int)∧Gr.IsField (fun i=>Gr.openB f 384 (Nv.blk E n m) i=true) (Gr.tgt f t tlen) F∧v=Nv.step F (Nv.st E n) m

def Nv.SaysToward (w:World) (f t:Nat→Int) (tlen:Nat) (E:Nat→Nat→Int) (n:Nat) (x y:Int) (e:Ending) (w':World):Prop:=∃v,Nv.IsToward f t tlen E n x y v∧e=.returned (.int .i64 v)∧w.grownBy w' none

set_option maxRecDepth 8000 in
set_option maxHeartbeats 1600000 in
theorem navToward_any (ca a ta:Option Addr) (cc n c tlen tc:Nat) (f t:Nat→Int) (E:Nat→Nat→Int) (x y:Int) (w:World)
  (hc:Vec w.heap.size w ca 384 (Byts f)) (hf:∀i,0≤f i∧f i≤255) (hL:Nv.Lst w a n c E) (hW:Nv.Words n E) (ht:Vec w.heap.size w ta tlen (Ints t)) (htb:∀i,-9223372036854775808≤t i∧t i≤9223372036854775807)
  (x1:-9223372036854775808≤x) (x2:x≤9223372036854775807) (y1:-9223372036854775808≤y) (y2:y≤9223372036854775807) :
  Calls Tryz.prog 215 #[.slice ca 384 cc,.slice a n c,.int .i64 x,.int .i64 y,.slice ta tlen tc] w (Nv.SaysToward w f t tlen E n x y):=by
 have hc':=hide hc
 have hf':=hide hf
 have hL':=hide hL
 have hW':=hide hW
 have ht':=hide ht
 have htb':=hide htb
 have cn:=hide (fun w'=>numberAt_any x y w' x1 x2 y1 y2)
 clear hc hf hL hW ht htb
 go_enter Tryz.func215,Tryz.ntmps215
 go_wp2_with fail
 refine (point_any _ _ _).mono ?_
 rintro e w1 ⟨rfl,rfl⟩
 go_wp2_with fail
 refine (uh cn _).mono ?_
 rintro e w1 ⟨rfl,rfl⟩
 rcases Nv.num_cases x y with hm | ⟨m,hm,hme⟩
 ·rw [hm]
  have he:Hid (Nv.IsToward f t tlen E n x y 0):=.inl ⟨hm,rfl⟩
  clear hm x1 x2 y1 y2
  go_wp2
  go_ret
  exact ⟨0,uh he,rfl,World.grownBy.refl _ _⟩
 rw [hme]
 have hme':=hide hme
 obtain ⟨ex,ey,_⟩:=Nv.num_at hme
 have hm':(m:Int)<384:=by omega
 have HM:=hide hm
 have ex':=hide ex
 have ey':=hide ey
 clear hm hme x1 x2 y1 y2 cn ex ey
 go_wp2_with fail
 refine (taken_any a n c E _ (uh hL') (uh hW')).mono ?_
 rintro e w2 ⟨g,rfl,hg,hA,hB⟩
 have hcc:=hA.cell (uh HM)
 have hff:=hA.free m
 obtain ⟨w3,hw3⟩:∃w3,w3=w2.setCell ⟨g,m,none⟩ (.bool false):=⟨_,rfl⟩
 have hA3:Arr w3 g 4 384 (Bols (Nv.blk E n m)):=by
  rw [hw3]
  refine (hA.store m (.bool false)).congr fun j _=>?_
  show _=Value.bool (if j=m then false else Nv.st E n j)
  by_cases e:j=m
  ·rw [if_pos e,if_pos e]
  ·rw [if_neg e,if_neg e];rfl
 have hB3:Below w1.heap.size w1 w3:=by rw [hw3];exact hB.setCell hg _
 have hw3':=hide hw3
 have hA3':=hide hA3
 have hB3':=hide hB3
 have cF:=hide (field_any ca (some ⟨g,0,none⟩) ta 384 tlen cc 384 tc f t (Nv.blk E n m) w3 (((uh hc').kept hB3).mono hB3.size) (uh hf') (hA3.vec _ hA3.lt (by unfold maxLen;omega)) (((uh ht').kept hB3).mono hB3.size) (uh htb'))
 clear hA hB hA3 hB3 hw3
 go_wp2_with fail
 rw [←uh hw3']
 refine (uh cF).mono ?_
 rintro e w4 ⟨F,⟨g2,rfl,hg2,hA4,hB4⟩,hF⟩
 have hstep:Nv.IsToward f t tlen E n x y (Nv.step F (Nv.st E n) m):=.inr ⟨m,F,uh hme',hF,rfl⟩
 have hgw:w1.grownBy w4 none:=below_grown ((uh hB3').trans (hB4.mono (uh hB3').size))
 have hAb:=(uh hA3').kept hB4 (uh hA3').lt
 have hhi:F m≤400:=by
  by_cases h0:0≤F m
  ·have:=fieldHigh hF (F m).toNat m (uh HM) (by omega)
   omega
  ·omega
 have hAb':=hide hAb
 have hA4':=hide hA4
 have hgw':=hide hgw
 have hst':=hide hstep
 have hc4:w4.cell? ⟨g2,m,none⟩=some (.int .i64 (F m)):=hA4.cell (uh HM)
 have rA:=hide (Fl.rep_int x (by rw [uh ex'];omega) (by rw [uh ex'];omega))
 have rB:=hide (Fl.rep_int y (by rw [uh ey'];omega) (by rw [uh ey'];omega))
 generalize floatOfInt FloatKind.f64 x=A at *
 generalize floatOfInt FloatKind.f64 y=B at *
 clear hAb hA4 hgw hstep hg2 hB4 cF hcc hff hw3' hA3' hB3' hF hme'
 by_cases hlo:F m<1
 ·have hr:Hid (Nv.IsToward f t tlen E n x y 0):=by
   have h:=uh hst'
   rwa [show Nv.step F (Nv.st E n) m=0 from if_pos hlo] at h
  go_wp2
  go_ret
  exact ⟨0,uh hr,rfl,uh hgw'⟩
 have hr:Hid (Nv.IsToward f t tlen E n x y (Nv.wayFrom (Nv.may F (Nv.st E n) m) 4 1)):=by
  have h:=uh hst'
  rwa [show Nv.step F (Nv.st E n) m=Nv.wayFrom (Nv.may F (Nv.st E n) m) 4 1 from if_neg hlo] at h
 clear hst'
 go_wp2_with fail
 go_loopw [15] (fun i wr=>∃k:Nat,1≤k∧k≤5∧i=.int .i64 (k:Int)∧(∀j:Nat,1≤j→j<k→Nv.may F (Nv.st E n) m j=false)∧w4.grownBy wr none) (fun i _=>5 - (intOf i).toNat)
 case atStart=>exact ⟨1,by omega,by omega,rfl,fun j h1 h2=>by omega,World.grownBy.refl _ _⟩
 case round =>
  obtain ⟨k,h1,h5,rfl,hno,hgr⟩:=hrel
  have hno':=hide hno
  have hgr':=hide hgr
  have hc5:wr.cell? ⟨g2,m,none⟩=some (.int .i64 (F m)):=((uh hA4').grown hgr (by simp)).cell (uh HM)
  clear hno hgr hc4
  by_cases hlt:k≤4
  ·have hlt':(k:Int)≤4:=by omega
   have HL:=hide hlt
   have H1:=hide h1
   have wb:=hide (Fx.way_bd (k:Int))
   clear hlt h1 h5
   go_wp2_with fail
   refine (step_rep _ _).mono ?_
   rintro e wx ⟨a2,b2,rfl,ra,rb,rfl⟩
   obtain ⟨d1,d2,d3,d4⟩:=uh wb
   obtain ⟨ra3,ea,Ra⟩:=Fl.rep_add (uh rA) ra (by rw [uh ex'];omega) (by rw [uh ex'];omega)
   obtain ⟨rb3,eb,Rb⟩:=Fl.rep_add (uh rB) rb (by rw [uh ey'];omega) (by rw [uh ey'];omega)
   have hsum:=fun wq:World=>run_complex_sum (P:=Tryz.prog) wq .add (.inl rfl) 173 .f64 A B a2 b2 ra3 rb3 (by unfold cSumBits;rw [ea,eb];rfl)
   have cN:=hide (fun wq=>navNumber_any ra3 rb3 _ _ wq (Fl.std_rep Ra) (Fl.std_rep Rb))
   have hnx:Hid (Nv.num (x+(Fx.way (k:Int)).1) (y+(Fx.way (k:Int)).2)=Nv.next m k):=by show _=Nv.num _ _;rw [uh ex',uh ey']
   rw [uh hnx] at cN
   clear ra rb ea eb Ra Rb d1 d2 d3 d4
   go_wp2_with fail
   refine (uh cN _).mono ?_
   rintro e wy ⟨rfl,rfl⟩
   clear hsum cN hnx wb
   have hup:Hid (Nv.may F (Nv.st E n) m k=false→∀j:Nat,1≤j→j<k+1→Nv.may F (Nv.st E n) m j=false):=fun h j h1 h2=>by
    by_cases e:j=k
    ·rw [e];exact h
    ·exact uh hno' j h1 (by omega)
   rcases Nv.next_cases m k with hn | ⟨p,hp,hn⟩
   ·rw [hn]
    have hno2:=hide (uh hup (Nv.may_out hn))
    clear hn
    go_wp2_with fail
    go_quiet (fail)
    go_wp2
    go_roundw
    case rel=>exact ⟨k+1,by have:=uh H1;omega,by have:=uh HL;omega,by go_num,uh hno2,gdw (uh hgr') _⟩
    case measure=>have:=uh HL;simp [intOf];omega
   ·rw [hn]
    have hmay:=Nv.may_in (F:=F) (st:=Nv.st E n) hn
    have hpm:=Nv.next_ne (uh H1) (uh HL) hn
    have hc6:wy.cell? ⟨g2,p,none⟩=some (.int .i64 (F p)):=((uh hA4').grown (uh hgr') (by simp)).cell hp
    have hc7:wy.cell? ⟨g,p,none⟩=some (.bool (Nv.st E n p)):=by
     have h:wy.cell? ⟨g,p,none⟩=some (.bool (if p=m then false else Nv.st E n p)):=((uh hAb').grown (uh hgr') (by simp)).cell hp
     rwa [if_neg hpm] at h
    have hp':(p:Int)<384:=by omega
    by_cases hq:F p=F m - 1
    ·have hq':(F p == F m - 1)=true:=by rw [beq_iff_eq];exact hq
     rw [decide_eq_true hq,Bool.true_and] at hmay
     clear hn hpm hq hp
     by_cases hs:Nv.st E n p=true
     ·rw [hs] at hc7 hmay
      have hno2:=hide (uh hup hmay)
      clear hs hmay
      go_wp2_with fail
      go_quiet (fail)
      go_wp2
      go_roundw
      case rel=>exact ⟨k+1,by have:=uh H1;omega,by have:=uh HL;omega,by go_num,uh hno2,gdw (uh hgr') _⟩
      case measure=>have:=uh HL;simp [intOf];omega
     ·rw [Bool.not_eq_true] at hs
      rw [hs] at hc7 hmay
      have hr2:Hid (Nv.IsToward f t tlen E n x y (k:Int)):=by
       have h:=uh hr
       rwa [Nv.way_hit 4 k 1 (uh hno') hmay (uh H1) (by have:=uh HL;omega)] at h
      clear hs hmay
      go_wp2_with fail
      go_quiet (fail)
      go_wp2
      go_ret
      exact ⟨_,uh hr2,rfl,gtr (uh hgw') (gdw (uh hgr') _)⟩
    ·have hq':(F p == F m - 1)=false:=by rw [beq_eq_false_iff_ne];exact hq
     rw [decide_eq_false hq,Bool.false_and] at hmay
     have hno2:=hide (uh hup hmay)
     clear hn hpm hq hp hmay hc7
     go_wp2_with fail
     go_quiet (fail)
     go_wp2
     go_roundw
     case rel=>exact ⟨k+1,by have:=uh H1;omega,by have:=uh HL;omega,by go_num,uh hno2,gdw (uh hgr') _⟩
     case measure=>have:=uh HL;simp [intOf];omega
  ·have hge:¬(k:Int)≤4:=by omega
   have hr2:Hid (Nv.IsToward f t tlen E n x y 0):=by
    have h:=uh hr
    rwa [Nv.way_none 4 1 fun j h1 h2=>uh hno' j h1 (by omega)] at h
   go_wp2
   go_ret
   exact ⟨0,uh hr2,rfl,gtr (uh hgw') (uh hgr')⟩


open Go.RowKit

def Nv.best (F:Nat→Int) (st:Nat→Bool):Nat→Int
 | 0=>-1
 | k+1=>if 0≤F k∧st k=false∧(Nv.best F st k<0∨F k<F (Nv.best F st k).toNat) then (k:Int) else Nv.best F st k

theorem Nv.best_cases (F:Nat→Int) (st:Nat→Bool):∀k,Nv.best F st k=-1∨∃p:Nat,p<k∧Nv.best F st k=(p:Int)
  | 0=>.inl rfl
  | k + 1 => by
      unfold Nv.best
      split
      · exact .inr ⟨k,by omega,rfl⟩
      · rcases Nv.best_cases F st k with h | ⟨p,hp,h⟩
        · exact .inl h
        · exact .inr ⟨p,by omega,h⟩

theorem Nv.best_skip {F:Nat→Int} {st:Nat→Bool} {k:Nat} (h:F k<0∨st k=true):Nv.best F st (k+1)=Nv.best F st k:=by
 show (if _ then _ else _)=_
 rw [if_neg]
 rintro ⟨h1,h2,_⟩
 rcases h with h | h
 ·omega
 ·rw [h] at h2;cases h2

theorem Nv.best_first {F:Nat→Int} {st:Nat→Bool} {k:Nat} (h1:0≤F k) (h2:st k=false) (h:Nv.best F st k=-1):Nv.best F st (k+1)=(k:Int):=by
 show (if _ then _ else _)=_
 rw [if_pos ⟨h1,h2,.inl (by omega)⟩]

theorem Nv.best_less {F:Nat→Int} {st:Nat→Bool} {k p:Nat} (h1:0≤F k) (h2:st k=false) (h:Nv.best F st k=(p:Int)) (hlt:F k<F p):Nv.best F st (k+1)=(k:Int):=by
 show (if _ then _ else _)=_
 rw [if_pos ⟨h1,h2,.inr (by rw [h,Int.toNat_natCast];exact hlt)⟩]

theorem Nv.best_more {F:Nat→Int} {st:Nat→Bool} {k p:Nat} (h:Nv.best F st k=(p:Int)) (hlt:¬F k<F p):Nv.best F st (k+1)=Nv.best F st k:=by
 show (if _ then _ else _)=_
 rw [if_neg]
 rintro ⟨_,_,h3 | h3⟩
 ·omega
 ·rw [h,Int.toNat_natCast] at h3;exact hlt h3

def Nv.IsSpot (f:Nat→Int) (E:Nat→Nat→Int) (n:Nat) (x y v:Int):Prop :=
 ∃F:Nat→Int,Gr.IsField (fun i=>Gr.openB f 0 (fun _=>false) i=true) (Gr.tgt f (fun _=>Nv.num x y) 1) F∧v=Nv.best F (Nv.st E n) 384

def Nv.SaysSpot (w:World) (f:Nat→Int) (E:Nat→Nat→Int) (n:Nat) (x y:Int) (e:Ending) (w':World):Prop:=∃v,Nv.IsSpot f E n x y v∧e=.returned (.int .i64 v)∧w.grownBy w' none

theorem Nv.num_bd (x y:Int):-1≤Nv.num x y∧Nv.num x y<384:=by
 rcases Nv.num_cases x y with h | ⟨p,hp,h⟩ <;> omega

theorem Nv.one_row (w:World) (v:Int) (T:TypeId):Vec (w.alloc (.cells #[.int .i64 v] T)).heap.size (w.alloc (.cells #[.int .i64 v] T)) (some ⟨w.heap.size,0,none⟩) 1 (Ints fun _=>v) :=
 ⟨by unfold maxLen;omega,.inr ⟨_,0,rfl,by simp,fun i hi=>by
  obtain rfl:i=0:=by omega
  exact cell_boxed w _ T _ rfl⟩⟩

set_option maxRecDepth 8000 in
set_option maxHeartbeats 1600000 in
theorem navSpot_any (ca a:Option Addr) (cc n c:Nat) (f:Nat→Int) (E:Nat→Nat→Int) (x y:Int) (w:World)
  (hc:Vec w.heap.size w ca 384 (Byts f)) (hf:∀i,0≤f i∧f i≤255) (hL:Nv.Lst w a n c E) (hW:Nv.Words n E)
  (x1:-9223372036854775808≤x) (x2:x≤9223372036854775807) (y1:-9223372036854775808≤y) (y2:y≤9223372036854775807) :
  Calls Tryz.prog 144 #[.slice ca 384 cc,.slice a n c,.int .i64 x,.int .i64 y] w (Nv.SaysSpot w f E n x y):=by
 have hc':=hide hc
 have hf':=hide hf
 have hL':=hide hL
 have hW':=hide hW
 have cn:=hide (fun w'=>numberAt_any x y w' x1 x2 y1 y2)
 have hv:=hide (Nv.num_bd x y)
 have hs0:Hid (∀F,Gr.IsField (fun i=>Gr.openB f 0 (fun _=>false) i=true) (Gr.tgt f (fun _=>Nv.num x y) 1) F→Nv.IsSpot f E n x y (Nv.best F (Nv.st E n) 384)):=fun F h=>⟨F,h,rfl⟩
 generalize Nv.num x y=v at *
 clear hc hf hL hW x1 x2 y1 y2
 go_enter Tryz.func144,Tryz.ntmps144
 go_wp2_with fail
 refine (taken_any a n c E _ (uh hL') (uh hW')).mono ?_
 rintro e w2 ⟨g,rfl,hg,hA,hB⟩
 have hA':=hide hA
 have hB':=hide hB
 clear hA hB
 go_wp2_with fail
 refine (point_any _ _ _).mono ?_
 rintro e w1 ⟨rfl,rfl⟩
 go_wp2_with fail
 refine (uh cn _).mono ?_
 rintro e w1 ⟨rfl,rfl⟩
 go_wp2_with fail
 obtain ⟨w3,hw3⟩:∃w3,w3=w1.alloc (.cells #[.int .i64 v] 3):=⟨_,rfl⟩
 have hB3:Below w.heap.size w w3:=by rw [hw3];exact (uh hB').alloc (uh hB').size _
 have hA3:Arr w3 g 4 384 (Bols (Nv.st E n)):=by rw [hw3];exact (uh hA').alloc _
 have hV:Vec w3.heap.size w3 (some ⟨w1.heap.size,0,none⟩) 1 (Ints fun _=>v):=by rw [hw3];exact Nv.one_row w1 v _
 obtain ⟨v1,v2⟩:=uh hv
 rw [←hw3]
 refine (field_any ca none (some ⟨w1.heap.size,0,none⟩) 0 1 cc 0 1 f (fun _=>v) (fun _=>false) w3 (((uh hc').kept hB3).mono hB3.size) (uh hf') ⟨by unfold maxLen;omega,.inl rfl⟩ hV (fun _=>⟨by omega,by omega⟩)).mono ?_
 rintro e w4 ⟨F,⟨g2,rfl,hg2,hA4,hB4⟩,hF⟩
 have hspot:=hide (uh hs0 F hF)
 have hgw':=hide (below_grown (hB3.trans (hB4.mono hB3.size)))
 have hAb':=hide (hA3.kept hB4 hA3.lt)
 have hA4':=hide hA4
 clear hA4 hB4 hA3 hV hB3 hw3 hF hs0 v1 v2 cn hA' hB' hg2
 go_wp2_with fail
 go_loop [11,25] (fun s i=>∃k:Nat,k≤384∧s=.int .i64 (Nv.best F (Nv.st E n) k)∧i=.int .i64 (k:Int)) (fun _ i=>384 - (intOf i).toNat)
 case atStart=>exact ⟨0,by omega,rfl,rfl⟩
 case round =>
  obtain ⟨k,hk,rfl,rfl⟩:=hrel
  by_cases hlt:k<384
  ·have hlt':(k:Int)<384:=by omega
   have HL:=hide hlt
   have hck:w4.cell? ⟨g2,k,none⟩=some (.int .i64 (F k)):=(uh hA4').cell hlt
   have hcs:w4.cell? ⟨g,k,none⟩=some (.bool (Nv.st E n k)):=(uh hAb').cell hlt
   clear hlt hk
   by_cases h1:F k<0
   ·have hb:=hide (Nv.best_skip (F:=F) (st:=Nv.st E n) (k:=k) (.inl h1))
    generalize Nv.best F (Nv.st E n) k=r at hb
    go_wp2
    go_round
    case rel=>exact ⟨k+1,by have:=uh HL;omega,by rw [uh hb],by go_num⟩
    case measure=>have:=uh HL;simp [intOf];omega
   ·by_cases h2:Nv.st E n k=true
    ·have hb:=hide (Nv.best_skip (F:=F) (st:=Nv.st E n) (k:=k) (.inr h2))
     rw [h2] at hcs
     generalize Nv.best F (Nv.st E n) k=r at hb
     clear h2
     go_wp2
     go_round
     case rel=>exact ⟨k+1,by have:=uh HL;omega,by rw [uh hb],by go_num⟩
     case measure=>have:=uh HL;simp [intOf];omega
    ·rw [Bool.not_eq_true] at h2
     rw [h2] at hcs
     rcases Nv.best_cases F (Nv.st E n) k with e | ⟨p,hp,e⟩
     ·have hb:=hide (Nv.best_first (by omega) h2 e)
      rw [e]
      clear h2 e
      go_wp2
      go_round
      case rel=>exact ⟨k+1,by have:=uh HL;omega,by rw [uh hb],by go_num⟩
      case measure=>have:=uh HL;simp [intOf];omega
     ·have hcp:w4.cell? ⟨g2,p,none⟩=some (.int .i64 (F p)):=(uh hA4').cell (by have:=uh HL;omega)
      have hp':(p:Int)<384:=by have:=uh HL;omega
      by_cases h3:F k<F p
      ·have hb:=hide (Nv.best_less (by omega) h2 e h3)
       rw [e]
       clear h2 e hp
       go_wp2
       go_round
       case rel=>exact ⟨k+1,by have:=uh HL;omega,by rw [uh hb],by go_num⟩
       case measure=>have:=uh HL;simp [intOf];omega
      ·have hb:=hide ((Nv.best_more (st:=Nv.st E n) e h3).trans e)
       rw [e]
       clear h2 e hp
       go_wp2
       go_round
       case rel=>exact ⟨k+1,by have:=uh HL;omega,by rw [uh hb],by go_num⟩
       case measure=>have:=uh HL;simp [intOf];omega
  ·have hge:¬(k:Int)<384:=by omega
   obtain rfl:k=384:=by omega
   generalize Nv.best F (Nv.st E n) 384=r at hspot
   go_wp2
   go_ret
   exact ⟨_,uh hspot,rfl,uh hgw'⟩


open Go.RowKit

def Gd.text (c:Nat→Int):ByteArray:=strOfNums ((List.range 384).map c)

theorem Lie.text {w:World} {G cap:Nat} {c:Nat→Int} (h:Lie w G 5 384 (Byts c)):(convert 25 9 (.slice (some ⟨G,0,none⟩) 384 cap)).run Tryz.prog w=.ok (.string (Gd.text c)) w:=by
 refine run_convert_bytes_arg w 25 5 Tryz.underlying25 Tryz.underlying5 G 0 384 cap ((List.range 384).map c) (by simp) (fun i hi=>?_) 9 Tryz.underlying9
 rw [Nat.zero_add,h.cell hi]
 show some (Value.int .u8 (c i))=_
 simp [List.getD,List.getElem?_map,List.getElem?_range hi]

end Go.Proofs.YtbanjoflgoiegaaGreat
