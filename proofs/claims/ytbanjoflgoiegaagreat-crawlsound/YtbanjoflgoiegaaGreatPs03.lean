import Derived.Test.YtbanjoflgoiegaaGreatPs01
import Derived.ScopeJumps
import Derived.WalkMore
namespace Go.Proofs.YtbanjoflgoiegaaGreat
open Go.RowKit

def Gr.kind (len:Nat) (f:Nat→Int) (c:Int):Int:=if 0≤c∧c<384∧c.toNat<len then f c.toNat else 0

theorem Gr.kind_at (len:Nat) (f:Nat→Int) (c:Int) (h:0≤c):Gr.at len f (c % 24) (c / 24)=Gr.kind len f c:=by
 have e:c / 24*24+c % 24=c:=by omega
 have hi:=Gr.inB_iff (c % 24) (c / 24)
 unfold Gr.at Gr.kind
 rw [e]
 by_cases hc:c<384∧c.toNat<len
 ·rw [if_pos ⟨hi.2 (by omega),hc.2⟩,if_pos ⟨h,hc⟩]
 ·rw [if_neg (fun hh=>hc ⟨by have:=hi.1 hh.1;omega,hh.2⟩),if_neg (by omega)]

theorem Gr.tdiv_low (c:Int) (h:c<0) (hb:-9223372036854775808≤c):-9223372036854775808≤c.tdiv 24∧c.tdiv 24≤0∧-24≤c.tmod 24∧c.tmod 24≤0∧24*c.tdiv 24+c.tmod 24=c:=by
 have h1:=Int.mul_tdiv_add_tmod c 24
 have h2:=Int.lt_tmod_of_pos c (b:=24) (by omega)
 have h3:c.tmod 24≤0:=by
  have:=Int.tmod_nonneg (a:=-c) 24 (by omega)
  rw [Int.neg_tmod] at this
  omega
 omega

theorem Gr.kind_at_low (len:Nat) (f:Nat→Int) (c:Int) (h:c<0) (hb:-9223372036854775808≤c):Gr.at len f (c.tmod 24) (c.tdiv 24)=Gr.kind len f c:=by
 obtain ⟨_,h1,_,h2,h3⟩:=Gr.tdiv_low c h hb
 have hi:=Gr.inB_iff (c.tmod 24) (c.tdiv 24)
 unfold Gr.at Gr.kind
 rw [if_neg (fun hh=>by have:=hi.1 hh.1;omega),if_neg (by omega)]

set_option maxHeartbeats 400000 in
theorem kindOf_any (B:Nat) (a:Option Addr) (len cap:Nat) (f:Nat→Int) (c:Int) (w:World) (h:Vec B w a len (Byts f)) (hf:∀i,0≤f i∧f i≤255) (hb:-9223372036854775808≤c) (hb2:c≤9223372036854775807) :
  Calls Tryz.prog 176 #[.slice a len cap,.int .i64 c] w fun e w'=>e=.returned (.int .i64 (Gr.kind len f c))∧w'=w:=by
 have hv:=hide h
 have hf':=hide hf
 clear h hf
 by_cases hc:0≤c
 ·have hd:=hide (Gr.kind_at len f c hc)
  go_enter Tryz.func176,Tryz.ntmps176
  go_wp2_with fail
  refine (at_any B _ _ _ _ _ _ _ (uh hv) (uh hf')).mono ?_
  rintro e w' ⟨rfl,rfl⟩
  go_wp2
  go_ret
  exact ⟨rti (uh hd),rfl⟩
 ·have hd:=hide (Gr.kind_at_low len f c (by omega) hb)
  obtain ⟨b1,b2,_,_,_⟩:=Gr.tdiv_low c (by omega) hb
  go_enter Tryz.func176,Tryz.ntmps176
  go_wp2_with fail
  refine (at_any B _ _ _ _ _ _ _ (uh hv) (uh hf')).mono ?_
  rintro e w' ⟨rfl,rfl⟩
  go_wp2
  go_ret
  exact ⟨rti (uh hd),rfl⟩

theorem slice_bytes (a:Option Addr) (len cap k:Nat) (w:World) (hk:k≤cap) :
  (Instr.slice 25 (.slice a len cap) none (some (.int .i64 (k:Int))) none).run Tryz.prog w=.ok (.slice a k cap) w:=by
 have hs:(sizeOf (Tryz.prog.elem 25)).run Tryz.prog w=.ok 1 w:=by kernel_rfl
 rw [run_slice_h w 25 a len cap (by kernel_rfl) .i64 (k:Int) (by omega) (by omega),hs]
 have e:a.map (fun x=>x.add (0*1))=a:=by
  cases a with
  | none=>rfl
  | some x=>simp [Addr.add]
 simp only [Result.andThen,sliced,e,Int.toNat_natCast,Nat.sub_zero,ite_self]

def Gr.find (len:Nat) (f:Nat→Int) (kind:Int):Int:=Gr.findFrom f kind (min len 384) 0

theorem Gr.find_on (f:Nat→Int) (kind:Int) (n k:Nat) (hk:k<n):Gr.findFrom f kind (n - k) k=if f k=kind then (k:Int) else Gr.findFrom f kind (n - (k+1)) (k+1):=by
 obtain ⟨m,hm⟩:∃m,n - k=m+1:=⟨n - k - 1,by omega⟩
 rw [hm,show n - (k+1)=m by omega]
 rfl

theorem Gr.find_off (f:Nat→Int) (kind:Int) (n:Nat):Gr.findFrom f kind (n - n) n=-1:=by
 rw [Nat.sub_self];rfl

set_option maxHeartbeats 800000 in
theorem find_any (B:Nat) (a:Option Addr) (len cap:Nat) (f:Nat→Int) (kind:Int) (w:World) (h:Vec B w a len (Byts f)) (hf:∀i,0≤f i∧f i≤255) (hcap:len≤cap) :
  Calls Tryz.prog 78 #[.slice a len cap,.int .i64 kind] w fun e w'=>e=.returned (.int .i64 (Gr.find len f kind))∧w'=w:=by
 have hm:len≤9223372036854775807:=h.1
 have hf':=hide hf
 clear hf
 by_cases hl:len≤384
 ·have hsl:=fun wx=>slice_bytes a len cap len wx hcap
  have hv:=hide h
  have hR:Hid (Gr.find len f kind=Gr.findFrom f kind (len - 0) 0):=by
   show Gr.find len f kind=_
   unfold Gr.find
   rw [show min len 384=len - 0 by omega]
  have hl':(len:Int)≤384:=by omega
  clear h
  go_enter Tryz.func78,Tryz.ntmps78
  go_wp2_with fail
  go_loop [13] (fun i=>∃k:Nat,k≤len∧i=.int .i64 k∧Gr.findFrom f kind (len - k) k=Gr.find len f kind) (fun i=>len - (intOf i).toNat)
  case atStart=>exact ⟨0,Nat.zero_le _,rfl,(uh hR).symm⟩
  case round =>
   obtain ⟨k,hk,rfl,hr⟩:=hrel
   have hrr:=hide hr
   clear hr
   by_cases hlt:k<len
   ·obtain ⟨b,off,rfl,_,hc⟩:=(uh hv).at hlt
    have hc':w.cell? ⟨b,off+k,none⟩=some (.int .u8 (f k)):=hc
    obtain ⟨f1,f2⟩:=(uh hf') k
    clear hc
    have hlt':(k:Int)<(len:Int):=by omega
    have hon:=hide (Gr.find_on f kind len k hlt)
    by_cases he:f k=kind
    ·have he':(f k == kind)=true:=by simpa using he
     have hH:=hide he
     clear he
     go_wp2
     go_ret
     refine ⟨rti ?_,rfl⟩
     rw [←uh hrr,uh hon,if_pos (uh hH)]
    ·have he':(f k == kind)=false:=by simpa using he
     go_wp2
     go_round
     case rel =>
      refine ⟨k+1,by omega,by go_num,?_⟩
      rw [←uh hrr,uh hon,if_neg he]
     case measure=>simp [intOf];omega
   ·have hge:(len:Int)≤(k:Int):=by omega
    go_wp2
    go_ret
    refine ⟨rti ?_,rfl⟩
    rw [←uh hrr]
    obtain rfl:k=len:=by omega
    exact (Gr.find_off f kind _).symm
 ·have hsl:∀wx,(Instr.slice 25 (.slice a len cap) none (some (.int .i64 384)) none).run Tryz.prog wx=.ok (.slice a 384 cap) wx:=fun wx=>slice_bytes a len cap 384 wx (by omega)
  have hv:=hide (h.taken 384 (by omega))
  have hR:Hid (Gr.find len f kind=Gr.findFrom f kind (384 - 0) 0):=by
   show Gr.find len f kind=_
   unfold Gr.find
   rw [show min len 384=384 - 0 by omega]
  have hl':¬(len:Int)≤384:=by omega
  clear h
  go_enter Tryz.func78,Tryz.ntmps78
  go_wp2_with fail
  go_loop [13] (fun i=>∃k:Nat,k≤384∧i=.int .i64 k∧Gr.findFrom f kind (384 - k) k=Gr.find len f kind) (fun i=>384 - (intOf i).toNat)
  case atStart=>exact ⟨0,Nat.zero_le _,rfl,(uh hR).symm⟩
  case round =>
   obtain ⟨k,hk,rfl,hr⟩:=hrel
   have hrr:=hide hr
   clear hr
   by_cases hlt:k<384
   ·obtain ⟨b,off,rfl,_,hc⟩:=(uh hv).at hlt
    have hc':w.cell? ⟨b,off+k,none⟩=some (.int .u8 (f k)):=hc
    obtain ⟨f1,f2⟩:=(uh hf') k
    clear hc
    have hlt':(k:Int)<(384:Int):=by omega
    have hon:=hide (Gr.find_on f kind 384 k hlt)
    by_cases he:f k=kind
    ·have he':(f k == kind)=true:=by simpa using he
     have hH:=hide he
     clear he
     go_wp2
     go_ret
     refine ⟨rti ?_,rfl⟩
     rw [←uh hrr,uh hon,if_pos (uh hH)]
    ·have he':(f k == kind)=false:=by simpa using he
     go_wp2
     go_round
     case rel =>
      refine ⟨k+1,by omega,by go_num,?_⟩
      rw [←uh hrr,uh hon,if_neg he]
     case measure=>simp [intOf];omega
   ·have hk3:k=384:=by omega
    have hfin:Hid (Gr.find len f kind=-1):=by
     show Gr.find len f kind=-1
     rw [←uh hrr,hk3]
     exact Gr.find_off f kind 384
    have hge:¬(k:Int)<384:=by omega
    clear hk3 hk hlt hrr hR
    go_wp2
    go_ret
    exact ⟨rti (uh hfin).symm,rfl⟩

set_option maxHeartbeats 800000 in
theorem refFind_any (B:Nat) (a:Option Addr) (len cap:Nat) (f:Nat→Int) (kind:Int) (w:World) (h:Vec B w a len (Byts f)) (hf:∀i,0≤f i∧f i≤255) :
  Calls Tryz.prog 23 #[.slice a len cap,.int .i64 kind] w fun e w'=>e=.returned (.int .i64 (Gr.find len f kind))∧w'=w:=by
 have hm:len≤9223372036854775807:=h.1
 have hf':=hide hf
 have hv:=hide h
 obtain ⟨n,hn⟩:∃n:Nat,n=min len 384:=⟨_,rfl⟩
 have hR:Hid (Gr.find len f kind=Gr.findFrom f kind (n - 0) 0):=by
  show Gr.find len f kind=_
  unfold Gr.find
  rw [hn]
  rfl
 have hn1:n≤len:=by omega
 have hn2:n≤384:=by omega
 have hn3:¬n<len→n=len:=by omega
 have hN:=hide hn
 clear hf h hn
 go_enter Tryz.func23,Tryz.ntmps23
 go_wp2_with fail
 go_loop [5] (fun i=>∃k:Nat,k≤n∧i=.int .i64 k∧Gr.findFrom f kind (n - k) k=Gr.find len f kind) (fun i=>n - (intOf i).toNat)
 case atStart=>exact ⟨0,Nat.zero_le _,rfl,(uh hR).symm⟩
 case round =>
  obtain ⟨k,hk,rfl,hr⟩:=hrel
  have hrr:=hide hr
  clear hr hn3
  by_cases hlt:k<n
  ·obtain ⟨b,off,rfl,_,hc⟩:=((uh hv).taken n hn1).at hlt
   have hc':w.cell? ⟨b,off+k,none⟩=some (.int .u8 (f k)):=hc
   obtain ⟨f1,f2⟩:=(uh hf') k
   clear hc
   have hlt':(k:Int)<(len:Int):=by omega
   have hlt2:(k:Int)<384:=by omega
   have hon:=hide (Gr.find_on f kind n k hlt)
   by_cases he:f k=kind
   ·have he':(f k == kind)=true:=by simpa using he
    have hH:=hide he
    clear he
    go_wp2
    go_ret
    refine ⟨rti ?_,rfl⟩
    rw [←uh hrr,uh hon,if_pos (uh hH)]
   ·have he':(f k == kind)=false:=by simpa using he
    go_wp2
    go_round
    case rel =>
     refine ⟨k+1,by omega,by go_num,?_⟩
     rw [←uh hrr,uh hon,if_neg he]
    case measure=>simp [intOf];omega
  ·have hkn:k=n:=by omega
   have hfin:Hid (Gr.find len f kind=-1):=by
    show Gr.find len f kind=-1
    rw [←uh hrr,hkn]
    exact Gr.find_off f kind n
   by_cases hkl:(k:Int)<(len:Int)
   ·have hk3:¬(k:Int)<384:=by have:=uh hN;omega
    clear hkn
    go_wp2
    go_ret
    exact ⟨rti (uh hfin).symm,rfl⟩
   ·clear hkn
    go_wp2
    go_ret
    exact ⟨rti (uh hfin).symm,rfl⟩

end Go.Proofs.YtbanjoflgoiegaaGreat

namespace Go.Proofs.YtbanjoflgoiegaaGreat

namespace Gr

def dxOf:Nat→Int | 1=>1 | 3=>-1 | _=>0
def dyOf:Nat→Int | 0=>-1 | 2=>1 | _=>0

def nbIn (i d:Nat):Prop:=0≤(i % 24:Nat)+dxOf d∧(i % 24:Nat)+dxOf d<24∧0≤(i / 24:Nat)+dyOf d∧(i / 24:Nat)+dyOf d<16
def nbOf (i d:Nat):Nat:=(((i / 24:Nat)+dyOf d)*24+((i % 24:Nat)+dxOf d)).toNat

theorem nb_eq {i d:Nat} (h:nbIn i d):((nbOf i d:Nat):Int)=((i / 24:Nat)+dyOf d)*24+((i % 24:Nat)+dxOf d):=by
 unfold nbIn at h;unfold nbOf;omega

theorem nb_lt {i d:Nat} (h:nbIn i d):nbOf i d<384:=by
 have:=nb_eq h
 unfold nbIn at h;omega

def opp:Nat→Nat | 0=>2 | 1=>3 | 2=>0 | _=>1

theorem opp_lt {d:Nat} (h:d<4):opp d<4:=by
 match d,h with
 | 0,_ | 1,_ | 2,_ | 3,_=>decide

theorem nb_back {i d:Nat} (hi:i<384) (hd:d<4) (h:nbIn i d):nbIn (nbOf i d) (opp d)∧nbOf (nbOf i d) (opp d)=i:=by
 have e:=nb_eq h
 have key:nbIn (nbOf i d) (opp d)∧((nbOf i d / 24:Nat)+dyOf (opp d))*24+((nbOf i d % 24:Nat)+dxOf (opp d))=(i:Int):=by
  unfold nbIn at *
  generalize nbOf i d=n at *
  match d,hd with
  | 0,_=>simp only [dxOf,dyOf,opp] at *;omega
  | 1,_=>simp only [dxOf,dyOf,opp] at *;omega
  | 2,_=>simp only [dxOf,dyOf,opp] at *;omega
  | 3,_=>simp only [dxOf,dyOf,opp] at *;omega
 refine ⟨key.1,?_⟩
 have:=nb_eq key.1
 omega

structure IsField (op tg:Nat→Prop) (F:Nat→Int):Prop where
 lo:∀i,i<384→-1≤F i
 zero:∀i,i<384→(F i=0↔tg i)
 back:∀i,i<384→0<F i→op i∧∃j d,j<384∧d<4∧nbIn j d∧nbOf j d=i∧F j=F i - 1
 fwd:∀j,j<384→0≤F j→∀d,d<4→nbIn j d→op (nbOf j d)→0≤F (nbOf j d)∧F (nbOf j d)≤F j+1

def cnt (F:Nat→Int):Nat→Nat
 | 0=>0
 | n+1=>cnt F n+if 0≤F n then 1 else 0

theorem cnt_le (F:Nat→Int) (n:Nat):cnt F n≤n:=by
 induction n with
 | zero=>exact Nat.le_refl _
 | succ n ih=>unfold cnt;split <;> omega

theorem cnt_same (F H:Nat→Int) (n:Nat) (h:∀i,i<n→(0≤F i↔0≤H i)):cnt F n=cnt H n:=by
 induction n with
 | zero=>rfl
 | succ n ih =>
  unfold cnt
  rw [ih fun i hi=>h i (by omega)]
  have:=h n (by omega)
  by_cases hn:0≤F n
  ·rw [if_pos hn,if_pos (this.1 hn)]
  ·rw [if_neg hn,if_neg fun hh=>hn (this.2 hh)]

def upd (F:Nat→Int) (b:Nat) (v:Int) (i:Nat):Int:=if i=b then v else F i

theorem upd_at (F:Nat→Int) (b:Nat) (v:Int):upd F b v b=v:=if_pos rfl
theorem upd_ne (F:Nat→Int) {b i:Nat} (v:Int) (h:i≠b):upd F b v i=F i:=if_neg h

theorem cnt_upd (F:Nat→Int) (b:Nat) (v:Int) (n:Nat) (hb:b<n) (h0:F b<0) (hv:0≤v):cnt (upd F b v) n=cnt F n+1:=by
 induction n with
 | zero=>omega
 | succ n ih =>
  unfold cnt
  by_cases hbn:b=n
  ·subst hbn
   rw [upd_at,if_pos hv,if_neg (by omega),cnt_same (upd F b v) F b fun i hi=>by rw [upd_ne F v (by omega)]]
  ·rw [ih (by omega),upd_ne F v (by omega)]
   omega

structure Inv (op tg:Nat→Prop) (F:Nat→Int) (row:List Nat) (at_ d:Nat):Prop where
 lo:∀i,i<384→-1≤F i
 zero:∀i,i<384→(F i=0↔tg i)
 back:∀i,i<384→0<F i→op i∧∃j d,j<384∧d<4∧nbIn j d∧nbOf j d=i∧F j=F i - 1
 mem:∀i,i<384→(0≤F i↔i∈row)
 rng:∀i,i∈row→i<384
 cnt:row.length=cnt F 384
 sorted:∀a b,a≤b→b<row.length→F (row[a]?.getD 0)≤F (row[b]?.getD 0)
 top:at_<row.length→∀i,i<384→F i≤F (row[at_]?.getD 0)+1
 seen:∀a e,e<4→a<row.length→4*a+e<4*at_+d→nbIn (row[a]?.getD 0) e→op (nbOf (row[a]?.getD 0) e)→0≤F (nbOf (row[a]?.getD 0) e)∧F (nbOf (row[a]?.getD 0) e)≤F (row[a]?.getD 0)+1

theorem Inv.len {op tg:Nat→Prop} {F:Nat→Int} {row:List Nat} {k d:Nat} (h:Inv op tg F row k d):row.length≤384:=by
 rw [h.cnt];exact cnt_le _ _

theorem Inv.lt {op tg:Nat→Prop} {F:Nat→Int} {row:List Nat} {k d a:Nat} (h:Inv op tg F row k d) (ha:a<row.length):row[a]?.getD 0<384∧0≤F (row[a]?.getD 0):=by
 rw [List.getElem?_eq_getElem ha]
 have hm:row[a]∈row:=List.getElem_mem ha
 have hr:=h.rng _ hm
 exact ⟨hr,(h.mem _ hr).2 hm⟩

theorem Inv.high {op tg:Nat→Prop} {F:Nat→Int} {row:List Nat} {k d:Nat} (h:Inv op tg F row k d):∀(n:Nat) i,i<384→F i=n→n≤400:=by
 intro n i hi hn
 have key:∀m:Nat,m≤n→∃j,j<384∧F j=m:=by
  intro m hm
  induction hnm:n - m generalizing m with
  | zero=>exact ⟨i,hi,by omega⟩
  | succ q ih =>
   obtain ⟨j,hj,he⟩:=ih (m+1) (by omega) (by omega)
   obtain ⟨_,j',_,hj',_,_,_,he'⟩:=h.back j hj (by omega)
   exact ⟨j',hj',by omega⟩
 by_cases hc:n≤400
 ·exact hc
 ·exfalso
  have inj:∀m:Nat,m≤n+1→m≤(List.range 384).countP (fun i=>decide (0≤F i∧F i<m)):=by
   intro m
   induction m with
   | zero=>intro _;exact Nat.zero_le _
   | succ m ih =>
    intro hm
    have h1:=ih (by omega)
    obtain ⟨j,hj,he⟩:=key m (by omega)
    have h2:(List.range 384).countP (fun i=>decide (0≤F i∧F i<m))<(List.range 384).countP (fun i=>decide (0≤F i∧F i<((m+1:Nat):Int))):=by
     have hs:∀(l:List Nat),j∈l→l.countP (fun i=>decide (0≤F i∧F i<m))<l.countP (fun i=>decide (0≤F i∧F i<((m+1:Nat):Int))):=by
      intro l
      induction l with
      | nil=>intro hm;cases hm
      | cons x l ih =>
       intro hm
       have hle:l.countP (fun i=>decide (0≤F i∧F i<m))≤l.countP (fun i=>decide (0≤F i∧F i<((m+1:Nat):Int))) :=
        List.countP_mono_left fun y _ hy=>by simp only [decide_eq_true_eq] at *;omega
       rw [List.countP_cons,List.countP_cons]
       rcases List.mem_cons.1 hm with rfl | hm
       ·rw [if_neg (by simp;omega),if_pos (by simp;omega)]
        omega
       ·have:=ih hm
        by_cases hx:0≤F x∧F x<m
        ·rw [if_pos (by simpa using hx),if_pos (by simp;omega)]
         omega
        ·rw [if_neg (by simpa using hx)]
         omega
     exact hs _ (List.mem_range.2 hj)
    omega
  have:=inj 401 (by omega)
  have hle:(List.range 384).countP (fun i=>decide (0≤F i∧F i<((401:Nat):Int)))≤(List.range 384).length:=List.countP_le_length
  rw [List.length_range] at hle
  omega

theorem Inv.skip {op tg:Nat→Prop} {F:Nat→Int} {row:List Nat} {k d:Nat} (h:Inv op tg F row k d) (hk:k<row.length) (hd:d<4)
  (hs:nbIn (row[k]?.getD 0) d→op (nbOf (row[k]?.getD 0) d)→0≤F (nbOf (row[k]?.getD 0) d)):Inv op tg F row k (d+1):=by
 refine ⟨h.lo,h.zero,h.back,h.mem,h.rng,h.cnt,h.sorted,h.top,fun a e he ha hl hn ho=>?_⟩
 by_cases hc:4*a+e<4*k+d
 ·exact h.seen a e he ha hc hn ho
 ·obtain rfl:a=k:=by omega
  obtain rfl:e=d:=by omega
  exact ⟨hs hn ho,h.top hk _ (nb_lt hn)⟩

theorem Inv.mark {op tg:Nat→Prop} {F:Nat→Int} {row:List Nat} {k d:Nat} (h:Inv op tg F row k d) (htg:∀i,i<384→tg i→0≤F i) (hk:k<row.length) (hd:d<4)
  (hn:nbIn (row[k]?.getD 0) d) (ho:op (nbOf (row[k]?.getD 0) d)) (hneg:F (nbOf (row[k]?.getD 0) d)<0) :
  Inv op tg (upd F (nbOf (row[k]?.getD 0) d) (F (row[k]?.getD 0)+1)) (row ++ [nbOf (row[k]?.getD 0) d]) k (d+1):=by
 obtain ⟨hc,hc0⟩:=h.lt hk
 have hb:=nb_lt hn
 have htop:=h.top hk
 have hnc:=h.cnt
 obtain ⟨c,hcd⟩:∃c,c=row[k]?.getD 0:=⟨_,rfl⟩
 obtain ⟨b,hbd⟩:∃b,b=nbOf c d:=⟨_,rfl⟩
 rw [←hcd] at hn ho hneg hc hc0 hb htop ⊢
 rw [←hbd] at ho hneg hb ⊢
 have hbr:b ∉ row:=fun hm=>by have:=(h.mem b hb).2 hm;omega
 have ne:∀i,i<384→0≤F i→i≠b:=fun i _ h0 e=>by rw [e] at h0;omega
 have old:∀i,i<384→0≤F i→upd F b (F c+1) i=F i:=fun i hi h0=>upd_ne F _ (ne i hi h0)
 have get:∀a,a<row.length→(row ++ [b])[a]?.getD 0=row[a]?.getD 0:=fun a ha=>by rw [List.getElem?_append_left ha]
 have getl:(row ++ [b])[row.length]?.getD 0=b:=by simp
 refine ⟨fun i hi=>?_,fun i hi=>?_,fun i hi hp=>?_,fun i hi=>?_,fun i hm=>?_,?_,fun x y hxy hy=>?_,fun _ i hi=>?_,fun a e he ha hl hn' ho'=>?_⟩
 ·by_cases e:i=b
  ·rw [e,upd_at];omega
  ·rw [upd_ne F _ e];exact h.lo i hi
 ·by_cases e:i=b
  ·rw [e,upd_at]
   constructor
   ·intro hh;omega
   ·intro ht
    have:=htg b hb ht
    omega
  ·rw [upd_ne F _ e];exact h.zero i hi
 ·by_cases e:i=b
  ·subst e
   refine ⟨ho,c,d,hc,hd,hn,hbd.symm,?_⟩
   rw [upd_at,old c hc hc0];omega
  ·rw [upd_ne F _ e] at hp ⊢
   obtain ⟨o,j,d',hj,hd',hn',hnb,he'⟩:=h.back i hi hp
   exact ⟨o,j,d',hj,hd',hn',hnb,by rw [old j hj (by omega)];exact he'⟩
 ·by_cases e:i=b
  ·rw [e,upd_at];simp;omega
  ·rw [upd_ne F _ e,h.mem i hi];simp [e]
 ·rcases List.mem_append.1 hm with hm | hm
  ·exact h.rng i hm
  ·simp at hm;omega
 ·rw [cnt_upd F b _ 384 hb hneg (by omega),List.length_append,hnc];rfl
 ·rw [List.length_append] at hy
  have hy':y<row.length+1:=hy
  by_cases e:y=row.length
  ·rw [e,getl,upd_at]
   by_cases e2:x=row.length
   ·rw [e2,getl,upd_at];exact Int.le_refl _
   ·have hx:x<row.length:=by omega
    obtain ⟨h1,h2⟩:=h.lt hx
    rw [get x hx,old _ h1 h2]
    exact htop _ h1
  ·have hy2:y<row.length:=by omega
   obtain ⟨h1,h2⟩:=h.lt hy2
   obtain ⟨h3,h4⟩:=h.lt (show x<row.length by omega)
   rw [get y hy2,get x (by omega),old _ h1 h2,old _ h3 h4]
   exact h.sorted x y hxy hy2
 ·rw [get k hk,←hcd,old c hc hc0]
  by_cases e:i=b
  ·rw [e,upd_at];omega
  ·rw [upd_ne F _ e];exact htop i hi
 ·by_cases ea:a=row.length
  ·omega
  ·have ha2:a<row.length:=by rw [List.length_append] at ha;have:a<row.length+1:=ha;omega
   rw [get a ha2] at hn' ho' ⊢
   obtain ⟨h1,h2⟩:=h.lt ha2
   rw [old _ h1 h2]
   by_cases hc2:4*a+e<4*k+d
   ·obtain ⟨q1,q2⟩:=h.seen a e he ha2 hc2 hn' ho'
    rw [old _ (nb_lt hn') q1]
    exact ⟨q1,q2⟩
   ·obtain rfl:a=k:=by omega
    obtain rfl:e=d:=by omega
    rw [←hcd,←hbd,upd_at]
    omega

theorem Inv.next {op tg:Nat→Prop} {F:Nat→Int} {row:List Nat} {k:Nat} (h:Inv op tg F row k 4):Inv op tg F row (k+1) 0:=by
 refine ⟨h.lo,h.zero,h.back,h.mem,h.rng,h.cnt,h.sorted,fun hk i hi=>?_,fun a e he ha hl=>h.seen a e he ha (by omega)⟩
 have h1:=h.top (by omega) i hi
 have h2:=h.sorted k (k+1) (by omega) hk
 omega

theorem Inv.done {op tg:Nat→Prop} {F:Nat→Int} {row:List Nat} {k:Nat} (h:Inv op tg F row k 0) (hk:row.length≤k):IsField op tg F:=by
 refine ⟨h.lo,h.zero,h.back,fun j hj h0 d hd hn ho=>?_⟩
 obtain ⟨a,ha,he⟩:=List.getElem_of_mem ((h.mem j hj).1 h0)
 have e:row[a]?.getD 0=j:=by rw [List.getElem?_eq_getElem ha];exact he
 have:=h.seen a d hd ha (by omega)
 rw [e] at this
 exact this hn ho

theorem Inv.start {op tg:Nat→Prop} {F:Nat→Int} {row:List Nat} (h01:∀i,i<384→F i=0∨F i=-1) (hz:∀i,i<384→(F i=0↔tg i)) (hm:∀i,i<384→(0≤F i↔i∈row)) (hr:∀i,i∈row→i<384)
  (hc:row.length=Gr.cnt F 384):Inv op tg F row 0 0:=by
 have z:∀a,a<row.length→F (row[a]?.getD 0)=0:=fun a ha=>by
  rw [List.getElem?_eq_getElem ha]
  have hmm:row[a]∈row:=List.getElem_mem ha
  have hl:=hr _ hmm
  have h0:=(hm _ hl).2 hmm
  rcases h01 _ hl with h | h
  ·exact h
  ·simp only [Option.getD_some];omega
 refine ⟨fun i hi=>?_,hz,fun i hi hp=>?_,hm,hr,hc,fun a b hab hb=>?_,fun hk i hi=>?_,fun a e he ha hl=>by omega⟩
 ·rcases h01 i hi with h | h <;> omega
 ·rcases h01 i hi with h | h <;> omega
 ·rw [z a (by omega),z b hb];exact Int.le_refl _
 ·rw [z 0 hk]
  rcases h01 i hi with h | h <;> omega

end Gr


open Go.RowKit

def Dc.fold (x c:Int):Int:=bits BinOp.xor IntKind.u64 x (x / c)

def Dc.m (x:Int):Int :=
 Dc.fold (IntKind.u64.wrap (Dc.fold (IntKind.u64.wrap (Dc.fold x 1073741824*13787848793156543929)) 134217728*10723151780598845931)) 2147483648

theorem Dc.m_bd (x:Int):0≤Dc.m x∧Dc.m x<18446744073709551616:=by
 have h:=wf_bits BinOp.xor IntKind.u64 (IntKind.u64.wrap (Dc.fold (IntKind.u64.wrap (Dc.fold x 1073741824*13787848793156543929)) 134217728*10723151780598845931)) (IntKind.u64.wrap (Dc.fold (IntKind.u64.wrap (Dc.fold x 1073741824*13787848793156543929)) 134217728*10723151780598845931) / 2147483648)
 simp only [Lit.wf,Bool.and_eq_true,decide_eq_true_eq,show IntKind.u64.min=0 from by decide,show IntKind.u64.max=18446744073709551615 from by decide] at h
 obtain ⟨h1,h2⟩:=h
 exact ⟨h1,Int.lt_of_le_of_lt h2 (by decide)⟩

theorem stir_any (x:Int) (w:World) :
  Calls Tryz.prog 187 #[.int .u64 x] w fun e w'=>e=.returned (.int .u64 (Dc.m x))∧w'=w:=by
 go_enter Tryz.func187,Tryz.ntmps187
 go_wp2
 go_ret
 exact ⟨rfl,rfl⟩

def Dc.step (x v:Int):Int:=Dc.m (IntKind.u64.wrap (bits BinOp.xor IntKind.u64 x (IntKind.u64.wrap v)+11400714819323198485))

def Dc.mix (seed:Int) (zs:List Int):Int:=zs.foldl Dc.step (Dc.m (IntKind.u64.wrap (IntKind.u64.wrap seed+11400714819323198485)))

theorem Dc.mix_bd (seed:Int) (zs:List Int):0≤Dc.mix seed zs∧Dc.mix seed zs<18446744073709551616:=by
 unfold Dc.mix
 generalize hx:Dc.m (IntKind.u64.wrap (IntKind.u64.wrap seed+11400714819323198485))=x
 have h:0≤x∧x<18446744073709551616:=by rw [←hx];exact Dc.m_bd _
 clear hx
 induction zs generalizing x with
 | nil=>exact h
 | cons z zs ih=>exact ih _ (Dc.m_bd _)

theorem Dc.mix_more (seed:Int) (zs:List Int) (k:Nat) (h:k<zs.length):Dc.m (IntKind.u64.wrap (bits BinOp.xor IntKind.u64 (Dc.mix seed (zs.take k)) (IntKind.u64.wrap (zs[k]?.getD 0))+11400714819323198485))=Dc.mix seed (zs.take (k+1)):=by
 show Dc.step (Dc.mix seed (zs.take k)) (zs[k]?.getD 0)=_
 have e:zs.take (k+1)=zs.take k ++ [zs[k]?.getD 0]:=by
  rw [List.take_add_one,List.getElem?_eq_getElem h];rfl
 rw [e]
 simp only [Dc.mix,List.foldl_append,List.foldl_cons,List.foldl_nil]

def Row (w:World) (a:Option Addr) (len:Nat) (zs:List Int):Prop :=
 zs.length=len∧len≤maxLen∧(len=0∨∃b off,a=some ⟨b,off,none⟩∧∀i,i<len→w.cell? ⟨b,off+i,none⟩=some (.int .i64 (zs[i]?.getD 0)))

theorem mix_none (seed:Int) (a:Option Addr) (cap:Nat) (w:World) :
  Calls Tryz.prog 174 #[.int .i64 seed,.slice a 0 cap] w fun e w'=>e=.returned (.int .u64 (Dc.mix seed []))∧w'=w:=by
 go_enter Tryz.func174,Tryz.ntmps174
 go_wp2_with fail
 refine (stir_any _ _).mono ?_
 rintro e w1 ⟨rfl,rfl⟩
 go_wp2_with fail
 refine wp_loop_rounds 1 ?_
 rw [rounds_succ]
 go_wp2
 go_ret
 exact ⟨rfl,rfl⟩

theorem mix_some (seed:Int) (b off:Nat) (len cap:Nat) (zs:List Int) (w:World) (hz:zs.length=len) (hm:len≤9223372036854775807)
  (hc:∀i,i<len→w.cell? ⟨b,off+i,none⟩=some (.int .i64 (zs[i]?.getD 0))) :
  Calls Tryz.prog 174 #[.int .i64 seed,.slice (some ⟨b,off,none⟩) len cap] w fun e w'=>e=.returned (.int .u64 (Dc.mix seed zs))∧w'=w:=by
 go_enter Tryz.func174,Tryz.ntmps174
 go_wp2_with fail
 refine (stir_any _ _).mono ?_
 rintro e w1 ⟨rfl,rfl⟩
 go_wp2_with fail
 go_loop [5,14] (fun x i=>∃k:Nat,k≤len∧i=.int .i64 k∧x=.int .u64 (Dc.mix seed (zs.take k))) (fun _ i=>len - (intOf i).toNat)
 case atStart=>exact ⟨0,Nat.zero_le _,rfl,rfl⟩
 case round =>
  obtain ⟨k,hk,rfl,rfl⟩:=hrel
  have hcell:k<len→w1.cell? ⟨b,off+k,none⟩=some (.int .i64 (zs[k]?.getD 0)):=fun h=>hc k h
  go_wp2_with fail
  ·refine (stir_any _ _).mono ?_
   rintro e w2 ⟨rfl,rfl⟩
   have hlt:k<len:=by assumption
   have hstep:=hide (Dc.mix_more seed zs k (by omega))
   go_wp2
   go_round
   case rel =>
    refine ⟨k+1,by omega,by go_num,?_⟩
    rw [←uh hstep,List.getElem?_eq_getElem (by omega)]
    rfl
   case measure=>simp [intOf];omega
  ·obtain rfl:k=len:=by omega
   go_ret
   rw [List.take_of_length_le (by omega)]
   exact ⟨rfl,rfl⟩

theorem mix_row (seed:Int) (a:Option Addr) (len cap:Nat) (zs:List Int) (w:World) (h:Row w a len zs) :
  Calls Tryz.prog 174 #[.int .i64 seed,.slice a len cap] w fun e w'=>e=.returned (.int .u64 (Dc.mix seed zs))∧w'=w:=by
 obtain ⟨hz,hm,rfl | ⟨b,off,rfl,hc⟩⟩:=h
 ·obtain rfl:=List.eq_nil_of_length_eq_zero hz
  exact mix_none _ _ _ _
 ·exact mix_some _ _ _ _ _ _ _ hz hm hc

def Dc.die (n seed:Int) (zs:List Int):Int:=if n<1 then 0 else Dc.mix seed zs % n

theorem Dc.die_bd (n seed:Int) (zs:List Int) (h:1≤n):0≤Dc.die n seed zs∧Dc.die n seed zs<n:=by
 unfold Dc.die
 rw [if_neg (by omega)]
 exact ⟨Int.emod_nonneg _ (by omega),Int.emod_lt_of_pos _ (by omega)⟩

theorem Dc.die_low (n seed:Int) (zs:List Int) (h:n<1):Dc.die n seed zs=0:=if_pos h

set_option maxHeartbeats 400000 in
theorem die_row (n seed:Int) (a:Option Addr) (len cap:Nat) (zs:List Int) (w:World) (h:Row w a len zs) (hn:n≤9223372036854775807) :
  Calls Tryz.prog 160 #[.int .i64 n,.int .i64 seed,.slice a len cap] w fun e w'=>e=.returned (.int .i64 (Dc.die n seed zs))∧w'=w:=by
 by_cases hl:n<1
 ·have hd:=hide (Dc.die_low n seed zs hl)
  clear h
  go_enter Tryz.func160,Tryz.ntmps160
  go_wp2
  go_ret
  rw [uh hd]
  exact ⟨rfl,rfl⟩
 ·have hd:=hide (show Dc.die n seed zs=Dc.mix seed zs % n from if_neg hl)
  have hb:=Dc.mix_bd seed zs
  have h1:=Int.emod_nonneg (Dc.mix seed zs) (show n≠0 by omega)
  have h2:=Int.emod_lt_of_pos (Dc.mix seed zs) (show 0<n by omega)
  have hr:=hide h
  clear h
  obtain ⟨hb1,hb2⟩:=hb
  go_enter Tryz.func160,Tryz.ntmps160
  go_wp2_with fail
  refine (mix_row _ _ _ _ _ _ (uh hr)).mono ?_
  rintro e w1 ⟨rfl,rfl⟩
  go_wp2
  go_ret
  rw [uh hd]
  exact ⟨rfl,rfl⟩

theorem Row.taken {w:World} {a:Option Addr} {len:Nat} {zs:List Int} (h:Row w a len zs) (k:Nat) (hk:k≤len):Row w a k (zs.take k):=by
 obtain ⟨hz,hm,h0 | ⟨b,off,ha,hc⟩⟩:=h
 ·exact ⟨by simp;omega,Nat.le_trans hk hm,.inl (by omega)⟩
 ·exact ⟨by simp;omega,Nat.le_trans hk hm,.inr ⟨b,off,ha,fun i hi=>by rw [hc i (by omega),List.getElem?_take,if_pos hi]⟩⟩


open Go.RowKit

theorem least (p:Nat→Prop) (k:Nat) (h:p k):∃m,p m∧∀j,p j→m≤j:=by
 induction k using Nat.strongRecOn with
 | _ k ih =>
  by_cases hc:∃j,j<k∧p j
  ·obtain ⟨j,hj,hp⟩:=hc
   exact ih j hj hp
  ·exact ⟨k,h,fun j hp=>by by_cases hjk:k≤j;exact hjk;exact absurd ⟨j,by omega,hp⟩ hc⟩

theorem least_spec (p:Nat→Prop) (k:Nat) (h:p k):p (@Classical.epsilon Nat ⟨0⟩ fun m=>p m∧∀j,p j→m≤j)∧∀j,p j→(@Classical.epsilon Nat ⟨0⟩ fun m=>p m∧∀j,p j→m≤j)≤j :=
 Classical.epsilon_spec (p:=fun m=>p m∧∀j,p j→m≤j) (least p k h)

theorem wp_scope_ghost {P:Program} {a:Act} {w:World} {Q:Exit→Act→World→Prop} {c rest:Code} (l:Nat) (J:Nat→Act→World→Prop) (hf:findLabel c l=some rest)
  (first:c.wp P (Exit.jump l (fun a w=>∃k,J k a w) Q) a w)
  (pass:∀k a w,J k a w→rest.wp P (Exit.jump l (fun a' w'=>∃k',k'<k∧J k' a' w') Q) a w):(Code.scope c).wp P Q a w:=by
 refine wp_scope_jumps l (fun a w=>∃k,J k a w) (fun a w=>@Classical.epsilon Nat ⟨0⟩ fun m=>J m a w∧∀j,J j a w→m≤j) hf first ?_
 rintro a w ⟨k,hk⟩
 obtain ⟨h1,h2⟩:=least_spec (fun k=>J k a w) k hk
 refine Code.wp_mono ?_ (pass _ a w h1)
 intro e a' w' hq
 cases e with
 | goto l' =>
  obtain ⟨hl,k',hk',hJ⟩:=hq
  exact ⟨hl,⟨k',hJ⟩,Nat.lt_of_le_of_lt ((least_spec (fun k=>J k a' w') k' hJ).2 k' hJ) hk'⟩
 | normal=>exact hq
 | exit _=>exact hq
 | ret=>exact hq
 | panic _=>exact hq
 | outgrown=>exact hq

end Go.Proofs.YtbanjoflgoiegaaGreat
