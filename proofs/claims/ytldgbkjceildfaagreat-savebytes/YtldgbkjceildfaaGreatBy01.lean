import Derived.Test.YtldgbkjceildfaaGreatRows
import Derived.WalkKit
import Derived.WalkSpells
import Derived.WalkLawsBesides
import Derived.OpenShut
import Derived.Below
import Derived.BigQuiet
import Derived.WalkSmall
import Derived.Laws.AppendOwnNone
import Derived.Handy
import Derived.Laws.BitsAllLaws
namespace Go.Proofs.YtldgbkjceildfaaGreat
open Go.RowKit

theorem hide {p:Prop} (h:p):Hid p:=h
theorem uh {p:Prop} (h:Hid p):p:=h

theorem rti {k:IntKind} {a b:Int} (h:a=b):Ending.returned (.int k a)=.returned (.int k b):=by rw [h]

theorem ret_bool {a b:Bool} (h:a=b):Ending.returned (.bool a)=.returned (.bool b):=by rw [h]

def Vec (B:Nat) (w:World) (a:Option Addr) (len:Nat) (F:Nat→Value):Prop :=
 len≤maxLen∧(len=0∨∃b off,a=some ⟨b,off,none⟩∧b<B∧∀i,i<len→w.cell? ⟨b,off+i,none⟩=some (F i))

theorem Vec.kept {B:Nat} {w w':World} {a:Option Addr} {len:Nat} {F:Nat→Value} (h:Vec B w a len F) (hb:Below B w w'):Vec B w' a len F:=by
 obtain ⟨hm,h0|⟨b,off,ha,hlt,hc⟩⟩:=h
 ·exact ⟨hm,.inl h0⟩
 ·exact ⟨hm,.inr ⟨b,off,ha,hlt,fun i hi=>(hb.cell (p:=⟨b,off+i,none⟩) hlt).trans (hc i hi)⟩⟩

theorem Vec.mono {B B':Nat} {w:World} {a:Option Addr} {len:Nat} {F:Nat→Value} (h:Vec B w a len F) (hb:B≤B'):Vec B' w a len F:=by
 obtain ⟨hm,h0|⟨b,off,ha,hlt,hc⟩⟩:=h
 ·exact ⟨hm,.inl h0⟩
 ·exact ⟨hm,.inr ⟨b,off,ha,by omega,hc⟩⟩

theorem Vec.drew {B:Nat} {w:World} {a:Option Addr} {len:Nat} {F:Nat→Value} (h:Vec B w a len F) (n:Nat):Vec B (w.drewN n) a len F :=
 h.kept (below_drewN (Below.refl _ _) n)

theorem Vec.taken {B:Nat} {w:World} {a:Option Addr} {len:Nat} {F:Nat→Value} (h:Vec B w a len F) (k:Nat) (hk:k≤len):Vec B w a k F:=by
 obtain ⟨hm,h0|⟨b,off,ha,hlt,hc⟩⟩:=h
 ·exact ⟨Nat.le_trans hk hm,.inl (by omega)⟩
 ·exact ⟨Nat.le_trans hk hm,.inr ⟨b,off,ha,hlt,fun i hi=>hc i (by omega)⟩⟩

theorem Vec.at {B:Nat} {w:World} {a:Option Addr} {len:Nat} {F:Nat→Value} (h:Vec B w a len F) {k:Nat} (hk:k<len) :
  ∃b off,a=some ⟨b,off,none⟩∧b<B∧w.cell? ⟨b,off+k,none⟩=some (F k):=by
 obtain ⟨hm,h0|⟨b,off,ha,hlt,hc⟩⟩:=h
 ·omega
 ·exact ⟨b,off,ha,hlt,hc k hk⟩

theorem Vec.congr {B:Nat} {w:World} {a:Option Addr} {len:Nat} {F G:Nat→Value} (h:Vec B w a len F) (he:∀i,i<len→F i=G i):Vec B w a len G:=by
 obtain ⟨hm,h0|⟨b,off,ha,hlt,hc⟩⟩:=h
 ·exact ⟨hm,.inl h0⟩
 ·exact ⟨hm,.inr ⟨b,off,ha,hlt,fun i hi=>by rw [hc i hi,he i hi]⟩⟩

def Ints (g:Nat→Int):Nat→Value:=fun i=>.int .i64 (g i)
def Byts (g:Nat→Int):Nat→Value:=fun i=>.int .u8 (g i)
def Bols (g:Nat→Bool):Nat→Value:=fun i=>.bool (g i)

def Gr.inB (x y:Int):Bool:=decide (0≤x∧x<24∧0≤y∧y<16)
def Gr.walkB (k:Int):Bool:=decide (1≤k∧k≤5)
def Gr.clearB (k:Int):Bool:=decide (1≤k∧k≤5∧k≠2)
def Gr.at (len:Nat) (f:Nat→Int) (x y:Int):Int:=if Gr.inB x y=true∧(y*24+x).toNat<len then f (y*24+x).toNat else 0

theorem Gr.inB_iff (x y:Int):Gr.inB x y=true↔0≤x∧x<24∧0≤y∧y<16:=by simp [Gr.inB]
theorem Gr.inB_no (x y:Int):Gr.inB x y=false↔x<0∨24≤x∨y<0∨16≤y:=by
 simp only [Gr.inB,decide_eq_false_iff_not];omega
theorem Gr.walkB_iff (k:Int):Gr.walkB k=true↔1≤k∧k≤5:=by simp [Gr.walkB]
theorem Gr.clearB_iff (k:Int):Gr.clearB k=true↔1≤k∧k≤5∧k≠2:=by simp [Gr.clearB]

def Gr.findFrom (f:Nat→Int) (kind:Int):Nat→Nat→Int
 | 0,_=>-1
 | n+1,k=>if f k=kind then (k:Int) else Gr.findFrom f kind n (k+1)

def Gr.near (p n:Int):Int:=(2*p+n) / (2*n)


open Go.RowKit

def Arr (w:World) (g:Nat) (T:TypeId) (n:Nat) (F:Nat→Value):Prop :=
 ∃cur:Array Value,w.heap[g]?=some (.cells cur T (0,0))∧cur.size=n∧∀i,i<n→cur[i]?=some (F i)

theorem Arr.cell {w:World} {g:Nat} {T:TypeId} {n:Nat} {F:Nat→Value} (h:Arr w g T n F) {i:Nat} (hi:i<n):w.cell? ⟨g,i,none⟩=some (F i):=by
 obtain ⟨cur,hg,_,hc⟩:=h;rw [cell_of_row w g i cur T (0,0) hg];exact hc i hi

theorem Arr.free {w:World} {g:Nat} {T:TypeId} {n:Nat} {F:Nat→Value} (h:Arr w g T n F) (i:Nat):w.frozen? ⟨g,i,none⟩=false:=by
 obtain ⟨cur,hg,_,_⟩:=h;exact frozen_of_row w g i cur T hg

theorem Arr.lt {w:World} {g:Nat} {T:TypeId} {n:Nat} {F:Nat→Value} (h:Arr w g T n F):g<w.heap.size:=by
 obtain ⟨cur,hg,_,_⟩:=h;exact lt_of_block hg

theorem Arr.congr {w:World} {g:Nat} {T:TypeId} {n:Nat} {F G:Nat→Value} (h:Arr w g T n F) (he:∀i,i<n→F i=G i):Arr w g T n G:=by
 obtain ⟨cur,hg,hs,hc⟩:=h;exact ⟨cur,hg,hs,fun i hi=>by rw [hc i hi,he i hi]⟩

theorem Arr.kept {w w':World} {B g:Nat} {T:TypeId} {n:Nat} {F:Nat→Value} (h:Arr w g T n F) (hb:Below B w w') (hlt:g<B):Arr w' g T n F:=by
 obtain ⟨cur,hg,hs,hc⟩:=h;exact ⟨cur,(hb.block g hlt).trans hg,hs,hc⟩

theorem Arr.store {w:World} {g:Nat} {T:TypeId} {n:Nat} {F:Nat→Value} (h:Arr w g T n F) (i:Nat) (u:Value):Arr (w.setCell ⟨g,i,none⟩ u) g T n (fun j=>if j=i then u else F j):=by
 obtain ⟨cur,hg,hs,hc⟩:=h;refine ⟨cur.setIfInBounds i u,heap_setCell_same w g i cur T u hg,by simpa using hs,fun j hj=>?_⟩;show _=some (if j=i then u else F j);by_cases hji:j=i
 ·subst hji;rw [if_pos rfl];simp [hs,hj]
 ·rw [if_neg hji,Array.getElem?_setIfInBounds_ne (by omega)];exact hc j hj

theorem Arr.vec {w:World} {g:Nat} {T:TypeId} {n:Nat} {F:Nat→Value} (h:Arr w g T n F) (B:Nat) (hB:g<B) (hm:n≤maxLen):Vec B w (some ⟨g,0,none⟩) n F :=
 ⟨hm,.inr ⟨g,0,rfl,hB,fun i hi=>by rw [Nat.zero_add];exact h.cell hi⟩⟩

theorem Arr.made {w:World} {base g:Nat} {T:TypeId} {n:Nat} {xs:List Value} (h:w.ownsRow base T 1 (.slice (some ⟨g,0,none⟩) n n) n xs) (u:Value):Arr w g T n (fun i=>xs[i]?.getD u):=by
 have hl:=h.1;rcases h.2 with ⟨h',_⟩|⟨g',cap',cur,h',_,hg,_,_,hcs,htake⟩
 ·simp at h'
 ·simp only [Value.slice.injEq,Option.some.injEq,Addr.mk.injEq,and_true,true_and] at h';obtain ⟨rfl,rfl⟩:=h';refine ⟨cur,hg,by simpa using hcs,fun i hi=>?_⟩;show _=some (xs[i]?.getD u);rw [←htake];rw [Nat.mul_one,List.getElem?_take,if_pos hi,Array.getElem?_toList,Array.getElem?_eq_getElem (by omega)];rfl

theorem Arr.zero {w:World} {base g:Nat} {T:TypeId} {n:Nat} {z:Value} (h:w.ownsRow base T 1 (.slice (some ⟨g,0,none⟩) n n) n (madeCells #[z] n).toList):Arr w g T n (fun _=>z):=by
 refine (Arr.made h z).congr fun i hi=>?_;rw [toList_madeCells_one,List.getElem?_replicate,if_pos (by omega)];rfl

theorem fill_more {g:Nat→Int} {z:Int} {k:Nat} {v:Int} (hv:v=g k) (j:Nat):(if j=k then Value.int .i64 v else .int .i64 (if j<k then g j else z))=.int .i64 (if j<k+1 then g j else z):=by
 by_cases h:j=k
 ·rw [if_pos h,if_pos (by omega),hv,h]
 ·rw [if_neg h];by_cases h2:j<k
  ·rw [if_pos h2,if_pos (by omega)]
  ·rw [if_neg h2,if_neg (by omega)]

theorem own_vec {w:World} {base:Nat} {v:Value} {len:Nat} {xs:List Int} (h:w.ownsRow base 3 1 v len (xs.map (Value.int .i64))) (hm:len≤maxLen) :
  ∃a cap,v=.slice a len cap∧xs.length=len∧Vec w.heap.size w a len (Ints fun i=>xs[i]?.getD 0):=by
 have h1:xs.length=len:=by simpa using h.1
 rcases h.2 with ⟨rfl,rfl⟩|⟨g,cap,cur,rfl,_,hg,_,_,_,_⟩
 ·exact ⟨none,0,rfl,h1,hm,.inl rfl⟩
 ·refine ⟨_,cap,rfl,h1,hm,.inr ⟨g,0,rfl,lt_of_block hg,fun i hi=>?_⟩⟩;rw [Nat.zero_add,h.cellAt i (by omega),List.getElem?_map];show _=some (Value.int .i64 (xs[i]?.getD 0));rw [List.getElem?_eq_getElem (by omega)];rfl

def Gives (w:World) (n:Nat) (F:Nat→Value) (e:Ending) (w':World):Prop :=
 ∃a cap,e=.returned (.slice a n cap)∧Vec w'.heap.size w' a n F∧n≤cap∧Below w.heap.size w w'

theorem info_int:(Tryz.prog.info? 3).map (fun i=>(i.zero,i.size,i.bytes))=some (some (.int .i64 0),1,8):=by kernel_rfl


open Go.RowKit

set_option maxHeartbeats 400000 in
theorem isCell_any (x y:Int) (w:World) :
  Calls Tryz.prog 123 #[.int .i64 x,.int .i64 y] w fun e w'=>e=.returned (.bool (Gr.inB x y))∧w'=w:=by
 by_cases h1:0≤x
 ·by_cases h2:x<24
  ·by_cases h3:0≤y
   ·by_cases h4:y<16
    ·have hd:=hide ((Gr.inB_iff x y).2 ⟨h1,h2,h3,h4⟩);go_enter Tryz.func123,Tryz.ntmps123;go_wp2;go_ret;exact ⟨ret_bool (uh hd).symm,rfl⟩
    ·have hd:=hide ((Gr.inB_no x y).2 (by omega));go_enter Tryz.func123,Tryz.ntmps123;go_wp2;go_ret;exact ⟨ret_bool (uh hd).symm,rfl⟩
   ·have hd:=hide ((Gr.inB_no x y).2 (by omega));go_enter Tryz.func123,Tryz.ntmps123;go_wp2;go_ret;exact ⟨ret_bool (uh hd).symm,rfl⟩
  ·have hd:=hide ((Gr.inB_no x y).2 (by omega));go_enter Tryz.func123,Tryz.ntmps123;go_wp2;go_ret;exact ⟨ret_bool (uh hd).symm,rfl⟩
 ·have hd:=hide ((Gr.inB_no x y).2 (by omega));go_enter Tryz.func123,Tryz.ntmps123;go_wp2;go_ret;exact ⟨ret_bool (uh hd).symm,rfl⟩

set_option maxHeartbeats 400000 in
theorem refIn_any (x y:Int) (w:World) :
  Calls Tryz.prog 76 #[.int .i64 x,.int .i64 y] w fun e w'=>e=.returned (.bool (Gr.inB x y))∧w'=w:=by
 by_cases h1:0≤x
 ·by_cases h2:x<24
  ·by_cases h3:0≤y
   ·by_cases h4:y<16
    ·have hd:=hide ((Gr.inB_iff x y).2 ⟨h1,h2,h3,h4⟩);go_enter Tryz.func76,Tryz.ntmps76;go_wp2;go_ret;exact ⟨ret_bool (uh hd).symm,rfl⟩
    ·have hd:=hide ((Gr.inB_no x y).2 (by omega));go_enter Tryz.func76,Tryz.ntmps76;go_wp2;go_ret;exact ⟨ret_bool (uh hd).symm,rfl⟩
   ·have hd:=hide ((Gr.inB_no x y).2 (by omega));go_enter Tryz.func76,Tryz.ntmps76;go_wp2;go_ret;exact ⟨ret_bool (uh hd).symm,rfl⟩
  ·have hd:=hide ((Gr.inB_no x y).2 (by omega));go_enter Tryz.func76,Tryz.ntmps76;go_wp2;go_ret;exact ⟨ret_bool (uh hd).symm,rfl⟩
 ·have hd:=hide ((Gr.inB_no x y).2 (by omega));go_enter Tryz.func76,Tryz.ntmps76;go_wp2;go_ret;exact ⟨ret_bool (uh hd).symm,rfl⟩

theorem number_any (x y:Int) (w:World) (h1:-1000≤x) (h2:x≤1000) (h3:-1000≤y) (h4:y≤1000) :
  Calls Tryz.prog 124 #[.int .i64 x,.int .i64 y] w fun e w'=>e=.returned (.int .i64 (y*24+x))∧w'=w:=by
 go_enter Tryz.func124,Tryz.ntmps124;go_wp2;go_ret;exact ⟨rfl,rfl⟩

set_option maxHeartbeats 800000 in
theorem at_any (B:Nat) (a:Option Addr) (len cap:Nat) (f:Nat→Int) (x y:Int) (w:World) (h:Vec B w a len (Byts f)) (hf:∀i,0≤f i∧f i≤255) :
  Calls Tryz.prog 117 #[.slice a len cap,.int .i64 x,.int .i64 y] w fun e w'=>e=.returned (.int .i64 (Gr.at len f x y))∧w'=w:=by
 have hm:len≤9223372036854775807:=h.1;by_cases hin:Gr.inB x y=true
 ·obtain ⟨h1,h2,h3,h4⟩:=(Gr.inB_iff x y).1 hin;obtain ⟨k,hk⟩:∃k:Nat,y*24+x=(k:Int):=⟨(y*24+x).toNat,by omega⟩;by_cases hl:k<len
  ·have hd:Hid (Gr.at len f x y=f k):=by
    show Gr.at len f x y=f k;unfold Gr.at;rw [if_pos ⟨hin,by omega⟩,hk,Int.toNat_natCast]
   obtain ⟨b,off,rfl,_,hc⟩:=h.at hl;have hc':w.cell? ⟨b,off+k,none⟩=some (.int .u8 (f k)):=hc;have hfk:=hf k;obtain ⟨hf1,hf2⟩:=hfk;have hl':(k:Int)<(len:Int):=by omega
   clear hc h hf;go_enter Tryz.func117,Tryz.ntmps117;go_wp2_with (first | (go_at_call 123;refine (isCell_any _ _ _).mono ?_;rintro e w' ⟨rfl,rfl⟩) | (go_at_call 124;refine (number_any _ _ _ (by omega) (by omega) (by omega) (by omega)).mono ?_;rintro e w' ⟨rfl,rfl⟩));go_ret;exact ⟨rti (uh hd).symm,rfl⟩
  ·have hd:Hid (Gr.at len f x y=0):=by
    show Gr.at len f x y=0;unfold Gr.at;rw [if_neg];rintro ⟨_,h⟩;omega
   have hl':(len:Int)≤(k:Int):=by omega
   clear h hf;go_enter Tryz.func117,Tryz.ntmps117;go_wp2_with (first | (go_at_call 123;refine (isCell_any _ _ _).mono ?_;rintro e w' ⟨rfl,rfl⟩) | (go_at_call 124;refine (number_any _ _ _ (by omega) (by omega) (by omega) (by omega)).mono ?_;rintro e w' ⟨rfl,rfl⟩));go_ret;exact ⟨rti (uh hd).symm,rfl⟩
 ·have hin':Gr.inB x y=false:=by simpa using hin
  have hd:Hid (Gr.at len f x y=0):=by
   show Gr.at len f x y=0;unfold Gr.at;rw [if_neg];rintro ⟨h,_⟩;exact hin h
  clear hin h hf;go_enter Tryz.func117,Tryz.ntmps117;go_wp2_with (first | (go_at_call 123;refine (isCell_any _ _ _).mono ?_;rintro e w' ⟨rfl,rfl⟩));go_ret;exact ⟨rti (uh hd).symm,rfl⟩

set_option maxHeartbeats 800000 in
theorem refAt_any (B:Nat) (a:Option Addr) (len cap:Nat) (f:Nat→Int) (x y:Int) (w:World) (h:Vec B w a len (Byts f)) (hf:∀i,0≤f i∧f i≤255) :
  Calls Tryz.prog 45 #[.slice a len cap,.int .i64 x,.int .i64 y] w fun e w'=>e=.returned (.int .i64 (Gr.at len f x y))∧w'=w:=by
 have hm:len≤9223372036854775807:=h.1;by_cases hin:Gr.inB x y=true
 ·obtain ⟨h1,h2,h3,h4⟩:=(Gr.inB_iff x y).1 hin;obtain ⟨k,hk⟩:∃k:Nat,y*24+x=(k:Int):=⟨(y*24+x).toNat,by omega⟩;by_cases hl:k<len
  ·have hd:Hid (Gr.at len f x y=f k):=by
    show Gr.at len f x y=f k;unfold Gr.at;rw [if_pos ⟨hin,by omega⟩,hk,Int.toNat_natCast]
   obtain ⟨b,off,rfl,_,hc⟩:=h.at hl;have hc':w.cell? ⟨b,off+k,none⟩=some (.int .u8 (f k)):=hc;have hfk:=hf k;obtain ⟨hf1,hf2⟩:=hfk;have hl':(k:Int)<(len:Int):=by omega
   clear hc h hf;go_enter Tryz.func45,Tryz.ntmps45;go_wp2_with (first | (go_at_call 76;refine (refIn_any _ _ _).mono ?_;rintro e w' ⟨rfl,rfl⟩));go_ret;exact ⟨rti (uh hd).symm,rfl⟩
  ·have hd:Hid (Gr.at len f x y=0):=by
    show Gr.at len f x y=0;unfold Gr.at;rw [if_neg];rintro ⟨_,h⟩;omega
   have hl':(len:Int)≤(k:Int):=by omega
   clear h hf;go_enter Tryz.func45,Tryz.ntmps45;go_wp2_with (first | (go_at_call 76;refine (refIn_any _ _ _).mono ?_;rintro e w' ⟨rfl,rfl⟩));go_ret;exact ⟨rti (uh hd).symm,rfl⟩
 ·have hin':Gr.inB x y=false:=by simpa using hin
  have hd:Hid (Gr.at len f x y=0):=by
   show Gr.at len f x y=0;unfold Gr.at;rw [if_neg];rintro ⟨h,_⟩;exact hin h
  clear hin h hf;go_enter Tryz.func45,Tryz.ntmps45;go_wp2_with (first | (go_at_call 76;refine (refIn_any _ _ _).mono ?_;rintro e w' ⟨rfl,rfl⟩));go_ret;exact ⟨rti (uh hd).symm,rfl⟩

set_option maxHeartbeats 400000 in
theorem walk_any (k:Int) (w:World) :
  Calls Tryz.prog 116 #[.int .i64 k] w fun e w'=>e=.returned (.bool (Gr.walkB k))∧w'=w:=by
 by_cases h:k=1∨k=2∨k=3∨k=4∨k=5
 ·rcases h with rfl|rfl|rfl|rfl|rfl;all_goals
   go_enter Tryz.func116,Tryz.ntmps116;go_wp2;go_ret;exact ⟨rfl,rfl⟩
 ·have e1:(k == 1)=false:=by simp;omega
  have e2:(k == 2)=false:=by simp;omega
  have e3:(k == 3)=false:=by simp;omega
  have e4:(k == 4)=false:=by simp;omega
  have e5:(k == 5)=false:=by simp;omega
  have hd:Hid (Gr.walkB k=false):=by show Gr.walkB k=false;simp only [Gr.walkB,decide_eq_false_iff_not];omega
  clear h;go_enter Tryz.func116,Tryz.ntmps116;go_wp2;go_ret;exact ⟨ret_bool (uh hd).symm,rfl⟩

set_option maxHeartbeats 400000 in
theorem refWalk_any (k:Int) (w:World) :
  Calls Tryz.prog 75 #[.int .i64 k] w fun e w'=>e=.returned (.bool (Gr.walkB k))∧w'=w:=by
 by_cases h1:1≤k
 ·by_cases h2:k≤5
  ·have hd:=hide ((Gr.walkB_iff k).2 ⟨h1,h2⟩);go_enter Tryz.func75,Tryz.ntmps75;go_wp2;go_ret;exact ⟨ret_bool (uh hd).symm,rfl⟩
  ·have hd:Hid (Gr.walkB k=false):=by show Gr.walkB k=false;simp only [Gr.walkB,decide_eq_false_iff_not];omega
   go_enter Tryz.func75,Tryz.ntmps75;go_wp2;go_ret;exact ⟨ret_bool (uh hd).symm,rfl⟩
 ·have hd:Hid (Gr.walkB k=false):=by show Gr.walkB k=false;simp only [Gr.walkB,decide_eq_false_iff_not];omega
  go_enter Tryz.func75,Tryz.ntmps75;go_wp2;go_ret;exact ⟨ret_bool (uh hd).symm,rfl⟩

theorem Gr.clear_of_no {k:Int} (h:Gr.walkB k=false):Gr.clearB k=false:=by
 simp only [Gr.walkB,Gr.clearB,decide_eq_false_iff_not] at *;omega

theorem Gr.clear_of_yes {k:Int} (h:Gr.walkB k=true):Gr.clearB k=(k != 2):=by
 simp only [Gr.walkB,decide_eq_true_eq] at h;rw [Bool.eq_iff_iff];simp [Gr.clearB];omega

set_option maxHeartbeats 400000 in
theorem refClear_any (k:Int) (w:World) :
  Calls Tryz.prog 102 #[.int .i64 k] w fun e w'=>e=.returned (.bool (Gr.clearB k))∧w'=w:=by
 by_cases h:Gr.walkB k=true
 ·have hd:=hide (Gr.clear_of_yes h);go_enter Tryz.func102,Tryz.ntmps102;go_wp2_with (go_at_call 75;refine (refWalk_any _ _).mono ?_;rintro e w' ⟨rfl,rfl⟩);go_ret;exact ⟨ret_bool (uh hd).symm,rfl⟩
 ·have h':Gr.walkB k=false:=by simpa using h
  have hd:=hide (Gr.clear_of_no h');clear h;go_enter Tryz.func102,Tryz.ntmps102;go_wp2_with (go_at_call 75;refine (refWalk_any _ _).mono ?_;rintro e w' ⟨rfl,rfl⟩);go_ret;exact ⟨ret_bool (uh hd).symm,rfl⟩

theorem Gr.near_neg (p n:Int) (hn:0<n) (h:(2*p+n).tmod (2*n)<0):(2*p+n).tdiv (2*n) - 1=Gr.near p n:=by
 unfold Gr.near;have h0:=Int.mul_tdiv_add_tmod (2*p+n) (2*n);have h1:=Int.mul_ediv_add_emod (2*p+n) (2*n);have h2:=Int.emod_nonneg (2*p+n) (b:=2*n) (by omega);have h3:=Int.emod_lt_of_pos (2*p+n) (b:=2*n) (by omega);have h4:=Int.lt_tmod_of_pos (2*p+n) (b:=2*n) (by omega);generalize (2*p+n).tdiv (2*n)=q at *
 generalize (2*p+n) / (2*n)=r at *
 generalize (2*p+n).tmod (2*n)=s at *
 generalize (2*p+n) % (2*n)=t at *
 have:(2*n)*(q - 1)=(2*n)*q - 2*n:=by rw [Int.mul_sub,Int.mul_one]
 have e:(2*n)*(q - 1 - r)=t - s - 2*n:=by rw [Int.mul_sub];omega
 rcases Int.lt_trichotomy (q - 1 - r) 0 with g|g|g
 ·have:(2*n)*(q - 1 - r)≤(2*n)*(-1):=Int.mul_le_mul_of_nonneg_left (by omega) (by omega);omega
 ·omega
 ·have:(2*n)*1≤(2*n)*(q - 1 - r):=Int.mul_le_mul_of_nonneg_left (by omega) (by omega);omega

theorem Gr.near_pos (p n:Int) (hn:0<n) (h:¬(2*p+n).tmod (2*n)<0):(2*p+n).tdiv (2*n)=Gr.near p n:=by
 unfold Gr.near;have h0:=Int.mul_tdiv_add_tmod (2*p+n) (2*n);have h1:=Int.mul_ediv_add_emod (2*p+n) (2*n);have h2:=Int.emod_nonneg (2*p+n) (b:=2*n) (by omega);have h3:=Int.emod_lt_of_pos (2*p+n) (b:=2*n) (by omega);have h4:=Int.tmod_lt_of_pos (2*p+n) (b:=2*n) (by omega);generalize (2*p+n).tdiv (2*n)=q at *
 generalize (2*p+n) / (2*n)=r at *
 generalize (2*p+n).tmod (2*n)=s at *
 generalize (2*p+n) % (2*n)=t at *
 have e:(2*n)*(q - r)=t - s:=by rw [Int.mul_sub];omega
 rcases Int.lt_trichotomy (q - r) 0 with g|g|g
 ·have:(2*n)*(q - r)≤(2*n)*(-1):=Int.mul_le_mul_of_nonneg_left (by omega) (by omega);omega
 ·omega
 ·have:(2*n)*1≤(2*n)*(q - r):=Int.mul_le_mul_of_nonneg_left (by omega) (by omega);omega

theorem Gr.tdiv_bd (p n:Int) (h1:-1000≤p) (h2:p≤1000) (h3:n≤100) (h4:0<n):-2100≤(2*p+n).tdiv (2*n)∧(2*p+n).tdiv (2*n)≤2100:=by
 have h:((2*p+n).tdiv (2*n)).natAbs≤(2*p+n).natAbs:=by
  rw [Int.natAbs_tdiv];exact Nat.div_le_self _ _
 omega

set_option maxHeartbeats 400000 in
theorem off_any (p n:Int) (w:World) (h1:-1000≤p) (h2:p≤1000) (h3:n≤100) (h4:0<n) :
  Calls Tryz.prog 113 #[.int .i64 p,.int .i64 n] w fun e w'=>e=.returned (.int .i64 (Gr.near p n))∧w'=w:=by
 obtain ⟨b1,b2⟩:=Gr.tdiv_bd p n h1 h2 h3 h4;by_cases hs:0≤2*p+n
 ·have e:(2*p+n).tmod (2*n)=(2*p+n) % (2*n):=Int.tmod_eq_emod_of_nonneg hs;have hn:=Int.emod_nonneg (2*p+n) (b:=2*n) (by omega);have hd:=hide (Gr.near_pos p n h4 (by omega));have e2:(2*p+n).tdiv (2*n)=(2*p+n) / (2*n):=Int.tdiv_eq_ediv_of_nonneg hs;rw [e2] at b1 b2;clear e e2;go_enter Tryz.func113,Tryz.ntmps113;go_wp2;go_ret;exact ⟨rti rfl,rfl⟩
 ·by_cases hn:(2*p+n).tmod (2*n)<0
  ·have hd:=hide (Gr.near_neg p n h4 hn);go_enter Tryz.func113,Tryz.ntmps113;go_wp2;go_ret;exact ⟨rti (uh hd),rfl⟩
  ·have hd:=hide (Gr.near_pos p n h4 hn);go_enter Tryz.func113,Tryz.ntmps113;go_wp2;go_ret;exact ⟨rti (uh hd),rfl⟩

end Go.Proofs.YtldgbkjceildfaaGreat

namespace Go.Proofs.YtldgbkjceildfaaGreat

namespace Gr

theorem near_up (p n d:Int) (hn:0<n) (h0:0≤p) (h1:p≤n*d):0≤near p n∧near p n≤d:=by
 unfold near;refine ⟨Int.ediv_nonneg (by omega) (by omega),?_⟩;have:(2*p+n) / (2*n)<d+1:=Int.ediv_lt_of_lt_mul (by omega) (by
  have:(d+1)*(2*n)=2*(n*d)+2*n:=by rw [Int.add_mul,Int.one_mul,Int.mul_comm d,Int.mul_assoc]
  omega)
 omega

theorem near_down (p n d:Int) (hn:0<n) (h0:p≤0) (h1:n*d≤p):d≤near p n∧near p n≤0:=by
 unfold near;constructor
 ·refine Int.le_ediv_of_mul_le (by omega) ?_;have:d*(2*n)=2*(n*d):=by rw [Int.mul_comm d,Int.mul_assoc]
  omega
 ·have:(2*p+n) / (2*n)<1:=Int.ediv_lt_of_lt_mul (by omega) (by omega);omega

theorem near_mul (n d:Int) (hn:0<n):near (n*d) n=d:=by
 unfold near;have h1:d≤(2*(n*d)+n) / (2*n):=by
  refine Int.le_ediv_of_mul_le (by omega) ?_;have:d*(2*n)=2*(n*d):=by rw [Int.mul_comm d,Int.mul_assoc]
  omega
 have h2:(2*(n*d)+n) / (2*n)<d+1:=Int.ediv_lt_of_lt_mul (by omega) (by
  have:(d+1)*(2*n)=2*(n*d)+2*n:=by rw [Int.add_mul,Int.one_mul,Int.mul_comm d,Int.mul_assoc]
  omega)
 omega

def span (x0 y0 x1 y1:Int):Nat:=(max (max (x1 - x0) (x0 - x1)) (max (y1 - y0) (y0 - y1))).toNat

def ln (x0 y0 x1 y1:Int) (k:Nat):Int :=
 (y0+near (k*(y1 - y0)) (span x0 y0 x1 y1))*24+(x0+near (k*(x1 - x0)) (span x0 y0 x1 y1))

theorem part (d n:Int) (k:Nat) (hn:0<n) (hk:(k:Int)≤n):(0≤d∧0≤near (k*d) n∧near (k*d) n≤d)∨(d≤0∧d≤near (k*d) n∧near (k*d) n≤0):=by
 by_cases h:0≤d
 ·left;have a:0≤(k:Int)*d:=Int.mul_nonneg (by omega) h;have b:(k:Int)*d≤n*d:=Int.mul_le_mul_of_nonneg_right hk h;exact ⟨h,near_up _ _ _ hn a b⟩
 ·right;have a:(k:Int) * -d≤n * -d:=Int.mul_le_mul_of_nonneg_right hk (by omega);have b:0≤(k:Int) * -d:=Int.mul_nonneg (by omega) (by omega);rw [Int.mul_neg] at a b;rw [Int.mul_neg] at a;exact ⟨by omega,near_down _ _ _ hn (by omega) (by omega)⟩

theorem mul_bd (k:Nat) (d:Int) (hk:k≤23) (h1:-23≤d) (h2:d≤23):-1000≤(k:Int)*d∧(k:Int)*d≤1000:=by
 have a:(k:Int)*d≤(k:Int)*23:=Int.mul_le_mul_of_nonneg_left h2 (by omega);have b:(k:Int)*(-23)≤(k:Int)*d:=Int.mul_le_mul_of_nonneg_left h1 (by omega);omega

theorem ln_parts (x0 y0 x1 y1:Int) (h0:inB x0 y0=true) (h1:inB x1 y1=true) (k:Nat) (hk:k≤span x0 y0 x1 y1) :
  ∃x y:Int,ln x0 y0 x1 y1 k=y*24+x∧x=x0+near (k*(x1 - x0)) (span x0 y0 x1 y1)∧y=y0+near (k*(y1 - y0)) (span x0 y0 x1 y1)∧0≤x∧x<24∧0≤y∧y<16:=by
 rw [inB_iff] at h0 h1;refine ⟨_,_,rfl,rfl,rfl,?_⟩;by_cases hn:span x0 y0 x1 y1=0
 ·obtain rfl:k=0:=by omega
  rw [hn];have e:∀p,near p ((0:Nat):Int)=0:=fun p=>by simp [near]
  rw [e,e];omega
 ·have hs:-(span x0 y0 x1 y1:Int)≤x1 - x0∧x1 - x0≤span x0 y0 x1 y1∧-(span x0 y0 x1 y1:Int)≤y1 - y0∧y1 - y0≤span x0 y0 x1 y1:=by unfold span;omega
  have a:=part (x1 - x0) (span x0 y0 x1 y1) k (by omega) (by omega);have b:=part (y1 - y0) (span x0 y0 x1 y1) k (by omega) (by omega);omega

theorem span_bd (x0 y0 x1 y1:Int) (h0:inB x0 y0=true) (h1:inB x1 y1=true):span x0 y0 x1 y1≤23:=by
 rw [inB_iff] at h0 h1;unfold span;omega

theorem ln_bd (x0 y0 x1 y1:Int) (h0:inB x0 y0=true) (h1:inB x1 y1=true) (k:Nat) (hk:k≤span x0 y0 x1 y1):0≤ln x0 y0 x1 y1 k∧ln x0 y0 x1 y1 k<384:=by
 obtain ⟨x,y,e,_,_,_,_,_,_⟩:=ln_parts x0 y0 x1 y1 h0 h1 k hk;omega

theorem near_0 (n:Int) (hn:0≤n):near 0 n=0:=by
 by_cases h:n=0
 ·subst h;rfl
 ·have:=near_mul n 0 (by omega)
  rwa [Int.mul_zero] at this

theorem ln_first (x0 y0 x1 y1:Int):ln x0 y0 x1 y1 0=y0*24+x0:=by
 unfold ln;rw [show ((0:Nat):Int)=0 from rfl,Int.zero_mul,Int.zero_mul,near_0 _ (by omega)];omega

end Gr


open Go.RowKit

theorem refLine_none (x0 y0 x1 y1:Int) (w:World) (h:Gr.inB x0 y0=true→Gr.inB x1 y1=false) :
  Calls Tryz.prog 101 #[.int .i64 x0,.int .i64 y0,.int .i64 x1,.int .i64 y1] w fun e w'=>e=.returned (.slice none 0 0)∧w'=w:=by
 by_cases h0:Gr.inB x0 y0=true
 ·have h1:=h h0;clear h;go_enter Tryz.func101,Tryz.ntmps101;go_wp2_with (go_at_call 76;refine (refIn_any _ _ _).mono ?_;rintro e w' ⟨rfl,rfl⟩);go_ret;exact ⟨rfl,rfl⟩
 ·have h0':Gr.inB x0 y0=false:=by simpa using h0
  clear h h0;go_enter Tryz.func101,Tryz.ntmps101;go_wp2_with (go_at_call 76;refine (refIn_any _ _ _).mono ?_;rintro e w' ⟨rfl,rfl⟩);go_ret;exact ⟨rfl,rfl⟩

theorem max2 (ts:Array TypeId) (t:TypeId) (a b n:Int) (w:World) (h:max a b=n) :
  (Builtin.max_ ts t #[.int .i64 a,.int .i64 b]).run Tryz.prog w=.ok (.int .i64 n) w:=by
 rw [run_max_int2];congr 2;omega

def Gr.lnRow (x0 y0 x1 y1:Int) (k:Nat):List Int:=(List.range k).map (Gr.ln x0 y0 x1 y1)

theorem ln_more (x0 y0 x1 y1:Int) (k:Nat) (v:Int) (h:v=Gr.ln x0 y0 x1 y1 k) :
  (Gr.lnRow x0 y0 x1 y1 k).map (Value.int .i64) ++ [.int .i64 v]=(Gr.lnRow x0 y0 x1 y1 (k+1)).map (Value.int .i64):=by
 unfold Gr.lnRow;rw [List.range_succ,h];simp

section
attribute [-go_sem] run_max_int2

set_option maxRecDepth 4000 in
set_option maxHeartbeats 800000 in
theorem refLine_some (x0 y0 x1 y1:Int) (w:World) (h0:Gr.inB x0 y0=true) (h1:Gr.inB x1 y1=true) :
  Calls Tryz.prog 101 #[.int .i64 x0,.int .i64 y0,.int .i64 x1,.int .i64 y1] w
   (Gives w (Gr.span x0 y0 x1 y1+1) (Ints (Gr.ln x0 y0 x1 y1))):=by
 have hn23:=Gr.span_bd x0 y0 x1 y1 h0 h1;obtain ⟨b1,b2,b3,b4⟩:=(Gr.inB_iff x0 y0).1 h0;obtain ⟨b5,b6,b7,b8⟩:=(Gr.inB_iff x1 y1).1 h1;obtain ⟨n,hn⟩:∃n:Nat,n=Gr.span x0 y0 x1 y1:=⟨_,rfl⟩;obtain ⟨dx,hdx⟩:∃d:Int,x1 - x0=d:=⟨_,rfl⟩;obtain ⟨dy,hdy⟩:∃d:Int,y1 - y0=d:=⟨_,rfl⟩;obtain ⟨mx,hmx⟩:∃m:Int,max dx (-dx)=m:=⟨_,rfl⟩;obtain ⟨my,hmy⟩:∃m:Int,max dy (-dy)=m:=⟨_,rfl⟩;have hm1:=fun ts t w=>max2 ts t dx (-dx) mx w hmx;have hm2:=fun ts t w=>max2 ts t dy (-dy) my w hmy;have hm3:=fun ts t w=>max2 ts t mx my (n:Int) w (by rw [hn];unfold Gr.span;omega);clear hmx hmy;have hn':=hide hn;have d1:-23≤dx:=by omega
 have d2:dx≤23:=by omega
 have d3:-23≤dy:=by omega
 have d4:dy≤23:=by omega
 obtain ⟨i0,hi,hz0,hz1,hz2⟩:=info_parts info_int;rw [←hn] at hn23 ⊢;clear hn;by_cases hz:n=0
 ·subst hz;go_enter Tryz.func101,Tryz.ntmps101;go_wp2_with (first | (go_at_call 76;refine (refIn_any _ _ _).mono ?_;rintro e w' ⟨rfl,hw⟩;subst w'));go_ret;have hf:=hide (Gr.ln_first x0 y0 x1 y1);refine ⟨_,_,rfl,⟨by decide,.inr ⟨_,_,rfl,by simp,?_⟩⟩,by omega,(Below.refl _ _).alloc (Nat.le_refl _) _⟩;intro i hi1;obtain rfl:i=0:=by omega
  show _=some (Value.int .i64 (Gr.ln x0 y0 x1 y1 0));rw [uh hf];simp
 ·have hz':((n:Int) == 0)=false:=by simp;omega
  obtain ⟨G,hG⟩:∃G,G=w.heap.size:=⟨_,rfl⟩;have hG':=hide hG;have hB:Below G w w:=Below.refl _ _;clear hG;go_enter Tryz.func101,Tryz.ntmps101;go_wp2_with (first | (go_at_call 76;refine (refIn_any _ _ _).mono ?_;rintro e w' ⟨rfl,hw⟩;subst w'));clear hm1 hm2 hm3
  go_loopw [12,13] (fun v i wr=>∃k:Nat,k≤n+1∧i=.int .i64 k∧wr.ownsRow G 3 1 v k ((Gr.lnRow x0 y0 x1 y1 k).map (Value.int .i64))∧Below G w wr) (fun _ i _=>n+1 - (intOf i).toNat)
  case atStart=>exact ⟨0,Nat.zero_le _,rfl,World.ownsRow_nil _ _ _ _,hB⟩
  case round =>
   obtain ⟨k,hk,rfl,hown,hB1⟩:=hrel;have hGs:G≤wr.heap.size:=by have:=hB1.size;have:=uh hG';omega
   clear hB;by_cases hlt:k<n+1
   ·obtain ⟨X,Y,eln,eX,eY,c1,c2,c3,c4⟩:=Gr.ln_parts x0 y0 x1 y1 h0 h1 k (by have:=uh hn';omega);rw [hdx,←uh hn'] at eX;rw [hdy,←uh hn'] at eY;subst eX;subst eY;have eln':=hide eln;clear eln;obtain ⟨m1,m2⟩:=Gr.mul_bd k dx (by omega) d1 d2;obtain ⟨m3,m4⟩:=Gr.mul_bd k dy (by omega) d3 d4;have hlt':(k:Int)≤(n:Int):=by omega
    go_wp2_with (first | (go_at_call 113;refine (off_any _ _ _ (by omega) (by omega) (by omega) (by omega)).mono ?_;rintro e w' ⟨rfl,hw⟩;subst w') | (at_builtin;refine wpList_append_own _ rfl _ _ 23 rfl G 3 i0 (.int .i64 0) 1 8 Tryz.underlying23 hi hz0 hz1 hz2 rfl (by decide) _ _ _ rfl (hown.alloc _) ⟨wr.heap.size,0,none⟩ 1 1 [.int .i64 ((y0+Gr.near (k*dy) n)*24+x0+Gr.near (k*dx) n)] rfl rfl ?c1 ?c2 ?c3 ?c4 ?c5 ?_));case c1=>exact cell_one_new _ _ _
    case c2=>intro u hu;simp at hu;subst hu;rfl
    case c3=>unfold maxLen;omega
    case c4=>omega
    case c5=>simp;omega
    intro v' w1 hown' hgrow _;rw [ln_more x0 y0 x1 y1 k _ (by rw [uh eln'];omega)] at hown';have hB2:Below G w w1:=(hB1.alloc hGs _).grown hgrow (by simp;omega) (by intro j hj;exact (hown.lt j hj).1);have hown2:=hide hown';clear hown' hgrow hown;go_wp2;go_roundw;case rel=>exact ⟨k+1,by omega,by go_num,uh hown2,hB2⟩
    case measure=>simp [intOf];omega
   ·have hge:¬(k:Int)≤(n:Int):=by omega
    obtain rfl:k=n+1:=by omega
    obtain ⟨a,cap,rfl,_,hv⟩:=own_vec hown (by unfold maxLen;omega);have hcap:n+1≤cap:=by
     rcases hown.2 with ⟨h,_⟩|⟨g,c,cur,h,_,_,hc,_⟩
     ·cases h
     ·cases h;exact hc
    have hv2:=hide (hv.congr (G:=Ints (Gr.ln x0 y0 x1 y1)) fun j hj=>by simp [Ints,Gr.lnRow,List.getElem?_range hj]);clear hv hown;go_wp2;go_ret;exact ⟨_,_,rfl,uh hv2,hcap,by rw [←uh hG'];exact hB1⟩

end


open Go.RowKit

def Gr.kind (len:Nat) (f:Nat→Int) (c:Int):Int:=if 0≤c∧c<384∧c.toNat<len then f c.toNat else 0

theorem Gr.kind_at (len:Nat) (f:Nat→Int) (c:Int) (h:0≤c):Gr.at len f (c % 24) (c / 24)=Gr.kind len f c:=by
 have e:c / 24*24+c % 24=c:=by omega
 have hi:=Gr.inB_iff (c % 24) (c / 24);unfold Gr.at Gr.kind;rw [e];by_cases hc:c<384∧c.toNat<len
 ·rw [if_pos ⟨hi.2 (by omega),hc.2⟩,if_pos ⟨h,hc⟩]
 ·rw [if_neg (fun hh=>hc ⟨by have:=hi.1 hh.1;omega,hh.2⟩),if_neg (by omega)]

def Gr.find (len:Nat) (f:Nat→Int) (kind:Int):Int:=Gr.findFrom f kind (min len 384) 0

theorem Gr.find_on (f:Nat→Int) (kind:Int) (n k:Nat) (hk:k<n):Gr.findFrom f kind (n - k) k=if f k=kind then (k:Int) else Gr.findFrom f kind (n - (k+1)) (k+1):=by
 obtain ⟨m,hm⟩:∃m,n - k=m+1:=⟨n - k - 1,by omega⟩;rw [hm,show n - (k+1)=m by omega];rfl

theorem Gr.find_off (f:Nat→Int) (kind:Int) (n:Nat):Gr.findFrom f kind (n - n) n=-1:=by
 rw [Nat.sub_self];rfl

set_option maxHeartbeats 800000 in
theorem refFind_any (B:Nat) (a:Option Addr) (len cap:Nat) (f:Nat→Int) (kind:Int) (w:World) (h:Vec B w a len (Byts f)) (hf:∀i,0≤f i∧f i≤255) :
  Calls Tryz.prog 49 #[.slice a len cap,.int .i64 kind] w fun e w'=>e=.returned (.int .i64 (Gr.find len f kind))∧w'=w:=by
 have hm:len≤9223372036854775807:=h.1;have hf':=hide hf;have hv:=hide h;obtain ⟨n,hn⟩:∃n:Nat,n=min len 384:=⟨_,rfl⟩;have hR:Hid (Gr.find len f kind=Gr.findFrom f kind (n - 0) 0):=by
  show Gr.find len f kind=_;unfold Gr.find;rw [hn];rfl
 have hn1:n≤len:=by omega
 have hn2:n≤384:=by omega
 have hn3:¬n<len→n=len:=by omega
 have hN:=hide hn;clear hf h hn;go_enter Tryz.func49,Tryz.ntmps49;go_wp2_with fail
 go_loop [5] (fun i=>∃k:Nat,k≤n∧i=.int .i64 k∧Gr.findFrom f kind (n - k) k=Gr.find len f kind) (fun i=>n - (intOf i).toNat)
 case atStart=>exact ⟨0,Nat.zero_le _,rfl,(uh hR).symm⟩
 case round =>
  obtain ⟨k,hk,rfl,hr⟩:=hrel;have hrr:=hide hr;clear hr hn3;by_cases hlt:k<n
  ·obtain ⟨b,off,rfl,_,hc⟩:=((uh hv).taken n hn1).at hlt;have hc':w.cell? ⟨b,off+k,none⟩=some (.int .u8 (f k)):=hc;obtain ⟨f1,f2⟩:=(uh hf') k;clear hc;have hlt':(k:Int)<(len:Int):=by omega
   have hlt2:(k:Int)<384:=by omega
   have hon:=hide (Gr.find_on f kind n k hlt);by_cases he:f k=kind
   ·have he':(f k == kind)=true:=by simpa using he
    have hH:=hide he;clear he;go_wp2;go_ret;refine ⟨rti ?_,rfl⟩;rw [←uh hrr,uh hon,if_pos (uh hH)]
   ·have he':(f k == kind)=false:=by simpa using he
    go_wp2;go_round;case rel =>
     refine ⟨k+1,by omega,by go_num,?_⟩;rw [←uh hrr,uh hon,if_neg he]
    case measure=>simp [intOf];omega
  ·have hkn:k=n:=by omega
   have hfin:Hid (Gr.find len f kind=-1):=by
    show Gr.find len f kind=-1;rw [←uh hrr,hkn];exact Gr.find_off f kind n
   by_cases hkl:(k:Int)<(len:Int)
   ·have hk3:¬(k:Int)<384:=by have:=uh hN;omega
    clear hkn;go_wp2;go_ret;exact ⟨rti (uh hfin).symm,rfl⟩
   ·clear hkn;go_wp2;go_ret;exact ⟨rti (uh hfin).symm,rfl⟩


open Go.RowKit

theorem Gr.within_neg (a n:Int) (hn:0<n) (h:a.tmod n<0):a.tmod n+n=a % n:=by
 have:=Int.emod_nonneg a (b:=n) (by omega);have:=Int.emod_lt_of_pos a hn;have e:=Int.emod_eq_tmod (a:=a) (b:=n);by_cases hc:0≤a∨n ∣ a
 ·rw [if_pos hc] at e;omega
 ·rw [if_neg hc] at e;omega

theorem Gr.within_pos (a n:Int) (hn:0<n) (h:¬a.tmod n<0):a.tmod n=a % n:=by
 have:=Int.emod_lt_of_pos a hn;have e:=Int.emod_eq_tmod (a:=a) (b:=n);by_cases hc:0≤a∨n ∣ a
 ·rw [if_pos hc] at e;omega
 ·rw [if_neg hc] at e;omega

def Made (w:World) (T:TypeId) (n:Nat) (F:Nat→Value) (e:Ending) (w':World):Prop :=
 ∃g,e=.returned (.slice (some ⟨g,0,none⟩) n n)∧w.heap.size≤g∧Arr w' g T n F∧Below w.heap.size w w'

theorem info_byte:(Tryz.prog.info? 5).map (fun i=>(i.zero,i.size,i.bytes))=some (some (.int .u8 0),1,1):=by kernel_rfl

def Gr.Sees (len:Nat) (f:Nat→Int) (x0 y0 x1 y1:Int):Prop :=
 Gr.inB x0 y0=true∧Gr.inB x1 y1=true∧∀k,0<k→k<Gr.span x0 y0 x1 y1→Gr.clearB (Gr.kind len f (Gr.ln x0 y0 x1 y1 k))=true

def Tells (w:World) (p:Prop) (e:Ending) (w':World):Prop:=∃b,e=.returned (.bool b)∧(b=true↔p)∧Below w.heap.size w w'

theorem Gr.sees_no {len:Nat} {f:Nat→Int} {x0 y0 x1 y1:Int} (h:Gr.inB x0 y0=true→Gr.inB x1 y1=false):¬Gr.Sees len f x0 y0 x1 y1:=by
 rintro ⟨h0,h1,_⟩;rw [h h0] at h1;cases h1

set_option maxHeartbeats 800000 in
theorem refSees_any (a:Option Addr) (len cap:Nat) (f:Nat→Int) (x0 y0 x1 y1:Int) (w:World) (h:Vec w.heap.size w a len (Byts f)) (hf:∀i,0≤f i∧f i≤255) :
  Calls Tryz.prog 79 #[.slice a len cap,.int .i64 x0,.int .i64 y0,.int .i64 x1,.int .i64 y1] w (Tells w (Gr.Sees len f x0 y0 x1 y1)):=by
 have hv:=hide h;have hf':=hide hf;clear h hf;by_cases hin:Gr.inB x0 y0=true∧Gr.inB x1 y1=true
 ·obtain ⟨h0,h1⟩:=hin;have hn23:=Gr.span_bd x0 y0 x1 y1 h0 h1;go_enter Tryz.func79,Tryz.ntmps79;go_wp2_with fail;refine (refLine_some _ _ _ _ _ h0 h1).mono ?_;rintro e w1 ⟨a1,cap1,rfl,hv1,_,hb1⟩;have hl:=hide hv1;have hv2:=hide ((uh hv).kept hb1);obtain ⟨n,hn⟩:∃n:Nat,n=Gr.span x0 y0 x1 y1:=⟨_,rfl⟩;rw [←hn] at hn23 hl ⊢;have hn':=hide hn;obtain ⟨B1,hB1⟩:∃B,B=w1.heap.size:=⟨_,rfl⟩;rw [←hB1] at hl;have hwB:w.heap.size≤B1:=by rw [hB1];exact hb1.size
  clear hv hv1 hn hB1;go_wp2_with fail
  go_loopw [12] (fun i wr=>∃k:Nat,1≤k∧k≤n+1∧i=.int .i64 k∧(∀j,0<j→j<k→j<n→Gr.clearB (Gr.kind len f (Gr.ln x0 y0 x1 y1 j))=true)∧Vec B1 wr a1 (n+1) (Ints (Gr.ln x0 y0 x1 y1))∧Vec w.heap.size wr a len (Byts f)∧Below w.heap.size w wr) (fun i _=>n+1 - (intOf i).toNat)
  case atStart=>exact ⟨1,by omega,by omega,rfl,fun j h1 h2 _=>by omega,uh hl,uh hv2,hb1⟩
  case round =>
   obtain ⟨k,hk0,hk,rfl,hall,hl1,hv1,hbr⟩:=hrel;have hall':=hide hall;have hl2:=hide hl1;have hv3:=hide hv1;clear hall hl1 hv1 hv2 hl hb1;by_cases hlt:k<n
   ·obtain ⟨b,off,rfl,_,hc⟩:=(uh hl2).at (k:=k) (by omega);have hc':wr.cell? ⟨b,off+k,none⟩=some (.int .i64 (Gr.ln x0 y0 x1 y1 k)):=hc;obtain ⟨l1,l2⟩:=Gr.ln_bd x0 y0 x1 y1 h0 h1 k (by have:=uh hn';omega);obtain ⟨c,hcc⟩:∃c,c=Gr.ln x0 y0 x1 y1 k:=⟨_,rfl⟩;rw [←hcc] at hc' l1 l2;have hkd:=hide (Gr.kind_at len f c l1);have hc24:c.tmod 24=c % 24:=Int.tmod_eq_emod_of_nonneg l1;have hq24:IntKind.i64.wrap (c.tdiv 24)=c / 24:=by rw [Int.tdiv_eq_ediv_of_nonneg l1];rw [IntKind.wrap_i64];omega
    have hC:=hide hcc;clear hc hcc;have hlt':(k:Int)+1<(n:Int)+1:=by omega
    have hlt2:(k:Int)<(n:Int)+1:=by omega
    by_cases hcl:Gr.clearB (Gr.kind len f c)=true
    ·have hcl2:Gr.clearB (Gr.at len f (c % 24) (c / 24))=true:=by rw [uh hkd];exact hcl
     go_wp2_with fail;go_quiet (first | (go_at_call 45;refine Calls.quiet_of_same (refAt_any w.heap.size _ _ _ f _ _ _ ?_ (uh hf'));exact (uh hv3).drew _) | (go_at_call 102;refine Calls.quiet_of_same (refClear_any _ _)));go_wp2;go_roundw;case rel =>
      refine ⟨k+1,by omega,by omega,by go_num,fun j g1 g2 g3=>?_,(uh hl2).drew _,(uh hv3).drew _,below_drewN hbr _⟩;by_cases hjk:j=k
      ·rw [hjk,←uh hC];exact hcl
      ·exact (uh hall') j g1 (by omega) g3
     case measure=>simp [intOf];omega
    ·have hcl':Gr.clearB (Gr.at len f (c % 24) (c / 24))=false:=by rw [uh hkd];simpa using hcl
     have hno:Hid (¬Gr.Sees len f x0 y0 x1 y1):=by
      show ¬Gr.Sees len f x0 y0 x1 y1;rintro ⟨_,_,h⟩;exact hcl (by rw [uh hC];exact h k (by omega) (by have:=uh hn';omega))
     clear hcl;go_wp2_with fail;go_quiet (first | (go_at_call 45;refine Calls.quiet_of_same (refAt_any w.heap.size _ _ _ f _ _ _ ?_ (uh hf'));exact (uh hv3).drew _) | (go_at_call 102;refine Calls.quiet_of_same (refClear_any _ _)));go_wp2;go_ret;exact ⟨false,rfl,⟨fun h=>(by cases h),fun h=>absurd h (uh hno)⟩,below_drewN hbr _⟩
   ·have hge:¬(k:Int)+1<(n:Int)+1:=by omega
    have hyes:Hid (Gr.Sees len f x0 y0 x1 y1):=⟨h0,h1,fun j g1 g2=>(uh hall') j g1 (by have:=uh hn';omega) (by have:=uh hn';omega)⟩;have hpos:(0:Int)<(n:Int)+1:=by omega
    go_wp2;go_ret;exact ⟨true,rfl,⟨fun _=>uh hyes,fun _=>rfl⟩,hbr⟩
 ·have hno:Gr.inB x0 y0=true→Gr.inB x1 y1=false:=fun h0=>by simpa using fun h1=>hin ⟨h0,h1⟩
  have hns:=hide (Gr.sees_no (len:=len) (f:=f) hno);clear hin;go_enter Tryz.func79,Tryz.ntmps79;go_wp2_with fail;refine (refLine_none _ _ _ _ _ hno).mono ?_;rintro e w' ⟨rfl,hw⟩;subst w';go_wp2_with fail;refine wp_loop_rounds 1 ?_;rw [rounds_succ];go_wp2;go_ret;exact ⟨false,rfl,⟨fun h=>(by cases h),fun h=>absurd h (uh hns)⟩,Below.refl _ _⟩

end Go.Proofs.YtldgbkjceildfaaGreat

namespace Go.Proofs.YtldgbkjceildfaaGreat

namespace Gr

def dxOf:Nat→Int | 1=>1 | 3=>-1 | _=>0
def dyOf:Nat→Int | 0=>-1 | 2=>1 | _=>0

def nbIn (i d:Nat):Prop:=0≤(i % 24:Nat)+dxOf d∧(i % 24:Nat)+dxOf d<24∧0≤(i / 24:Nat)+dyOf d∧(i / 24:Nat)+dyOf d<16
def nbOf (i d:Nat):Nat:=(((i / 24:Nat)+dyOf d)*24+((i % 24:Nat)+dxOf d)).toNat

theorem nb_eq {i d:Nat} (h:nbIn i d):((nbOf i d:Nat):Int)=((i / 24:Nat)+dyOf d)*24+((i % 24:Nat)+dxOf d):=by
 unfold nbIn at h;unfold nbOf;omega

theorem nb_lt {i d:Nat} (h:nbIn i d):nbOf i d<384:=by
 have:=nb_eq h;unfold nbIn at h;omega

def opp:Nat→Nat | 0=>2 | 1=>3 | 2=>0 | _=>1

theorem opp_lt {d:Nat} (h:d<4):opp d<4:=by
 match d,h with
 | 0,_ | 1,_ | 2,_ | 3,_=>decide

theorem nb_back {i d:Nat} (hi:i<384) (hd:d<4) (h:nbIn i d):nbIn (nbOf i d) (opp d)∧nbOf (nbOf i d) (opp d)=i:=by
 have e:=nb_eq h;have key:nbIn (nbOf i d) (opp d)∧((nbOf i d / 24:Nat)+dyOf (opp d))*24+((nbOf i d % 24:Nat)+dxOf (opp d))=(i:Int):=by
  unfold nbIn at *
  generalize nbOf i d=n at *
  match d,hd with
  | 0,_=>simp only [dxOf,dyOf,opp] at *;omega
  | 1,_=>simp only [dxOf,dyOf,opp] at *;omega
  | 2,_=>simp only [dxOf,dyOf,opp] at *;omega
  | 3,_=>simp only [dxOf,dyOf,opp] at *;omega
 refine ⟨key.1,?_⟩;have:=nb_eq key.1;omega

structure IsField (op tg:Nat→Prop) (F:Nat→Int):Prop where
 lo:∀i,i<384→-1≤F i
 zero:∀i,i<384→(F i=0↔tg i)
 back:∀i,i<384→0<F i→op i∧∃j d,j<384∧d<4∧nbIn j d∧nbOf j d=i∧F j=F i - 1
 fwd:∀j,j<384→0≤F j→∀d,d<4→nbIn j d→op (nbOf j d)→0≤F (nbOf j d)∧F (nbOf j d)≤F j+1

def cnt (F:Nat→Int):Nat→Nat
 | 0=>0
 | n+1=>cnt F n+if 0≤F n then 1 else 0

theorem cnt_le (F:Nat→Int) (n:Nat):cnt F n≤n:=by
 induction n with
 | zero=>exact Nat.le_refl _
 | succ n ih=>unfold cnt;split <;> omega

theorem cnt_same (F H:Nat→Int) (n:Nat) (h:∀i,i<n→(0≤F i↔0≤H i)):cnt F n=cnt H n:=by
 induction n with
 | zero=>rfl
 | succ n ih =>
  unfold cnt;rw [ih fun i hi=>h i (by omega)];have:=h n (by omega);by_cases hn:0≤F n
  ·rw [if_pos hn,if_pos (this.1 hn)]
  ·rw [if_neg hn,if_neg fun hh=>hn (this.2 hh)]

def upd (F:Nat→Int) (b:Nat) (v:Int) (i:Nat):Int:=if i=b then v else F i

theorem upd_at (F:Nat→Int) (b:Nat) (v:Int):upd F b v b=v:=if_pos rfl
theorem upd_ne (F:Nat→Int) {b i:Nat} (v:Int) (h:i≠b):upd F b v i=F i:=if_neg h

theorem cnt_upd (F:Nat→Int) (b:Nat) (v:Int) (n:Nat) (hb:b<n) (h0:F b<0) (hv:0≤v):cnt (upd F b v) n=cnt F n+1:=by
 induction n with
 | zero=>omega
 | succ n ih =>
  unfold cnt;by_cases hbn:b=n
  ·subst hbn;rw [upd_at,if_pos hv,if_neg (by omega),cnt_same (upd F b v) F b fun i hi=>by rw [upd_ne F v (by omega)]]
  ·rw [ih (by omega),upd_ne F v (by omega)];omega

structure Inv (op tg:Nat→Prop) (F:Nat→Int) (row:List Nat) (at_ d:Nat):Prop where
 lo:∀i,i<384→-1≤F i
 zero:∀i,i<384→(F i=0↔tg i)
 back:∀i,i<384→0<F i→op i∧∃j d,j<384∧d<4∧nbIn j d∧nbOf j d=i∧F j=F i - 1
 mem:∀i,i<384→(0≤F i↔i∈row)
 rng:∀i,i∈row→i<384
 cnt:row.length=cnt F 384
 sorted:∀a b,a≤b→b<row.length→F (row[a]?.getD 0)≤F (row[b]?.getD 0)
 top:at_<row.length→∀i,i<384→F i≤F (row[at_]?.getD 0)+1
 seen:∀a e,e<4→a<row.length→4*a+e<4*at_+d→nbIn (row[a]?.getD 0) e→op (nbOf (row[a]?.getD 0) e)→0≤F (nbOf (row[a]?.getD 0) e)∧F (nbOf (row[a]?.getD 0) e)≤F (row[a]?.getD 0)+1

theorem Inv.len {op tg:Nat→Prop} {F:Nat→Int} {row:List Nat} {k d:Nat} (h:Inv op tg F row k d):row.length≤384:=by
 rw [h.cnt];exact cnt_le _ _

theorem Inv.lt {op tg:Nat→Prop} {F:Nat→Int} {row:List Nat} {k d a:Nat} (h:Inv op tg F row k d) (ha:a<row.length):row[a]?.getD 0<384∧0≤F (row[a]?.getD 0):=by
 rw [List.getElem?_eq_getElem ha];have hm:row[a]∈row:=List.getElem_mem ha;have hr:=h.rng _ hm;exact ⟨hr,(h.mem _ hr).2 hm⟩

theorem Inv.high {op tg:Nat→Prop} {F:Nat→Int} {row:List Nat} {k d:Nat} (h:Inv op tg F row k d):∀(n:Nat) i,i<384→F i=n→n≤400:=by
 intro n i hi hn;have key:∀m:Nat,m≤n→∃j,j<384∧F j=m:=by
  intro m hm;induction hnm:n - m generalizing m with
  | zero=>exact ⟨i,hi,by omega⟩
  | succ q ih =>
   obtain ⟨j,hj,he⟩:=ih (m+1) (by omega) (by omega);obtain ⟨_,j',_,hj',_,_,_,he'⟩:=h.back j hj (by omega);exact ⟨j',hj',by omega⟩
 by_cases hc:n≤400
 ·exact hc
 ·exfalso;have inj:∀m:Nat,m≤n+1→m≤(List.range 384).countP (fun i=>decide (0≤F i∧F i<m)):=by
   intro m;induction m with
   | zero=>intro _;exact Nat.zero_le _
   | succ m ih =>
    intro hm;have h1:=ih (by omega);obtain ⟨j,hj,he⟩:=key m (by omega);have h2:(List.range 384).countP (fun i=>decide (0≤F i∧F i<m))<(List.range 384).countP (fun i=>decide (0≤F i∧F i<((m+1:Nat):Int))):=by
     have hs:∀(l:List Nat),j∈l→l.countP (fun i=>decide (0≤F i∧F i<m))<l.countP (fun i=>decide (0≤F i∧F i<((m+1:Nat):Int))):=by
      intro l;induction l with
      | nil=>intro hm;cases hm
      | cons x l ih =>
       intro hm;have hle:l.countP (fun i=>decide (0≤F i∧F i<m))≤l.countP (fun i=>decide (0≤F i∧F i<((m+1:Nat):Int))) :=
        List.countP_mono_left fun y _ hy=>by simp only [decide_eq_true_eq] at *;omega
       rw [List.countP_cons,List.countP_cons];rcases List.mem_cons.1 hm with rfl|hm
       ·rw [if_neg (by simp;omega),if_pos (by simp;omega)];omega
       ·have:=ih hm;by_cases hx:0≤F x∧F x<m
        ·rw [if_pos (by simpa using hx),if_pos (by simp;omega)];omega
        ·rw [if_neg (by simpa using hx)];omega
     exact hs _ (List.mem_range.2 hj)
    omega
  have:=inj 401 (by omega);have hle:(List.range 384).countP (fun i=>decide (0≤F i∧F i<((401:Nat):Int)))≤(List.range 384).length:=List.countP_le_length;rw [List.length_range] at hle;omega

theorem Inv.skip {op tg:Nat→Prop} {F:Nat→Int} {row:List Nat} {k d:Nat} (h:Inv op tg F row k d) (hk:k<row.length) (hd:d<4)
  (hs:nbIn (row[k]?.getD 0) d→op (nbOf (row[k]?.getD 0) d)→0≤F (nbOf (row[k]?.getD 0) d)):Inv op tg F row k (d+1):=by
 refine ⟨h.lo,h.zero,h.back,h.mem,h.rng,h.cnt,h.sorted,h.top,fun a e he ha hl hn ho=>?_⟩;by_cases hc:4*a+e<4*k+d
 ·exact h.seen a e he ha hc hn ho
 ·obtain rfl:a=k:=by omega
  obtain rfl:e=d:=by omega
  exact ⟨hs hn ho,h.top hk _ (nb_lt hn)⟩

theorem Inv.mark {op tg:Nat→Prop} {F:Nat→Int} {row:List Nat} {k d:Nat} (h:Inv op tg F row k d) (htg:∀i,i<384→tg i→0≤F i) (hk:k<row.length) (hd:d<4)
  (hn:nbIn (row[k]?.getD 0) d) (ho:op (nbOf (row[k]?.getD 0) d)) (hneg:F (nbOf (row[k]?.getD 0) d)<0) :
  Inv op tg (upd F (nbOf (row[k]?.getD 0) d) (F (row[k]?.getD 0)+1)) (row ++ [nbOf (row[k]?.getD 0) d]) k (d+1):=by
 obtain ⟨hc,hc0⟩:=h.lt hk;have hb:=nb_lt hn;have htop:=h.top hk;have hnc:=h.cnt;obtain ⟨c,hcd⟩:∃c,c=row[k]?.getD 0:=⟨_,rfl⟩;obtain ⟨b,hbd⟩:∃b,b=nbOf c d:=⟨_,rfl⟩;rw [←hcd] at hn ho hneg hc hc0 hb htop ⊢;rw [←hbd] at ho hneg hb ⊢;have hbr:b ∉ row:=fun hm=>by have:=(h.mem b hb).2 hm;omega
 have ne:∀i,i<384→0≤F i→i≠b:=fun i _ h0 e=>by rw [e] at h0;omega
 have old:∀i,i<384→0≤F i→upd F b (F c+1) i=F i:=fun i hi h0=>upd_ne F _ (ne i hi h0);have get:∀a,a<row.length→(row ++ [b])[a]?.getD 0=row[a]?.getD 0:=fun a ha=>by rw [List.getElem?_append_left ha]
 have getl:(row ++ [b])[row.length]?.getD 0=b:=by simp
 refine ⟨fun i hi=>?_,fun i hi=>?_,fun i hi hp=>?_,fun i hi=>?_,fun i hm=>?_,?_,fun x y hxy hy=>?_,fun _ i hi=>?_,fun a e he ha hl hn' ho'=>?_⟩
 ·by_cases e:i=b
  ·rw [e,upd_at];omega
  ·rw [upd_ne F _ e];exact h.lo i hi
 ·by_cases e:i=b
  ·rw [e,upd_at];constructor
   ·intro hh;omega
   ·intro ht;have:=htg b hb ht;omega
  ·rw [upd_ne F _ e];exact h.zero i hi
 ·by_cases e:i=b
  ·subst e;refine ⟨ho,c,d,hc,hd,hn,hbd.symm,?_⟩;rw [upd_at,old c hc hc0];omega
  ·rw [upd_ne F _ e] at hp ⊢;obtain ⟨o,j,d',hj,hd',hn',hnb,he'⟩:=h.back i hi hp;exact ⟨o,j,d',hj,hd',hn',hnb,by rw [old j hj (by omega)];exact he'⟩
 ·by_cases e:i=b
  ·rw [e,upd_at];simp;omega
  ·rw [upd_ne F _ e,h.mem i hi];simp [e]
 ·rcases List.mem_append.1 hm with hm|hm
  ·exact h.rng i hm
  ·simp at hm;omega
 ·rw [cnt_upd F b _ 384 hb hneg (by omega),List.length_append,hnc];rfl
 ·rw [List.length_append] at hy;have hy':y<row.length+1:=hy;by_cases e:y=row.length
  ·rw [e,getl,upd_at];by_cases e2:x=row.length
   ·rw [e2,getl,upd_at];exact Int.le_refl _
   ·have hx:x<row.length:=by omega
    obtain ⟨h1,h2⟩:=h.lt hx;rw [get x hx,old _ h1 h2];exact htop _ h1
  ·have hy2:y<row.length:=by omega
   obtain ⟨h1,h2⟩:=h.lt hy2;obtain ⟨h3,h4⟩:=h.lt (show x<row.length by omega);rw [get y hy2,get x (by omega),old _ h1 h2,old _ h3 h4];exact h.sorted x y hxy hy2
 ·rw [get k hk,←hcd,old c hc hc0];by_cases e:i=b
  ·rw [e,upd_at];omega
  ·rw [upd_ne F _ e];exact htop i hi
 ·by_cases ea:a=row.length
  ·omega
  ·have ha2:a<row.length:=by rw [List.length_append] at ha;have:a<row.length+1:=ha;omega
   rw [get a ha2] at hn' ho' ⊢;obtain ⟨h1,h2⟩:=h.lt ha2;rw [old _ h1 h2];by_cases hc2:4*a+e<4*k+d
   ·obtain ⟨q1,q2⟩:=h.seen a e he ha2 hc2 hn' ho';rw [old _ (nb_lt hn') q1];exact ⟨q1,q2⟩
   ·obtain rfl:a=k:=by omega
    obtain rfl:e=d:=by omega
    rw [←hcd,←hbd,upd_at];omega

theorem Inv.next {op tg:Nat→Prop} {F:Nat→Int} {row:List Nat} {k:Nat} (h:Inv op tg F row k 4):Inv op tg F row (k+1) 0:=by
 refine ⟨h.lo,h.zero,h.back,h.mem,h.rng,h.cnt,h.sorted,fun hk i hi=>?_,fun a e he ha hl=>h.seen a e he ha (by omega)⟩;have h1:=h.top (by omega) i hi;have h2:=h.sorted k (k+1) (by omega) hk;omega

theorem Inv.done {op tg:Nat→Prop} {F:Nat→Int} {row:List Nat} {k:Nat} (h:Inv op tg F row k 0) (hk:row.length≤k):IsField op tg F:=by
 refine ⟨h.lo,h.zero,h.back,fun j hj h0 d hd hn ho=>?_⟩;obtain ⟨a,ha,he⟩:=List.getElem_of_mem ((h.mem j hj).1 h0);have e:row[a]?.getD 0=j:=by rw [List.getElem?_eq_getElem ha];exact he
 have:=h.seen a d hd ha (by omega);rw [e] at this;exact this hn ho

theorem Inv.start {op tg:Nat→Prop} {F:Nat→Int} {row:List Nat} (h01:∀i,i<384→F i=0∨F i=-1) (hz:∀i,i<384→(F i=0↔tg i)) (hm:∀i,i<384→(0≤F i↔i∈row)) (hr:∀i,i∈row→i<384)
  (hc:row.length=Gr.cnt F 384):Inv op tg F row 0 0:=by
 have z:∀a,a<row.length→F (row[a]?.getD 0)=0:=fun a ha=>by
  rw [List.getElem?_eq_getElem ha];have hmm:row[a]∈row:=List.getElem_mem ha;have hl:=hr _ hmm;have h0:=(hm _ hl).2 hmm;rcases h01 _ hl with h|h
  ·exact h
  ·simp only [Option.getD_some];omega
 refine ⟨fun i hi=>?_,hz,fun i hi hp=>?_,hm,hr,hc,fun a b hab hb=>?_,fun hk i hi=>?_,fun a e he ha hl=>by omega⟩
 ·rcases h01 i hi with h|h <;> omega
 ·rcases h01 i hi with h|h <;> omega
 ·rw [z a (by omega),z b hb];exact Int.le_refl _
 ·rw [z 0 hk];rcases h01 i hi with h|h <;> omega

end Gr


open Go.RowKit

def Gr.openB (f:Nat→Int) (blen:Nat) (g:Nat→Bool) (i:Nat):Bool:=Gr.walkB (f i) && !(decide (i<blen) && g i)

theorem Gr.open_no {f:Nat→Int} {blen:Nat} {g:Nat→Bool} {i:Nat} (h:Gr.walkB (f i)=false):Gr.openB f blen g i=false:=by simp [Gr.openB,h]
theorem Gr.open_past {f:Nat→Int} {blen:Nat} {g:Nat→Bool} {i:Nat} (h:Gr.walkB (f i)=true) (hi:¬i<blen):Gr.openB f blen g i=true:=by simp [Gr.openB,h,hi]
theorem Gr.open_in {f:Nat→Int} {blen:Nat} {g:Nat→Bool} {i:Nat} (h:Gr.walkB (f i)=true) (hi:i<blen):Gr.openB f blen g i=!(g i):=by simp [Gr.openB,h,hi]

theorem Gr.at_in {f:Nat→Int} {x y:Int} {k:Nat} (h:Gr.inB x y=true) (hk:y*24+x=(k:Int)):Gr.at 384 f x y=f k:=by
 have:=(Gr.inB_iff x y).1 h;unfold Gr.at;rw [if_pos ⟨h,by omega⟩,hk,Int.toNat_natCast]

theorem Gr.at_out {len:Nat} {f:Nat→Int} {x y:Int} (h:Gr.inB x y=false):Gr.at len f x y=0:=by
 unfold Gr.at;rw [if_neg];rintro ⟨h',_⟩;rw [h] at h';cases h'

theorem gtr {a b c:World} {r:Option Nat} (h:a.grownBy b r) (k:b.grownBy c r):a.grownBy c r :=
 ⟨k.os.trans h.os,k.tape.trans h.tape,k.output.trans h.output,Nat.le_trans h.size k.size,fun i hi hr=>(k.block i (Nat.lt_of_lt_of_le hi h.size) hr).trans (h.block i hi hr)⟩

theorem gow {a b c:World} {r s:Option Nat} (h:a.grownBy b r) (k:b.grownBy c s) (hs:∀n,s=some n→a.heap.size≤n):a.grownBy c r :=
 ⟨k.os.trans h.os,k.tape.trans h.tape,k.output.trans h.output,Nat.le_trans h.size k.size,fun i hi hr=>(k.block i (Nat.lt_of_lt_of_le hi h.size) (fun e=>by have:=hs i e.symm;omega)).trans (h.block i hi hr)⟩

theorem gst {a b:World} {g:Nat} (h:a.grownBy b (some g)) (i:Nat) (u:Value):a.grownBy (b.setCell ⟨g,i,none⟩ u) (some g) :=
 gtr h ⟨rfl,rfl,rfl,by simp,fun k _ hk=>heap_setCell_other b ⟨g,i,none⟩ k u (fun e=>hk (by rw [e]))⟩

theorem gal {a b:World} {r:Option Nat} (h:a.grownBy b r) (o:Obj):a.grownBy (b.alloc o) r:=gtr h (World.grownBy_alloc b o r)

theorem gdw {a b:World} {r:Option Nat} (h:a.grownBy b r) (n:Nat):a.grownBy (b.drewN n) r:=by
 have k:=below_drewN (Below.refl b.heap.size b) n;exact gtr h ⟨k.os,k.tape,k.output,k.size,fun i hi _=>k.block i hi⟩

def Vex (G:Nat) (w:World) (a:Option Addr) (len:Nat) (F:Nat→Value):Prop :=
 len≤maxLen∧(len=0∨∃b off,a=some ⟨b,off,none⟩∧b<w.heap.size∧b≠G∧∀i,i<len→w.cell? ⟨b,off+i,none⟩=some (F i))

theorem Vex.at {G:Nat} {w wr:World} {a:Option Addr} {len:Nat} {F:Nat→Value} (h:Vex G w a len F) (hg:w.grownBy wr (some G)) {k:Nat} (hk:k<len) :
  ∃b off,a=some ⟨b,off,none⟩∧wr.cell? ⟨b,off+k,none⟩=some (F k):=by
 obtain ⟨_,h0|⟨b,off,ha,hlt,hne,hc⟩⟩:=h
 ·omega
 ·exact ⟨b,off,ha,(World.cell?_of_block (a:=⟨b,off+k,none⟩) (hg.block b hlt (fun e=>hne (by cases e;rfl)))).trans (hc k hk)⟩

theorem one_at (w:World) (x:Value) (t:TypeId) (B:Nat) (hB:B=w.heap.size):∀j u,[x][j]?=some u→(w.alloc (.cells #[x] t)).cell? ((⟨B,0,none⟩:Addr).add j)=some u:=by
 subst hB;exact cell_one_new w x t

def natInts (l:List Nat):List Int:=l.map Int.ofNat

theorem natInts_more (l:List Nat) (b:Nat):(natInts l).map (Value.int .i64) ++ [.int .i64 (b:Int)]=(natInts (l ++ [b])).map (Value.int .i64):=by
 simp [natInts]

theorem natInts_len (l:List Nat):(natInts l).length=l.length:=by simp [natInts]

theorem natInts_at (l:List Nat) (i:Nat):(natInts l)[i]?.getD 0=((l[i]?.getD 0:Nat):Int):=by
 unfold natInts;rw [List.getElem?_map];cases l[i]? <;> rfl

theorem own_vex {w:World} {base G:Nat} {v:Value} {l:List Nat} (h:w.ownsRow base 3 1 v l.length ((natInts l).map (Value.int .i64))) (hG:G<base) (hm:l.length≤maxLen) :
  ∃a cap,v=.slice a l.length cap∧Vex G w a l.length (Ints fun i=>((l[i]?.getD 0:Nat):Int)):=by
 rcases h.2 with ⟨rfl,h0⟩|⟨g,cap,cur,rfl,hb,hg,_,_,_,_⟩
 ·exact ⟨none,0,by rw [h0],hm,.inl h0⟩
 ·refine ⟨_,cap,rfl,hm,.inr ⟨g,0,rfl,lt_of_block hg,by omega,fun i hi=>?_⟩⟩;rw [Nat.zero_add,h.cellAt i (by omega),List.getElem?_map];show _=some (Value.int .i64 ((l[i]?.getD 0:Nat):Int));rw [←natInts_at,List.getElem?_eq_getElem (by rw [natInts_len];exact hi)];rfl

theorem Arr.grown {w w':World} {g:Nat} {T:TypeId} {n:Nat} {F:Nat→Value} {r:Option Nat} (h:Arr w g T n F) (hg:w.grownBy w' r) (hr:r≠some g):Arr w' g T n F:=by
 have hlt:=h.lt;obtain ⟨cur,h1,hs,hc⟩:=h;exact ⟨cur,(hg.block g hlt (fun e=>hr e.symm)).trans h1,hs,hc⟩

theorem Arr.alloc {w:World} {g:Nat} {T:TypeId} {n:Nat} {F:Nat→Value} (h:Arr w g T n F) (o:Obj):Arr (w.alloc o) g T n F:=h.grown (World.grownBy_alloc w o none) (by simp)

theorem Arr.upd {w:World} {g n i:Nat} {T:TypeId} {F:Nat→Int} (h:Arr w g T n (Ints F)) (v:Int):Arr (w.setCell ⟨g,i,none⟩ (.int .i64 v)) g T n (Ints (Gr.upd F i v)):=by
 refine (h.store i _).congr fun j _=>?_;show (if j=i then Value.int .i64 v else .int .i64 (F j))=.int .i64 (if j=i then v else F j);split <;> rfl


open Go.RowKit

def Dc.fold (x c:Int):Int:=bits BinOp.xor IntKind.u64 x (x / c)

def Dc.m (x:Int):Int :=
 Dc.fold (IntKind.u64.wrap (Dc.fold (IntKind.u64.wrap (Dc.fold x 1073741824*13787848793156543929)) 134217728*10723151780598845931)) 2147483648

theorem Dc.m_bd (x:Int):0≤Dc.m x∧Dc.m x<18446744073709551616:=by
 have h:=wf_bits BinOp.xor IntKind.u64 (IntKind.u64.wrap (Dc.fold (IntKind.u64.wrap (Dc.fold x 1073741824*13787848793156543929)) 134217728*10723151780598845931)) (IntKind.u64.wrap (Dc.fold (IntKind.u64.wrap (Dc.fold x 1073741824*13787848793156543929)) 134217728*10723151780598845931) / 2147483648);simp only [Lit.wf,Bool.and_eq_true,decide_eq_true_eq,show IntKind.u64.min=0 from by decide,show IntKind.u64.max=18446744073709551615 from by decide] at h;obtain ⟨h1,h2⟩:=h;exact ⟨h1,Int.lt_of_le_of_lt h2 (by decide)⟩

theorem m_any (x:Int) (w:World) :
  Calls Tryz.prog 114 #[.int .u64 x] w fun e w'=>e=.returned (.int .u64 (Dc.m x))∧w'=w:=by
 go_enter Tryz.func114,Tryz.ntmps114;go_wp2;go_ret;exact ⟨rfl,rfl⟩

def Dc.step (x v:Int):Int:=Dc.m (IntKind.u64.wrap (bits BinOp.xor IntKind.u64 x (IntKind.u64.wrap v)+11400714819323198485))

def Dc.mix (seed:Int) (zs:List Int):Int:=zs.foldl Dc.step (Dc.m (IntKind.u64.wrap (IntKind.u64.wrap seed+11400714819323198485)))

theorem Dc.mix_bd (seed:Int) (zs:List Int):0≤Dc.mix seed zs∧Dc.mix seed zs<18446744073709551616:=by
 unfold Dc.mix;generalize hx:Dc.m (IntKind.u64.wrap (IntKind.u64.wrap seed+11400714819323198485))=x;have h:0≤x∧x<18446744073709551616:=by rw [←hx];exact Dc.m_bd _
 clear hx;induction zs generalizing x with
 | nil=>exact h
 | cons z zs ih=>exact ih _ (Dc.m_bd _)

theorem Dc.mix_more (seed:Int) (zs:List Int) (k:Nat) (h:k<zs.length):Dc.m (IntKind.u64.wrap (bits BinOp.xor IntKind.u64 (Dc.mix seed (zs.take k)) (IntKind.u64.wrap (zs[k]?.getD 0))+11400714819323198485))=Dc.mix seed (zs.take (k+1)):=by
 show Dc.step (Dc.mix seed (zs.take k)) (zs[k]?.getD 0)=_;have e:zs.take (k+1)=zs.take k ++ [zs[k]?.getD 0]:=by
  rw [List.take_add_one,List.getElem?_eq_getElem h];rfl
 rw [e];simp only [Dc.mix,List.foldl_append,List.foldl_cons,List.foldl_nil]

def Row (w:World) (a:Option Addr) (len:Nat) (zs:List Int):Prop :=
 zs.length=len∧len≤maxLen∧(len=0∨∃b off,a=some ⟨b,off,none⟩∧∀i,i<len→w.cell? ⟨b,off+i,none⟩=some (.int .i64 (zs[i]?.getD 0)))

theorem refMix_none (seed:Int) (a:Option Addr) (cap:Nat) (w:World) :
  Calls Tryz.prog 103 #[.int .i64 seed,.slice a 0 cap] w fun e w'=>e=.returned (.int .u64 (Dc.mix seed []))∧w'=w:=by
 go_enter Tryz.func103,Tryz.ntmps103;go_wp2_with fail;refine (m_any _ _).mono ?_;rintro e w1 ⟨rfl,rfl⟩;go_wp2_with fail;refine wp_loop_rounds 1 ?_;rw [rounds_succ];go_wp2;go_ret;exact ⟨rfl,rfl⟩

theorem refMix_some (seed:Int) (b off:Nat) (len cap:Nat) (zs:List Int) (w:World) (hz:zs.length=len) (hm:len≤9223372036854775807)
  (hc:∀i,i<len→w.cell? ⟨b,off+i,none⟩=some (.int .i64 (zs[i]?.getD 0))) :
  Calls Tryz.prog 103 #[.int .i64 seed,.slice (some ⟨b,off,none⟩) len cap] w fun e w'=>e=.returned (.int .u64 (Dc.mix seed zs))∧w'=w:=by
 go_enter Tryz.func103,Tryz.ntmps103;go_wp2_with fail;refine (m_any _ _).mono ?_;rintro e w1 ⟨rfl,rfl⟩;go_wp2_with fail
 go_loop [5,6] (fun x i=>∃k:Nat,k≤len∧i=.int .i64 k∧x=.int .u64 (Dc.mix seed (zs.take k))) (fun _ i=>len - (intOf i).toNat)
 case atStart=>exact ⟨0,Nat.zero_le _,rfl,rfl⟩
 case round =>
  obtain ⟨k,hk,rfl,rfl⟩:=hrel;have hcell:k<len→w1.cell? ⟨b,off+k,none⟩=some (.int .i64 (zs[k]?.getD 0)):=fun h=>hc k h;go_wp2_with fail
  ·refine (m_any _ _).mono ?_;rintro e w2 ⟨rfl,rfl⟩;have hlt:k<len:=by assumption
   have hstep:=hide (Dc.mix_more seed zs k (by omega));go_wp2;go_round;case rel =>
    refine ⟨k+1,by omega,by go_num,?_⟩;rw [←uh hstep,List.getElem?_eq_getElem (by omega)];rfl
   case measure=>simp [intOf];omega
  ·obtain rfl:k=len:=by omega
   go_ret;rw [List.take_of_length_le (by omega)];exact ⟨rfl,rfl⟩

theorem refMix_row (seed:Int) (a:Option Addr) (len cap:Nat) (zs:List Int) (w:World) (h:Row w a len zs) :
  Calls Tryz.prog 103 #[.int .i64 seed,.slice a len cap] w fun e w'=>e=.returned (.int .u64 (Dc.mix seed zs))∧w'=w:=by
 obtain ⟨hz,hm,rfl|⟨b,off,rfl,hc⟩⟩:=h
 ·obtain rfl:=List.eq_nil_of_length_eq_zero hz;exact refMix_none _ _ _ _
 ·exact refMix_some _ _ _ _ _ _ _ hz hm hc

def Dc.die (n seed:Int) (zs:List Int):Int:=if n<1 then 0 else Dc.mix seed zs % n

theorem Dc.die_bd (n seed:Int) (zs:List Int) (h:1≤n):0≤Dc.die n seed zs∧Dc.die n seed zs<n:=by
 unfold Dc.die;rw [if_neg (by omega)];exact ⟨Int.emod_nonneg _ (by omega),Int.emod_lt_of_pos _ (by omega)⟩

theorem Dc.die_low (n seed:Int) (zs:List Int) (h:n<1):Dc.die n seed zs=0:=if_pos h

set_option maxHeartbeats 400000 in
theorem refDie_row (n seed:Int) (a:Option Addr) (len cap:Nat) (zs:List Int) (w:World) (h:Row w a len zs) (hn:n≤9223372036854775807) :
  Calls Tryz.prog 81 #[.int .i64 n,.int .i64 seed,.slice a len cap] w fun e w'=>e=.returned (.int .i64 (Dc.die n seed zs))∧w'=w:=by
 by_cases hl:n<1
 ·have hd:=hide (Dc.die_low n seed zs hl);clear h;go_enter Tryz.func81,Tryz.ntmps81;go_wp2;go_ret;rw [uh hd];exact ⟨rfl,rfl⟩
 ·have hd:=hide (show Dc.die n seed zs=Dc.mix seed zs % n from if_neg hl);have hb:=Dc.mix_bd seed zs;have h1:=Int.emod_nonneg (Dc.mix seed zs) (show n≠0 by omega);have h2:=Int.emod_lt_of_pos (Dc.mix seed zs) (show 0<n by omega);have hr:=hide h;clear h;obtain ⟨hb1,hb2⟩:=hb;go_enter Tryz.func81,Tryz.ntmps81;go_wp2_with fail;refine (refMix_row _ _ _ _ _ _ (uh hr)).mono ?_;rintro e w1 ⟨rfl,rfl⟩;go_wp2;go_ret;rw [uh hd];exact ⟨rfl,rfl⟩

theorem Row.taken {w:World} {a:Option Addr} {len:Nat} {zs:List Int} (h:Row w a len zs) (k:Nat) (hk:k≤len):Row w a k (zs.take k):=by
 obtain ⟨hz,hm,h0|⟨b,off,ha,hc⟩⟩:=h
 ·exact ⟨by simp;omega,Nat.le_trans hk hm,.inl (by omega)⟩
 ·exact ⟨by simp;omega,Nat.le_trans hk hm,.inr ⟨b,off,ha,fun i hi=>by rw [hc i (by omega),List.getElem?_take,if_pos hi]⟩⟩


open Go.RowKit

def Gn.D (s f a b n:Int):Int:=Dc.die n s [f,a,b]

theorem Gn.D_bd (s f a b n:Int) (h:1≤n):0≤Gn.D s f a b n∧Gn.D s f a b n<n:=Dc.die_bd n s [f,a,b] h

def Says (w:World) (v:Value) (e:Ending) (w':World):Prop:=e=.returned v∧w.grownBy w' none

theorem Row.three (w:World) (x y z:Int) (T:TypeId):Row (w.alloc (.cells #[.int .i64 x,.int .i64 y,.int .i64 z] T)) (some ⟨w.heap.size,0,none⟩) 3 [x,y,z]:=by
 refine ⟨rfl,by decide,.inr ⟨_,_,rfl,fun i hi=>?_⟩⟩;rcases (show i=0∨i=1∨i=2 by omega) with rfl|rfl|rfl <;> simp

theorem gsr {a b:World} (h:a.grownBy b none) (p:Addr) (hp:a.heap.size≤p.block) (u:Value):a.grownBy (b.setCell p u) none :=
 ⟨h.os,h.tape,h.output,by simpa using h.size,fun k hk hr=>(heap_setCell_other b p k u (by omega)).trans (h.block k hk hr)⟩

theorem refD_any (s f a b n:Int) (w:World) (hn:n≤9223372036854775807) :
  Calls Tryz.prog 61 #[.int .i64 s,.int .i64 f,.int .i64 a,.int .i64 b,.int .i64 n] w (Says w (.int .i64 (Gn.D s f a b n))):=by
 have c:∀(w':World) (B:Nat),B=w'.heap.size→Calls Tryz.prog 81 #[.int .i64 n,.int .i64 s,.slice (some ⟨B,0,none⟩) 3 3] (w'.alloc (.cells #[.int .i64 f,.int .i64 a,.int .i64 b] 3)) fun e w1=>e=.returned (.int .i64 (Gn.D s f a b n))∧w1=w'.alloc (.cells #[.int .i64 f,.int .i64 a,.int .i64 b] 3):=by
  rintro w' B rfl;exact refDie_row n s _ 3 3 [f,a,b] _ (Row.three w' f a b 3) hn
 go_enter Tryz.func61,Tryz.ntmps61;go_wp2_with fail;refine (c _ _ (by simp)).mono ?_;rintro e w1 ⟨rfl,rfl⟩;go_wp2;go_ret;exact ⟨rfl,World.grownBy_alloc _ _ _⟩

def Gn.to1 (a b:Int):Int:=if a<b then a+1 else if b<a then a - 1 else a

theorem toward_any (a b:Int) (w:World) (h:a≠b) (h1:-1000≤a) (h2:a≤1000):Calls Tryz.prog 63 #[.int .i64 a,.int .i64 b] w fun e w'=>e=.returned (.int .i64 (Gn.to1 a b))∧w'=w:=by
 by_cases h3:a<b
 ·have hd:=hide (show Gn.to1 a b=a+1 from if_pos h3);go_enter Tryz.func63,Tryz.ntmps63;go_wp2;go_ret;exact ⟨rti (uh hd).symm,rfl⟩
 ·have hd:=hide (show Gn.to1 a b=a - 1 by unfold Gn.to1;rw [if_neg h3,if_pos (by omega)]);go_enter Tryz.func63,Tryz.ntmps63;go_wp2;go_ret;exact ⟨rti (uh hd).symm,rfl⟩

def Gn.hp (k:Int):Int:=if k=2 then 4 else if k=3 then 9 else 6
def Gn.atk (k:Int):Int:=if k=2 then 2 else if k=3 then 4 else 3
def Gn.df (k:Int):Int:=if k=3 then 1 else 0
def Gn.ent (k x y:Int):Array Value:=#[.int .i64 k,.int .i64 0,.int .i64 0,.int .i64 x,.int .i64 y,.int .i64 (Gn.hp k),.int .i64 (Gn.hp k),.int .i64 (Gn.atk k),.int .i64 (Gn.df k),.int .i64 0,.int .i64 0]

theorem refStats_any (k:Int) (w:World) (h1:2≤k) (h2:k≤4):Calls Tryz.prog 40 #[.int .i64 k] w (Says w (.agg (Gn.ent k 0 0))):=by
 rcases (show k=2∨k=3∨k=4 by omega) with rfl|rfl|rfl;all_goals
  go_enter Tryz.func40,Tryz.ntmps40;go_wp2
  go_returns
  exact ⟨rfl,World.grownBy_alloc _ _ _⟩

end Go.Proofs.YtldgbkjceildfaaGreat

namespace Go.Proofs.YtldgbkjceildfaaGreat.Fx

def isRoot (n r:Int):Prop:=0≤r∧r*r≤n∧n<(r+1)*(r+1)

def RI (n P B:Int):Prop:=∃k q:Nat,k≤32∧P=((q*2 ^ k:Nat):Int)∧B=((2 ^ k / 2:Nat):Int)∧P*P≤n∧n<(((q+1)*2 ^ k:Nat):Int)*(((q+1)*2 ^ k:Nat):Int)∧(q+1)*2 ^ k≤4294967296

theorem RI_start (n:Int) (h0:0≤n) (h1:n<18446744073709551616):RI n 0 2147483648 :=
 ⟨32,0,by omega,by simp,by decide,by omega,by simpa using h1,by decide⟩

theorem pow_half (k:Nat):2 ^ (k+1) / 2=2 ^ k:=by rw [Nat.pow_succ];omega

theorem RI_bounds {n P B:Int} (h:RI n P B):0≤P∧P<4294967296∧0≤B∧B≤2147483648∧P+B<4294967296:=by
 obtain ⟨k,q,hk,rfl,rfl,_,_,hb⟩:=h;have hp:=Nat.two_pow_pos k;rw [Nat.add_mul,Nat.one_mul] at hb;have h32:2 ^ k≤2 ^ 32:=Nat.pow_le_pow_right (by omega) hk;have e32:2 ^ 32=4294967296:=by decide
 generalize q*2 ^ k=u at *
 generalize 2 ^ k=v at *
 refine ⟨by omega,by omega,by omega,by omega,?_⟩;omega

theorem RI_succ {n P B:Int} (h:RI n P B) (hB:0<B):∃j q:Nat,j+1≤32∧P=((q*2 ^ (j+1):Nat):Int)∧B=((2 ^ j:Nat):Int)∧P*P≤n∧n<(((q+1)*2 ^ (j+1):Nat):Int)*(((q+1)*2 ^ (j+1):Nat):Int)∧(q+1)*2 ^ (j+1)≤4294967296:=by
 obtain ⟨k,q,hk,hP,hb,r⟩:=h;cases k with
 | zero=>exfalso;rw [hb] at hB;simp at hB
 | succ j=>exact ⟨j,q,hk,hP,by rw [hb,pow_half],r⟩

theorem half_pow (j:Nat):((2 ^ j:Nat):Int) / 2=((2 ^ j / 2:Nat):Int):=by omega

theorem RI_yes {n P B:Int} (h:RI n P B) (hB:0<B) (hy:(P+B)*(P+B)≤n):RI n (P+B) (B / 2):=by
 obtain ⟨j,q,hj,rfl,rfl,_,hu,hb⟩:=RI_succ h hB;have e1:(2*q+1)*2 ^ j=q*2 ^ (j+1)+2 ^ j:=by rw [Nat.pow_succ,Nat.add_mul,Nat.one_mul];ac_rfl
 have e2:(2*q+1+1)*2 ^ j=(q+1)*2 ^ (j+1):=by rw [Nat.pow_succ,show 2*q+1+1=2*(q+1) from by omega];ac_rfl
 refine ⟨j,2*q+1,by omega,by rw [e1];omega,half_pow j,hy,?_,?_⟩
 ·rw [e2];exact hu
 ·rw [e2];exact hb

theorem RI_no {n P B:Int} (h:RI n P B) (hB:0<B) (hy:n<(P+B)*(P+B)):RI n P (B / 2):=by
 obtain ⟨j,q,hj,rfl,rfl,hp,hu,hb⟩:=RI_succ h hB;have e1:(2*q)*2 ^ j=q*2 ^ (j+1):=by rw [Nat.pow_succ];ac_rfl
 have e2:(2*q+1)*2 ^ j=q*2 ^ (j+1)+2 ^ j:=by rw [Nat.pow_succ,Nat.add_mul,Nat.one_mul];ac_rfl
 have e3:(q+1)*2 ^ (j+1)=q*2 ^ (j+1)+2 ^ j+2 ^ j:=by rw [Nat.pow_succ,Nat.add_mul,Nat.one_mul];omega
 refine ⟨j,2*q,by omega,by rw [e1],half_pow j,hp,?_,?_⟩
 ·rw [e2,Int.natCast_add];exact hy
 ·rw [e2];rw [e3] at hb;omega

theorem RI_end {n P B:Int} (h:RI n P B) (hB:B≤0):isRoot n P:=by
 have hb:=RI_bounds h;obtain ⟨k,q,hk,hP,hb',hp,hu,_⟩:=h;cases k with
 | zero=>
  refine ⟨hb.1,hp,?_⟩;simp only [Nat.pow_zero,Nat.mul_one] at hP hu;rw [hP];exact hu
 | succ j=>
  have:=Nat.two_pow_pos j;rw [pow_half] at hb';omega

theorem RI_cap {n P B:Int} (hn:n≤9223372036854775807) (hc:3037000499<P+B):n<(P+B)*(P+B):=by
 have:=Int.mul_self_le_mul_self (a:=3037000500) (b:=P+B) (by omega) (by omega);omega

theorem RI_small {n P B:Int} (h:RI n P B) (hc:P+B≤3037000499):0≤(P+B)*(P+B)∧(P+B)*(P+B)≤9223372036854775807:=by
 obtain ⟨h1,h2,h3,h4,h5⟩:=RI_bounds h;have a:=Int.mul_nonneg (a:=P+B) (b:=P+B) (by omega) (by omega);have b:=Int.mul_self_le_mul_self (a:=P+B) (b:=3037000499) (by omega) (by omega);omega

theorem mul_bd (a b m:Int) (hm:0≤m) (a1:-m≤a) (a2:a≤m) (b1:-m≤b) (b2:b≤m):-(m*m)≤a*b∧a*b≤m*m:=by
 have h:(a*b).natAbs≤m.natAbs*m.natAbs:=by
  rw [Int.natAbs_mul];exact Nat.mul_le_mul (by omega) (by omega)
 have e:((m.natAbs*m.natAbs:Nat):Int)=m*m:=by
  rw [Int.natCast_mul,Int.natAbs_of_nonneg hm]
 generalize m*m=M at *
 generalize a*b=p at *
 generalize m.natAbs*m.natAbs=q at *
 omega

def way (n:Int):Int × Int:=if n=1 then (0,-1) else if n=2 then (1,0) else if n=3 then (0,1) else if n=4 then (-1,0) else (0,0)

theorem way_none (n:Int) (h:n<1∨4<n):way n=(0,0):=by
 unfold way;rw [if_neg (by omega),if_neg (by omega),if_neg (by omega),if_neg (by omega)]

theorem way_bd (n:Int):-1≤(way n).1∧(way n).1≤1∧-1≤(way n).2∧(way n).2≤1:=by
 unfold way;split
 ·decide
 ·split
  ·decide
  ·split
   ·decide
   ·split <;> decide

end Go.Proofs.YtldgbkjceildfaaGreat.Fx

namespace Go.Proofs.YtldgbkjceildfaaGreat
open Go.RowKit

set_option maxHeartbeats 400000 in
theorem refRoot_any (n:Int) (w:World) (h1:0≤n) (h2:n≤9223372036854775807) :
  Calls Tryz.prog 100 #[.int .i64 n] w fun e w'=>∃r,e=.returned (.int .i64 r)∧Fx.isRoot n r∧w'=w:=by
 go_enter Tryz.func100,Tryz.ntmps100;go_wp2
 go_loop [3,4] (fun r b=>∃p q:Int,Fx.RI n p q∧r=.int .i64 p∧b=.int .i64 q) (fun _ b=>(intOf b).toNat)
 case atStart=>exact ⟨0,_,Fx.RI_start n h1 (by omega),rfl,rfl⟩
 case round =>
  obtain ⟨p,q,hri,rfl,rfl⟩:=hrel;obtain ⟨hp0,hp1,hq0,hq1,hpq⟩:=Fx.RI_bounds hri;by_cases hq:0<q
  ·by_cases hc:p+q≤3037000499
   ·obtain ⟨hs0,hs1⟩:=Fx.RI_small hri hc;by_cases hy:(p+q)*(p+q)≤n
    ·go_wp2;go_round;case rel=>exact ⟨_,_,Fx.RI_yes hri hq hy,rfl,rfl⟩
     case measure=>simp [intOf];omega
    ·go_wp2;go_round;case rel=>exact ⟨_,_,Fx.RI_no hri hq (by omega),rfl,rfl⟩
     case measure=>simp [intOf];omega
   ·have hy:=Fx.RI_cap (n:=n) (P:=p) (B:=q) h2 (by omega);have HY:=hide hy;clear hy;go_wp2;go_round;case rel=>exact ⟨_,_,Fx.RI_no hri hq (uh HY),rfl,rfl⟩
    case measure=>simp [intOf];omega
  ·go_wp2;go_ret;exact ⟨p,rfl,Fx.RI_end hri (by omega),rfl⟩

theorem sq_bd (dx dy:Int) (h1:-1048576≤dx) (h2:dx≤1048576) (h3:-1048576≤dy) (h4:dy≤1048576):0≤dx*dx∧dx*dx≤1099511627776∧0≤dy*dy∧dy*dy≤1099511627776:=by
 have a:=Fx.mul_bd dx dx 1048576 (by omega) h1 h2 h1 h2;have b:=Fx.mul_bd dy dy 1048576 (by omega) h3 h4 h3 h4;have c:0≤dx*dx:=by rcases Int.le_total 0 dx with h | h;exact Int.mul_nonneg h h;exact Int.mul_nonneg_of_nonpos_of_nonpos h h
 have d:0≤dy*dy:=by rcases Int.le_total 0 dy with h | h;exact Int.mul_nonneg h h;exact Int.mul_nonneg_of_nonpos_of_nonpos h h
 omega

set_option maxHeartbeats 400000 in
theorem refDist_any (dx dy:Int) (w:World) (h1:-1048576≤dx) (h2:dx≤1048576) (h3:-1048576≤dy) (h4:dy≤1048576) :
  Calls Tryz.prog 78 #[.int .i64 dx,.int .i64 dy] w fun e w'=>∃r,e=.returned (.int .i64 r)∧Fx.isRoot ((dx*dx+dy*dy)*65536) r∧w'=w:=by
 obtain ⟨a,b,c,d⟩:=sq_bd dx dy h1 h2 h3 h4;go_enter Tryz.func78,Tryz.ntmps78;go_wp2_with (go_at_call 100;refine (refRoot_any _ _ (by omega) (by omega)).mono ?_;rintro e w' ⟨r,rfl,hr,rfl⟩);go_ret;exact ⟨r,rfl,by rw [Int.mul_comm];exact hr,rfl⟩

set_option maxHeartbeats 400000 in
theorem refWay_any (n:Int) (w:World) :
  Calls Tryz.prog 70 #[.int .i64 n] w fun e w'=>e=.returned (.tuple #[.int .i64 (Fx.way n).1,.int .i64 (Fx.way n).2])∧w'=w:=by
 by_cases h:n=1∨n=2∨n=3∨n=4
 ·rcases h with rfl|rfl|rfl|rfl;all_goals
   go_enter Tryz.func70,Tryz.ntmps70;go_wp2;go_ret2;exact ⟨rfl,rfl⟩
 ·have e1:(n == 1)=false:=by simp;omega
  have e2:(n == 2)=false:=by simp;omega
  have e3:(n == 3)=false:=by simp;omega
  have e4:(n == 4)=false:=by simp;omega
  rw [Fx.way_none n (by omega)];clear h;go_enter Tryz.func70,Tryz.ntmps70;go_wp2;go_ret2;exact ⟨rfl,rfl⟩

end Go.Proofs.YtldgbkjceildfaaGreat
