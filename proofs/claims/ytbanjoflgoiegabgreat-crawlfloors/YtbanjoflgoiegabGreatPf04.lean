import Derived.Test.YtbanjoflgoiegabGreatPf03
import Derived.Test.YtbanjoflgoiegabGreatPf02
import Derived.Laws.AppendOwnNone
import Derived.Handy
namespace Go.Proofs.YtbanjoflgoiegabGreat

namespace Gr

theorem near_up (p n d:Int) (hn:0<n) (h0:0≤p) (h1:p≤n*d):0≤near p n∧near p n≤d:=by
 unfold near
 refine ⟨Int.ediv_nonneg (by omega) (by omega),?_⟩
 have:(2*p+n) / (2*n)<d+1:=Int.ediv_lt_of_lt_mul (by omega) (by
  have:(d+1)*(2*n)=2*(n*d)+2*n:=by rw [Int.add_mul,Int.one_mul,Int.mul_comm d,Int.mul_assoc]
  omega)
 omega

theorem near_down (p n d:Int) (hn:0<n) (h0:p≤0) (h1:n*d≤p):d≤near p n∧near p n≤0:=by
 unfold near
 constructor
 ·refine Int.le_ediv_of_mul_le (by omega) ?_
  have:d*(2*n)=2*(n*d):=by rw [Int.mul_comm d,Int.mul_assoc]
  omega
 ·have:(2*p+n) / (2*n)<1:=Int.ediv_lt_of_lt_mul (by omega) (by omega)
  omega

theorem near_mul (n d:Int) (hn:0<n):near (n*d) n=d:=by
 unfold near
 have h1:d≤(2*(n*d)+n) / (2*n):=by
  refine Int.le_ediv_of_mul_le (by omega) ?_
  have:d*(2*n)=2*(n*d):=by rw [Int.mul_comm d,Int.mul_assoc]
  omega
 have h2:(2*(n*d)+n) / (2*n)<d+1:=Int.ediv_lt_of_lt_mul (by omega) (by
  have:(d+1)*(2*n)=2*(n*d)+2*n:=by rw [Int.add_mul,Int.one_mul,Int.mul_comm d,Int.mul_assoc]
  omega)
 omega

def span (x0 y0 x1 y1:Int):Nat:=(max (max (x1 - x0) (x0 - x1)) (max (y1 - y0) (y0 - y1))).toNat

def ln (x0 y0 x1 y1:Int) (k:Nat):Int :=
 (y0+near (k*(y1 - y0)) (span x0 y0 x1 y1))*24+(x0+near (k*(x1 - x0)) (span x0 y0 x1 y1))

theorem part (d n:Int) (k:Nat) (hn:0<n) (hk:(k:Int)≤n):(0≤d∧0≤near (k*d) n∧near (k*d) n≤d)∨(d≤0∧d≤near (k*d) n∧near (k*d) n≤0):=by
 by_cases h:0≤d
 ·left
  have a:0≤(k:Int)*d:=Int.mul_nonneg (by omega) h
  have b:(k:Int)*d≤n*d:=Int.mul_le_mul_of_nonneg_right hk h
  exact ⟨h,near_up _ _ _ hn a b⟩
 ·right
  have a:(k:Int) * -d≤n * -d:=Int.mul_le_mul_of_nonneg_right hk (by omega)
  have b:0≤(k:Int) * -d:=Int.mul_nonneg (by omega) (by omega)
  rw [Int.mul_neg] at a b
  rw [Int.mul_neg] at a
  exact ⟨by omega,near_down _ _ _ hn (by omega) (by omega)⟩

theorem mul_bd (k:Nat) (d:Int) (hk:k≤23) (h1:-23≤d) (h2:d≤23):-1000≤(k:Int)*d∧(k:Int)*d≤1000:=by
 have a:(k:Int)*d≤(k:Int)*23:=Int.mul_le_mul_of_nonneg_left h2 (by omega)
 have b:(k:Int)*(-23)≤(k:Int)*d:=Int.mul_le_mul_of_nonneg_left h1 (by omega)
 omega

theorem ln_parts (x0 y0 x1 y1:Int) (h0:inB x0 y0=true) (h1:inB x1 y1=true) (k:Nat) (hk:k≤span x0 y0 x1 y1) :
  ∃x y:Int,ln x0 y0 x1 y1 k=y*24+x∧x=x0+near (k*(x1 - x0)) (span x0 y0 x1 y1)∧y=y0+near (k*(y1 - y0)) (span x0 y0 x1 y1)∧0≤x∧x<24∧0≤y∧y<16:=by
 rw [inB_iff] at h0 h1
 refine ⟨_,_,rfl,rfl,rfl,?_⟩
 by_cases hn:span x0 y0 x1 y1=0
 ·obtain rfl:k=0:=by omega
  rw [hn]
  have e:∀p,near p ((0:Nat):Int)=0:=fun p=>by simp [near]
  rw [e,e]
  omega
 ·have hs:-(span x0 y0 x1 y1:Int)≤x1 - x0∧x1 - x0≤span x0 y0 x1 y1∧-(span x0 y0 x1 y1:Int)≤y1 - y0∧y1 - y0≤span x0 y0 x1 y1:=by unfold span;omega
  have a:=part (x1 - x0) (span x0 y0 x1 y1) k (by omega) (by omega)
  have b:=part (y1 - y0) (span x0 y0 x1 y1) k (by omega) (by omega)
  omega

theorem span_bd (x0 y0 x1 y1:Int) (h0:inB x0 y0=true) (h1:inB x1 y1=true):span x0 y0 x1 y1≤23:=by
 rw [inB_iff] at h0 h1
 unfold span
 omega

theorem ln_bd (x0 y0 x1 y1:Int) (h0:inB x0 y0=true) (h1:inB x1 y1=true) (k:Nat) (hk:k≤span x0 y0 x1 y1):0≤ln x0 y0 x1 y1 k∧ln x0 y0 x1 y1 k<384:=by
 obtain ⟨x,y,e,_,_,_,_,_,_⟩:=ln_parts x0 y0 x1 y1 h0 h1 k hk
 omega

theorem near_0 (n:Int) (hn:0≤n):near 0 n=0:=by
 by_cases h:n=0
 ·subst h;rfl
 ·have:=near_mul n 0 (by omega)
  rwa [Int.mul_zero] at this

theorem ln_first (x0 y0 x1 y1:Int):ln x0 y0 x1 y1 0=y0*24+x0:=by
 unfold ln
 rw [show ((0:Nat):Int)=0 from rfl,Int.zero_mul,Int.zero_mul,near_0 _ (by omega)]
 omega

end Gr


open Go.RowKit

theorem line_none (x0 y0 x1 y1:Int) (w:World) (h:Gr.inB x0 y0=true→Gr.inB x1 y1=false) :
  Calls Tryz.prog 181 #[.int .i64 x0,.int .i64 y0,.int .i64 x1,.int .i64 y1] w fun e w'=>e=.returned (.slice none 0 0)∧w'=w:=by
 by_cases h0:Gr.inB x0 y0=true
 ·have h1:=h h0
  clear h
  go_enter Tryz.func181,Tryz.ntmps181
  go_wp2_with (go_at_call 96;refine (isCell_any _ _ _).mono ?_;rintro e w' ⟨rfl,rfl⟩)
  go_ret
  exact ⟨rfl,rfl⟩
 ·have h0':Gr.inB x0 y0=false:=by simpa using h0
  clear h h0
  go_enter Tryz.func181,Tryz.ntmps181
  go_wp2_with (go_at_call 96;refine (isCell_any _ _ _).mono ?_;rintro e w' ⟨rfl,rfl⟩)
  go_ret
  exact ⟨rfl,rfl⟩

theorem max4 (ts:Array TypeId) (t:TypeId) (a b c d n:Int) (w:World) (h:max (max a b) (max c d)=n) :
  (Builtin.max_ ts t #[.int .i64 a,.int .i64 b,.int .i64 c,.int .i64 d]).run Tryz.prog w=.ok (.int .i64 n) w:=by
 have e:(Builtin.max_ ts t #[.int .i64 a,.int .i64 b,.int .i64 c,.int .i64 d]).run Tryz.prog w=.ok (.int .i64 (if d > (if c > (if b > a then b else a) then c else (if b > a then b else a)) then d else (if c > (if b > a then b else a) then c else (if b > a then b else a)))) w:=by
  simp [Builtin.max_,Builtin.max2]
 rw [e]
 congr 2
 omega

set_option maxRecDepth 4000 in
set_option maxHeartbeats 800000 in
theorem line_some (x0 y0 x1 y1:Int) (w:World) (h0:Gr.inB x0 y0=true) (h1:Gr.inB x1 y1=true) :
  Calls Tryz.prog 181 #[.int .i64 x0,.int .i64 y0,.int .i64 x1,.int .i64 y1] w
   (Gives w (Gr.span x0 y0 x1 y1+1) (Ints (Gr.ln x0 y0 x1 y1))):=by
 have hn23:=Gr.span_bd x0 y0 x1 y1 h0 h1
 obtain ⟨b1,b2,b3,b4⟩:=(Gr.inB_iff x0 y0).1 h0
 obtain ⟨b5,b6,b7,b8⟩:=(Gr.inB_iff x1 y1).1 h1
 obtain ⟨n,hn⟩:∃n:Nat,n=Gr.span x0 y0 x1 y1:=⟨_,rfl⟩
 obtain ⟨dx,hdx⟩:∃d:Int,x1 - x0=d:=⟨_,rfl⟩
 obtain ⟨dy,hdy⟩:∃d:Int,y1 - y0=d:=⟨_,rfl⟩
 have hmx:∀ts t w,(Builtin.max_ ts t #[.int .i64 dx,.int .i64 (-dx),.int .i64 dy,.int .i64 (-dy)]).run Tryz.prog w=.ok (.int .i64 (n:Int)) w:=by
  intro ts t w
  refine max4 ts t _ _ _ _ _ w ?_
  rw [hn];unfold Gr.span;omega
 have hn':=hide hn
 have d1:-23≤dx:=by omega
 have d2:dx≤23:=by omega
 have d3:-23≤dy:=by omega
 have d4:dy≤23:=by omega
 obtain ⟨i0,hi,hz0,hz1,hz2⟩:=info_parts info_int
 rw [←hn] at hn23 ⊢
 clear hn
 by_cases hz:n=0
 ·subst hz
  go_enter Tryz.func181,Tryz.ntmps181
  go_wp2_with (first | (go_at_call 96;refine (isCell_any _ _ _).mono ?_;rintro e w' ⟨rfl,hw⟩;subst w') | (go_at_call 97;refine (number_any _ _ _ (by omega) (by omega) (by omega) (by omega)).mono ?_;rintro e w' ⟨rfl,hw⟩;subst w'))
  go_ret
  have hf:=hide (Gr.ln_first x0 y0 x1 y1)
  refine ⟨_,_,rfl,⟨by decide,.inr ⟨_,_,rfl,by simp,?_⟩⟩,by omega,(Below.refl _ _).alloc (Nat.le_refl _) _⟩
  intro i hi1
  obtain rfl:i=0:=by omega
  show _=some (Value.int .i64 (Gr.ln x0 y0 x1 y1 0))
  rw [uh hf]
  simp
 ·have hz':((n:Int) == 0)=false:=by simp;omega
  go_enter Tryz.func181,Tryz.ntmps181
  go_wp2_with (first | (go_at_call 96;refine (isCell_any _ _ _).mono ?_;rintro e w' ⟨rfl,hw⟩;subst w') | (at_make;refine wpList_make_full _ rfl _ _ 65 rfl w.heap.size 3 i0 (.int .i64 0) 1 Tryz.underlying65 hi hz0 hz1 .i64 .i64 _ _ (n+1) rfl rfl ?q1 ?q2 ?q3 ?q4 (Nat.le_refl _) ?_))
  case q1=>omega
  case q2=>omega
  case q3=>rw [hz2];omega
  case q4=>unfold maxLen;omega
  intro w2 hown hgrow
  have hA:=hide (Arr.zero hown)
  have hB:Below w.heap.size w w2:=(Below.refl _ _).grown hgrow (Nat.le_refl _) (by intro k hk;cases hk)
  clear hown hgrow hi hz0 hz1 hz2 hmx
  obtain ⟨G,hG⟩:∃G,G=w.heap.size:=⟨_,rfl⟩
  rw [←hG] at hA hB ⊢
  have hG':=hide hG
  clear hG
  go_wp2_with fail
  go_loopw [48] (fun i wr=>∃k:Nat,k≤n+1∧i=.int .i64 k∧Arr wr G 3 (n+1) (fun j=>.int .i64 (if j<k then Gr.ln x0 y0 x1 y1 j else 0))∧Below G w wr) (fun i _=>n+1 - (intOf i).toNat)
  case atStart=>exact ⟨0,Nat.zero_le _,rfl,(uh hA).congr fun j _=>by rw [if_neg (Nat.not_lt_zero _)],hB⟩
  case round =>
   obtain ⟨k,hk,rfl,hA1,hB1⟩:=hrel
   have hA2:=hide hA1
   clear hA1 hA hB
   by_cases hlt:k<n+1
   ·obtain ⟨X,Y,eln,eX,eY,c1,c2,c3,c4⟩:=Gr.ln_parts x0 y0 x1 y1 h0 h1 k (by have:=uh hn';omega)
    rw [hdx,←uh hn'] at eX
    rw [hdy,←uh hn'] at eY
    subst eX
    subst eY
    have eln':=hide eln
    clear eln
    obtain ⟨m1,m2⟩:=Gr.mul_bd k dx (by omega) d1 d2
    obtain ⟨m3,m4⟩:=Gr.mul_bd k dy (by omega) d3 d4
    have hc:=(uh hA2).cell hlt
    have hf:=(uh hA2).free k
    have hlt':(k:Int)<(n:Int)+1:=by omega
    go_wp2_with (first | (go_at_call 184;refine (nearest_any _ _ _ (by omega) (by omega) (by omega) (by omega)).mono ?_;rintro e w' ⟨rfl,hw⟩;subst w') | (go_at_call 97;refine (number_any _ _ _ (by omega) (by omega) (by omega) (by omega)).mono ?_;rintro e w' ⟨rfl,hw⟩;subst w'))
    go_roundw
    case rel=>exact ⟨k+1,by omega,by go_num,((uh hA2).store k _).congr fun j _=>fill_more (uh eln').symm j,hB1.setCell (Nat.le_refl _) _⟩
    case measure=>simp [intOf];omega
   ·have hge:¬(k:Int)<(n:Int)+1:=by omega
    have hk1:k=n+1:=by omega
    have hA3:=hide ((uh hA2).congr (G:=Ints (Gr.ln x0 y0 x1 y1)) fun j hj=>by rw [if_pos (by omega)];rfl)
    clear hk1 hA2
    go_wp2
    go_ret
    exact ⟨_,_,rfl,(uh hA3).vec _ (uh hA3).lt (by unfold maxLen;omega),Nat.le_refl _,by rw [←uh hG'];exact hB1⟩

section
attribute [-go_sem] run_max_int2

end


open Go.RowKit

theorem Gr.within_neg (a n:Int) (hn:0<n) (h:a.tmod n<0):a.tmod n+n=a % n:=by
 have:=Int.emod_nonneg a (b:=n) (by omega)
 have:=Int.emod_lt_of_pos a hn
 have e:=Int.emod_eq_tmod (a:=a) (b:=n)
 by_cases hc:0≤a∨n ∣ a
 ·rw [if_pos hc] at e;omega
 ·rw [if_neg hc] at e;omega

theorem Gr.within_pos (a n:Int) (hn:0<n) (h:¬a.tmod n<0):a.tmod n=a % n:=by
 have:=Int.emod_lt_of_pos a hn
 have e:=Int.emod_eq_tmod (a:=a) (b:=n)
 by_cases hc:0≤a∨n ∣ a
 ·rw [if_pos hc] at e;omega
 ·rw [if_neg hc] at e;omega

def Made (w:World) (T:TypeId) (n:Nat) (F:Nat→Value) (e:Ending) (w':World):Prop :=
 ∃g,e=.returned (.slice (some ⟨g,0,none⟩) n n)∧w.heap.size≤g∧Arr w' g T n F∧Below w.heap.size w w'

theorem info_byte:(Tryz.prog.info? 5).map (fun i=>(i.zero,i.size,i.bytes))=some (some (.int .u8 0),1,1):=by kernel_rfl

def Gr.Sees (len:Nat) (f:Nat→Int) (x0 y0 x1 y1:Int):Prop :=
 Gr.inB x0 y0=true∧Gr.inB x1 y1=true∧∀k,0<k→k<Gr.span x0 y0 x1 y1→Gr.clearB (Gr.kind len f (Gr.ln x0 y0 x1 y1 k))=true

def Tells (w:World) (p:Prop) (e:Ending) (w':World):Prop:=∃b,e=.returned (.bool b)∧(b=true↔p)∧Below w.heap.size w w'

theorem Gr.sees_no {len:Nat} {f:Nat→Int} {x0 y0 x1 y1:Int} (h:Gr.inB x0 y0=true→Gr.inB x1 y1=false):¬Gr.Sees len f x0 y0 x1 y1:=by
 rintro ⟨h0,h1,_⟩
 rw [h h0] at h1
 cases h1

set_option maxHeartbeats 800000 in
theorem sees_any (a:Option Addr) (len cap:Nat) (f:Nat→Int) (x0 y0 x1 y1:Int) (w:World) (h:Vec w.heap.size w a len (Byts f)) (hf:∀i,0≤f i∧f i≤255) :
  Calls Tryz.prog 175 #[.slice a len cap,.int .i64 x0,.int .i64 y0,.int .i64 x1,.int .i64 y1] w (Tells w (Gr.Sees len f x0 y0 x1 y1)):=by
 have hv:=hide h
 have hf':=hide hf
 clear h hf
 by_cases hin:Gr.inB x0 y0=true∧Gr.inB x1 y1=true
 ·obtain ⟨h0,h1⟩:=hin
  have hn23:=Gr.span_bd x0 y0 x1 y1 h0 h1
  go_enter Tryz.func175,Tryz.ntmps175
  go_wp2_with fail
  refine (line_some _ _ _ _ _ h0 h1).mono ?_
  rintro e w1 ⟨a1,cap1,rfl,hv1,_,hb1⟩
  have hl:=hide hv1
  have hv2:=hide ((uh hv).kept hb1)
  obtain ⟨n,hn⟩:∃n:Nat,n=Gr.span x0 y0 x1 y1:=⟨_,rfl⟩
  rw [←hn] at hn23 hl ⊢
  have hn':=hide hn
  have hz:((n:Int)+1 == 0)=false:=by simp;omega
  clear hv hv1 hn
  go_wp2_with fail
  go_loop [12] (fun i=>∃k:Nat,1≤k∧k≤n+1∧i=.int .i64 k∧∀j,0<j→j<k→j<n→Gr.clearB (Gr.kind len f (Gr.ln x0 y0 x1 y1 j))=true) (fun i=>n+1 - (intOf i).toNat)
  case atStart=>exact ⟨1,by omega,by omega,rfl,fun j h1 h2 _=>by omega⟩
  case round =>
   obtain ⟨k,hk0,hk,rfl,hall⟩:=hrel
   have hall':=hide hall
   clear hall
   by_cases hlt:k<n
   ·obtain ⟨b,off,rfl,_,hc⟩:=(uh hl).at (k:=k) (by omega)
    have hc':w1.cell? ⟨b,off+k,none⟩=some (.int .i64 (Gr.ln x0 y0 x1 y1 k)):=hc
    obtain ⟨l1,l2⟩:=Gr.ln_bd x0 y0 x1 y1 h0 h1 k (by have:=uh hn';omega)
    clear hc
    have hlt':(k:Int)<(n:Int):=by omega
    by_cases hcl:Gr.clearB (Gr.kind len f (Gr.ln x0 y0 x1 y1 k))=true
    ·go_wp2_with (first | (go_at_call 144;refine (kindOf_any _ _ _ _ f _ _ (uh hv2) (uh hf') (by omega) (by omega)).mono ?_;rintro e w' ⟨rfl,hw⟩;subst w') | (go_at_call 182;refine (clear_any _ _).mono ?_;rintro e w' ⟨rfl,hw⟩;subst w'))
     go_round
     case rel =>
      refine ⟨k+1,by omega,by omega,by go_num,fun j g1 g2 g3=>?_⟩
      by_cases hjk:j=k
      ·rw [hjk];exact hcl
      ·exact (uh hall') j g1 (by omega) g3
     case measure=>simp [intOf];omega
    ·have hcl':Gr.clearB (Gr.kind len f (Gr.ln x0 y0 x1 y1 k))=false:=by simpa using hcl
     have hno:Hid (¬Gr.Sees len f x0 y0 x1 y1):=by
      show ¬Gr.Sees len f x0 y0 x1 y1
      rintro ⟨_,_,h⟩
      exact hcl (h k (by omega) (by have:=uh hn';omega))
     clear hcl
     go_wp2_with (first | (go_at_call 144;refine (kindOf_any _ _ _ _ f _ _ (uh hv2) (uh hf') (by omega) (by omega)).mono ?_;rintro e w' ⟨rfl,hw⟩;subst w') | (go_at_call 182;refine (clear_any _ _).mono ?_;rintro e w' ⟨rfl,hw⟩;subst w'))
     go_ret
     exact ⟨false,rfl,⟨fun h=>(by cases h),fun h=>absurd h (uh hno)⟩,hb1⟩
   ·have hge:¬(k:Int)<(n:Int):=by omega
    have hyes:Hid (Gr.Sees len f x0 y0 x1 y1):=⟨h0,h1,fun j g1 g2=>(uh hall') j g1 (by have:=uh hn';omega) (by have:=uh hn';omega)⟩
    go_wp2
    go_ret
    exact ⟨true,rfl,⟨fun _=>uh hyes,fun _=>rfl⟩,hb1⟩
 ·have hno:Gr.inB x0 y0=true→Gr.inB x1 y1=false:=fun h0=>by simpa using fun h1=>hin ⟨h0,h1⟩
  have hns:=hide (Gr.sees_no (len:=len) (f:=f) hno)
  clear hin
  go_enter Tryz.func175,Tryz.ntmps175
  go_wp2_with fail
  refine (line_none _ _ _ _ _ hno).mono ?_
  rintro e w' ⟨rfl,hw⟩
  subst w'
  go_wp2
  go_ret
  exact ⟨false,rfl,⟨fun h=>(by cases h),fun h=>absurd h (uh hns)⟩,Below.refl _ _⟩


open Go.RowKit

def Gr.openB (f:Nat→Int) (blen:Nat) (g:Nat→Bool) (i:Nat):Bool:=Gr.walkB (f i) && !(decide (i<blen) && g i)

theorem Gr.open_no {f:Nat→Int} {blen:Nat} {g:Nat→Bool} {i:Nat} (h:Gr.walkB (f i)=false):Gr.openB f blen g i=false:=by simp [Gr.openB,h]
theorem Gr.open_past {f:Nat→Int} {blen:Nat} {g:Nat→Bool} {i:Nat} (h:Gr.walkB (f i)=true) (hi:¬i<blen):Gr.openB f blen g i=true:=by simp [Gr.openB,h,hi]
theorem Gr.open_in {f:Nat→Int} {blen:Nat} {g:Nat→Bool} {i:Nat} (h:Gr.walkB (f i)=true) (hi:i<blen):Gr.openB f blen g i=!(g i):=by simp [Gr.openB,h,hi]

theorem Gr.at_in {f:Nat→Int} {x y:Int} {k:Nat} (h:Gr.inB x y=true) (hk:y*24+x=(k:Int)):Gr.at 384 f x y=f k:=by
 have:=(Gr.inB_iff x y).1 h
 unfold Gr.at
 rw [if_pos ⟨h,by omega⟩,hk,Int.toNat_natCast]

theorem Gr.at_out {len:Nat} {f:Nat→Int} {x y:Int} (h:Gr.inB x y=false):Gr.at len f x y=0:=by
 unfold Gr.at
 rw [if_neg]
 rintro ⟨h',_⟩
 rw [h] at h'
 cases h'

set_option maxRecDepth 8000 in
set_option maxHeartbeats 800000 in
theorem isFree_out (B:Nat) (a b:Option Addr) (blen c1 c2:Nat) (f:Nat→Int) (x y:Int) (w:World) (h:Vec B w a 384 (Byts f)) (hf:∀i,0≤f i∧f i≤255) (hin:Gr.inB x y=false) :
  Calls Tryz.prog 145 #[.slice a 384 c1,.slice b blen c2,.int .i64 x,.int .i64 y] w fun e w'=>e=.returned (.bool false)∧w'=w:=by
 have c:∀w':World,w'=w→Calls Tryz.prog 72 #[.slice a 384 c1,.int .i64 x,.int .i64 y] w' fun e w1=>e=.returned (.int .i64 0)∧w1=w':=by
  rintro w' rfl
  have:=at_any B a 384 c1 f x y w' h hf
  rwa [Gr.at_out hin] at this
 have cw:∀w':World,Calls Tryz.prog 71 #[.int .i64 0] w' fun e w1=>e=.returned (.bool false)∧w1=w':=fun w'=>walk_any 0 w'
 clear h hf
 go_enter Tryz.func145,Tryz.ntmps145
 go_wp2_with (first | (go_at_call 72;refine (c _ rfl).mono ?_;rintro e w' ⟨rfl,hw⟩;subst w') | (go_at_call 71;refine (cw _).mono ?_;rintro e w' ⟨rfl,hw⟩;subst w'))
 go_ret
 exact ⟨rfl,rfl⟩

set_option maxRecDepth 8000 in
set_option maxHeartbeats 800000 in
theorem isFree_in (B:Nat) (a b:Option Addr) (blen c1 c2:Nat) (f:Nat→Int) (g:Nat→Bool) (x y:Int) (k:Nat) (w:World) (h:Vec B w a 384 (Byts f)) (hf:∀i,0≤f i∧f i≤255) (hb:Vec B w b blen (Bols g)) (hin:Gr.inB x y=true) (hk:y*24+x=(k:Int)) :
  Calls Tryz.prog 145 #[.slice a 384 c1,.slice b blen c2,.int .i64 x,.int .i64 y] w fun e w'=>e=.returned (.bool (Gr.openB f blen g k))∧w'=w:=by
 have hm:blen≤9223372036854775807:=hb.1
 obtain ⟨b1,b2,b3,b4⟩:=(Gr.inB_iff x y).1 hin
 have c:∀w':World,w'=w→Calls Tryz.prog 72 #[.slice a 384 c1,.int .i64 x,.int .i64 y] w' fun e w1=>e=.returned (.int .i64 (f k))∧w1=w':=by
  rintro w' rfl
  have:=at_any B a 384 c1 f x y w' h hf
  rwa [Gr.at_in hin hk] at this
 clear h hf
 by_cases hwk:Gr.walkB (f k)=true
 ·by_cases hl:k<blen
  ·have hd:=hide (Gr.open_in (g:=g) hwk hl)
   obtain ⟨bb,off,rfl,_,hc⟩:=hb.at hl
   have hc':w.cell? ⟨bb,off+k,none⟩=some (.bool (g k)):=hc
   have hl':(k:Int)<(blen:Int):=by omega
   clear hc hb
   go_enter Tryz.func145,Tryz.ntmps145
   go_wp2_with (first | (go_at_call 72;refine (c _ rfl).mono ?_;rintro e w' ⟨rfl,hw⟩;subst w') | (go_at_call 71;refine (walk_any _ _).mono ?_;rintro e w' ⟨rfl,hw⟩;subst w') | (go_at_call 97;refine (number_any _ _ _ (by omega) (by omega) (by omega) (by omega)).mono ?_;rintro e w' ⟨rfl,hw⟩;subst w'))
   go_ret
   exact ⟨ret_bool (by rw [uh hd,decide_eq_false (show ¬blen≤k by omega)];rfl),rfl⟩
  ·have hd:=hide (Gr.open_past (g:=g) hwk hl)
   have hl':(blen:Int)≤(k:Int):=by omega
   clear hb
   go_enter Tryz.func145,Tryz.ntmps145
   go_wp2_with (first | (go_at_call 72;refine (c _ rfl).mono ?_;rintro e w' ⟨rfl,hw⟩;subst w') | (go_at_call 71;refine (walk_any _ _).mono ?_;rintro e w' ⟨rfl,hw⟩;subst w') | (go_at_call 97;refine (number_any _ _ _ (by omega) (by omega) (by omega) (by omega)).mono ?_;rintro e w' ⟨rfl,hw⟩;subst w'))
   go_ret
   exact ⟨ret_bool (uh hd).symm,rfl⟩
 ·have hwk':Gr.walkB (f k)=false:=by simpa using hwk
  have hd:=hide (Gr.open_no (blen:=blen) (g:=g) hwk')
  clear hwk hb
  go_enter Tryz.func145,Tryz.ntmps145
  go_wp2_with (first | (go_at_call 72;refine (c _ rfl).mono ?_;rintro e w' ⟨rfl,hw⟩;subst w') | (go_at_call 71;refine (walk_any _ _).mono ?_;rintro e w' ⟨rfl,hw⟩;subst w'))
  go_ret
  exact ⟨ret_bool (uh hd).symm,rfl⟩

theorem gtr {a b c:World} {r:Option Nat} (h:a.grownBy b r) (k:b.grownBy c r):a.grownBy c r :=
 ⟨k.os.trans h.os,k.tape.trans h.tape,k.output.trans h.output,Nat.le_trans h.size k.size,fun i hi hr=>(k.block i (Nat.lt_of_lt_of_le hi h.size) hr).trans (h.block i hi hr)⟩

theorem gow {a b c:World} {r s:Option Nat} (h:a.grownBy b r) (k:b.grownBy c s) (hs:∀n,s=some n→a.heap.size≤n):a.grownBy c r :=
 ⟨k.os.trans h.os,k.tape.trans h.tape,k.output.trans h.output,Nat.le_trans h.size k.size,fun i hi hr=>(k.block i (Nat.lt_of_lt_of_le hi h.size) (fun e=>by have:=hs i e.symm;omega)).trans (h.block i hi hr)⟩

theorem gst {a b:World} {g:Nat} (h:a.grownBy b (some g)) (i:Nat) (u:Value):a.grownBy (b.setCell ⟨g,i,none⟩ u) (some g) :=
 gtr h ⟨rfl,rfl,rfl,by simp,fun k _ hk=>heap_setCell_other b ⟨g,i,none⟩ k u (fun e=>hk (by rw [e]))⟩

theorem gal {a b:World} {r:Option Nat} (h:a.grownBy b r) (o:Obj):a.grownBy (b.alloc o) r:=gtr h (World.grownBy_alloc b o r)

theorem gdw {a b:World} {r:Option Nat} (h:a.grownBy b r) (n:Nat):a.grownBy (b.drewN n) r:=by
 have k:=below_drewN (Below.refl b.heap.size b) n
 exact gtr h ⟨k.os,k.tape,k.output,k.size,fun i hi _=>k.block i hi⟩

theorem grown_below {a b:World} {g:Nat} (h:a.grownBy b (some g)) (hg:g≤a.heap.size):Below g a b :=
 ⟨h.os,h.tape,h.output,h.size,fun i hi=>h.block i (by omega) (fun e=>by cases e;omega)⟩

def Vex (G:Nat) (w:World) (a:Option Addr) (len:Nat) (F:Nat→Value):Prop :=
 len≤maxLen∧(len=0∨∃b off,a=some ⟨b,off,none⟩∧b<w.heap.size∧b≠G∧∀i,i<len→w.cell? ⟨b,off+i,none⟩=some (F i))

theorem Vex.at {G:Nat} {w wr:World} {a:Option Addr} {len:Nat} {F:Nat→Value} (h:Vex G w a len F) (hg:w.grownBy wr (some G)) {k:Nat} (hk:k<len) :
  ∃b off,a=some ⟨b,off,none⟩∧wr.cell? ⟨b,off+k,none⟩=some (F k):=by
 obtain ⟨_,h0 | ⟨b,off,ha,hlt,hne,hc⟩⟩:=h
 ·omega
 ·exact ⟨b,off,ha,(World.cell?_of_block (a:=⟨b,off+k,none⟩) (hg.block b hlt (fun e=>hne (by cases e;rfl)))).trans (hc k hk)⟩

theorem one_at (w:World) (x:Value) (t:TypeId) (B:Nat) (hB:B=w.heap.size):∀j u,[x][j]?=some u→(w.alloc (.cells #[x] t)).cell? ((⟨B,0,none⟩:Addr).add j)=some u:=by
 subst hB
 exact cell_one_new w x t

def natInts (l:List Nat):List Int:=l.map Int.ofNat

theorem natInts_more (l:List Nat) (b:Nat):(natInts l).map (Value.int .i64) ++ [.int .i64 (b:Int)]=(natInts (l ++ [b])).map (Value.int .i64):=by
 simp [natInts]

theorem natInts_len (l:List Nat):(natInts l).length=l.length:=by simp [natInts]

theorem natInts_at (l:List Nat) (i:Nat):(natInts l)[i]?.getD 0=((l[i]?.getD 0:Nat):Int):=by
 unfold natInts
 rw [List.getElem?_map]
 cases l[i]? <;> rfl

theorem own_vex {w:World} {base G:Nat} {v:Value} {l:List Nat} (h:w.ownsRow base 3 1 v l.length ((natInts l).map (Value.int .i64))) (hG:G<base) (hm:l.length≤maxLen) :
  ∃a cap,v=.slice a l.length cap∧Vex G w a l.length (Ints fun i=>((l[i]?.getD 0:Nat):Int)):=by
 rcases h.2 with ⟨rfl,h0⟩ | ⟨g,cap,cur,rfl,hb,hg,_,_,_,_⟩
 ·exact ⟨none,0,by rw [h0],hm,.inl h0⟩
 ·refine ⟨_,cap,rfl,hm,.inr ⟨g,0,rfl,lt_of_block hg,by omega,fun i hi=>?_⟩⟩
  rw [Nat.zero_add,h.cellAt i (by omega),List.getElem?_map]
  show _=some (Value.int .i64 ((l[i]?.getD 0:Nat):Int))
  rw [←natInts_at,List.getElem?_eq_getElem (by rw [natInts_len];exact hi)]
  rfl

theorem Arr.grown {w w':World} {g:Nat} {T:TypeId} {n:Nat} {F:Nat→Value} {r:Option Nat} (h:Arr w g T n F) (hg:w.grownBy w' r) (hr:r≠some g):Arr w' g T n F:=by
 have hlt:=h.lt
 obtain ⟨cur,h1,hs,hc⟩:=h
 exact ⟨cur,(hg.block g hlt (fun e=>hr e.symm)).trans h1,hs,hc⟩

theorem Arr.alloc {w:World} {g:Nat} {T:TypeId} {n:Nat} {F:Nat→Value} (h:Arr w g T n F) (o:Obj):Arr (w.alloc o) g T n F:=h.grown (World.grownBy_alloc w o none) (by simp)

theorem Arr.upd {w:World} {g n i:Nat} {T:TypeId} {F:Nat→Int} (h:Arr w g T n (Ints F)) (v:Int):Arr (w.setCell ⟨g,i,none⟩ (.int .i64 v)) g T n (Ints (Gr.upd F i v)):=by
 refine (h.store i _).congr fun j _=>?_
 show (if j=i then Value.int .i64 v else .int .i64 (F j))=.int .i64 (if j=i then v else F j)
 split <;> rfl


open Go.RowKit

def Gn.D (s f a b n:Int):Int:=Dc.die n s [f,a,b]

theorem Gn.D_bd (s f a b n:Int) (h:1≤n):0≤Gn.D s f a b n∧Gn.D s f a b n<n:=Dc.die_bd n s [f,a,b] h

def Says (w:World) (v:Value) (e:Ending) (w':World):Prop:=e=.returned v∧w.grownBy w' none

theorem Row.three (w:World) (x y z:Int) (T:TypeId):Row (w.alloc (.cells #[.int .i64 x,.int .i64 y,.int .i64 z] T)) (some ⟨w.heap.size,0,none⟩) 3 [x,y,z]:=by
 refine ⟨rfl,by decide,.inr ⟨_,_,rfl,fun i hi=>?_⟩⟩
 rcases (show i=0∨i=1∨i=2 by omega) with rfl | rfl | rfl <;> simp

theorem gsr {a b:World} (h:a.grownBy b none) (p:Addr) (hp:a.heap.size≤p.block) (u:Value):a.grownBy (b.setCell p u) none :=
 ⟨h.os,h.tape,h.output,by simpa using h.size,fun k hk hr=>(heap_setCell_other b p k u (by omega)).trans (h.block k hk hr)⟩

theorem num_any (x y:Int) (w:World) (h1:-1000≤x) (h2:x≤1000) (h3:-1000≤y) (h4:y≤1000) :
  Calls Tryz.prog 104 #[.agg #[.int .i64 x,.int .i64 y]] w (Says w (.int .i64 (y*24+x))):=by
 go_enter Tryz.func104,Tryz.ntmps104
 go_wp2
 go_ret
 exact ⟨rfl,World.grownBy_alloc _ _ _⟩

theorem placeOf_any (c:Int) (w:World) (h1:0≤c) (h2:c≤1000) :
  Calls Tryz.prog 113 #[.int .i64 c] w (Says w (.agg #[.int .i64 (c % 24),.int .i64 (c / 24)])):=by
 go_enter Tryz.func113,Tryz.ntmps113
 go_wp2
 go_returns
 exact ⟨rfl,World.grownBy_alloc _ _ _⟩

theorem die3_any (s f a b n:Int) (w:World) (hn:n≤9223372036854775807) :
  Calls Tryz.prog 103 #[.agg #[.int .i64 s,.int .i64 f],.int .i64 a,.int .i64 b,.int .i64 n] w (Says w (.int .i64 (Gn.D s f a b n))):=by
 have c:∀(w':World) (B:Nat),B=w'.heap.size→Calls Tryz.prog 127 #[.int .i64 n,.int .i64 s,.slice (some ⟨B,0,none⟩) 3 3] (w'.alloc (.cells #[.int .i64 f,.int .i64 a,.int .i64 b] 3)) fun e w1=>e=.returned (.int .i64 (Gn.D s f a b n))∧w1=w'.alloc (.cells #[.int .i64 f,.int .i64 a,.int .i64 b] 3):=by
  rintro w' B rfl
  exact die_row n s _ 3 3 [f,a,b] _ (Row.three w' f a b 3) hn
 go_enter Tryz.func103,Tryz.ntmps103
 go_wp2_with fail
 refine (c _ _ (by simp)).mono ?_
 rintro e w1 ⟨rfl,rfl⟩
 go_wp2
 go_ret
 exact ⟨rfl,gtr (World.grownBy_alloc _ _ _) (World.grownBy_alloc _ _ _)⟩

theorem refD_any (s f a b n:Int) (w:World) (hn:n≤9223372036854775807) :
  Calls Tryz.prog 57 #[.int .i64 s,.int .i64 f,.int .i64 a,.int .i64 b,.int .i64 n] w (Says w (.int .i64 (Gn.D s f a b n))):=by
 have c:∀(w':World) (B:Nat),B=w'.heap.size→Calls Tryz.prog 86 #[.int .i64 n,.int .i64 s,.slice (some ⟨B,0,none⟩) 3 3] (w'.alloc (.cells #[.int .i64 f,.int .i64 a,.int .i64 b] 3)) fun e w1=>e=.returned (.int .i64 (Gn.D s f a b n))∧w1=w'.alloc (.cells #[.int .i64 f,.int .i64 a,.int .i64 b] 3):=by
  rintro w' B rfl
  exact refDie_row n s _ 3 3 [f,a,b] _ (Row.three w' f a b 3) hn
 go_enter Tryz.func57,Tryz.ntmps57
 go_wp2_with fail
 refine (c _ _ (by simp)).mono ?_
 rintro e w1 ⟨rfl,rfl⟩
 go_wp2
 go_ret
 exact ⟨rfl,World.grownBy_alloc _ _ _⟩

def Gn.to1 (a b:Int):Int:=if a<b then a+1 else if b<a then a - 1 else a

theorem nan_any (x:Int) (w:World):Calls Tryz.prog 152 #[.int .i64 x] w fun e w'=>e=.returned (.bool false)∧w'=w:=by
 go_enter Tryz.func152,Tryz.ntmps152
 go_wp2
 go_ret
 exact ⟨rfl,rfl⟩

def Gn.cmp (x y:Int):Int:=if x<y then -1 else if y<x then 1 else 0

theorem cmp_any (x y:Int) (w:World):Calls Tryz.prog 143 #[.int .i64 x,.int .i64 y] w fun e w'=>e=.returned (.int .i64 (Gn.cmp x y))∧w'=w:=by
 by_cases h1:x<y
 ·have hd:=hide (show Gn.cmp x y=-1 from if_pos h1)
  go_enter Tryz.func143,Tryz.ntmps143
  go_wp2_with (go_at_call 152;refine (nan_any _ _).mono ?_;rintro e w' ⟨rfl,rfl⟩)
  go_ret
  exact ⟨rti (uh hd).symm,rfl⟩
 ·by_cases h2:y<x
  ·have hd:=hide (show Gn.cmp x y=1 by unfold Gn.cmp;rw [if_neg h1,if_pos h2])
   go_enter Tryz.func143,Tryz.ntmps143
   go_wp2_with (go_at_call 152;refine (nan_any _ _).mono ?_;rintro e w' ⟨rfl,rfl⟩)
   go_ret
   exact ⟨rti (uh hd).symm,rfl⟩
  ·have hd:=hide (show Gn.cmp x y=0 by unfold Gn.cmp;rw [if_neg h1,if_neg h2])
   go_enter Tryz.func143,Tryz.ntmps143
   go_wp2_with (go_at_call 152;refine (nan_any _ _).mono ?_;rintro e w' ⟨rfl,rfl⟩)
   go_ret
   exact ⟨rti (uh hd).symm,rfl⟩

theorem toward_any (a b:Int) (w:World) (h:a≠b) (h1:-1000≤a) (h2:a≤1000):Calls Tryz.prog 59 #[.int .i64 a,.int .i64 b] w fun e w'=>e=.returned (.int .i64 (Gn.to1 a b))∧w'=w:=by
 by_cases h3:a<b
 ·have hd:=hide (show Gn.to1 a b=a+1 from if_pos h3)
  go_enter Tryz.func59,Tryz.ntmps59
  go_wp2
  go_ret
  exact ⟨rti (uh hd).symm,rfl⟩
 ·have hd:=hide (show Gn.to1 a b=a - 1 by unfold Gn.to1;rw [if_neg h3,if_pos (by omega)])
  go_enter Tryz.func59,Tryz.ntmps59
  go_wp2
  go_ret
  exact ⟨rti (uh hd).symm,rfl⟩

def Gn.hp (k:Int):Int:=if k=2 then 4 else if k=3 then 9 else 6
def Gn.atk (k:Int):Int:=if k=2 then 2 else if k=3 then 4 else 3
def Gn.df (k:Int):Int:=if k=3 then 1 else 0
def Gn.ent (k x y:Int):Array Value:=#[.int .i64 k,.int .i64 0,.int .i64 0,.int .i64 x,.int .i64 y,.int .i64 (Gn.hp k),.int .i64 (Gn.hp k),.int .i64 (Gn.atk k),.int .i64 (Gn.df k),.int .i64 0,.int .i64 0]

theorem stats_any (k:Int) (w:World) (h1:2≤k) (h2:k≤4):Calls Tryz.prog 112 #[.int .i64 k] w (Says w (.agg (Gn.ent k 0 0))):=by
 rcases (show k=2∨k=3∨k=4 by omega) with rfl | rfl | rfl
 all_goals
  go_enter Tryz.func112,Tryz.ntmps112
  go_wp2
  go_returns
  exact ⟨rfl,World.grownBy_alloc _ _ _⟩

theorem refStats_any (k:Int) (w:World) (h1:2≤k) (h2:k≤4):Calls Tryz.prog 17 #[.int .i64 k] w (Says w (.agg (Gn.ent k 0 0))):=by
 rcases (show k=2∨k=3∨k=4 by omega) with rfl | rfl | rfl
 all_goals
  go_enter Tryz.func17,Tryz.ntmps17
  go_wp2
  go_returns
  exact ⟨rfl,World.grownBy_alloc _ _ _⟩

end Go.Proofs.YtbanjoflgoiegabGreat
