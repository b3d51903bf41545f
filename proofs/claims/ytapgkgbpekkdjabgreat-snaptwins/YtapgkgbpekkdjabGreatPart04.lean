import Derived.Test.YtapgkgbpekkdjabGreatPart03
import Derived.Test.YtapgkgbpekkdjabGreatPart02
import Derived.Laws.AppendOwnNone
namespace Go.Proofs.YtapgkgbpekkdjabGreat

namespace Gr

theorem near_up (p n d:Int) (hn:0<n) (h0:0≤p) (h1:p≤n*d):0≤near p n∧near p n≤d:=by
 unfold near
 refine ⟨Int.ediv_nonneg (by omega) (by omega),?_⟩
 have:(2*p+n) / (2*n)<d+1:=Int.ediv_lt_of_lt_mul (by omega) (by
  have:(d+1)*(2*n)=2*(n*d)+2*n:=by rw [Int.add_mul,Int.one_mul,Int.mul_comm d,Int.mul_assoc]
  omega)
 omega

theorem near_down (p n d:Int) (hn:0<n) (h0:p≤0) (h1:n*d≤p):d≤near p n∧near p n≤0:=by
 unfold near
 constructor
 ·refine Int.le_ediv_of_mul_le (by omega) ?_
  have:d*(2*n)=2*(n*d):=by rw [Int.mul_comm d,Int.mul_assoc]
  omega
 ·have:(2*p+n) / (2*n)<1:=Int.ediv_lt_of_lt_mul (by omega) (by omega)
  omega

theorem near_mul (n d:Int) (hn:0<n):near (n*d) n=d:=by
 unfold near
 have h1:d≤(2*(n*d)+n) / (2*n):=by
  refine Int.le_ediv_of_mul_le (by omega) ?_
  have:d*(2*n)=2*(n*d):=by rw [Int.mul_comm d,Int.mul_assoc]
  omega
 have h2:(2*(n*d)+n) / (2*n)<d+1:=Int.ediv_lt_of_lt_mul (by omega) (by
  have:(d+1)*(2*n)=2*(n*d)+2*n:=by rw [Int.add_mul,Int.one_mul,Int.mul_comm d,Int.mul_assoc]
  omega)
 omega

def span (x0 y0 x1 y1:Int):Nat:=(max (max (x1 - x0) (x0 - x1)) (max (y1 - y0) (y0 - y1))).toNat

def ln (x0 y0 x1 y1:Int) (k:Nat):Int :=
 (y0+near (k*(y1 - y0)) (span x0 y0 x1 y1))*24+(x0+near (k*(x1 - x0)) (span x0 y0 x1 y1))

theorem part (d n:Int) (k:Nat) (hn:0<n) (hk:(k:Int)≤n):(0≤d∧0≤near (k*d) n∧near (k*d) n≤d)∨(d≤0∧d≤near (k*d) n∧near (k*d) n≤0):=by
 by_cases h:0≤d
 ·left
  have a:0≤(k:Int)*d:=Int.mul_nonneg (by omega) h
  have b:(k:Int)*d≤n*d:=Int.mul_le_mul_of_nonneg_right hk h
  exact ⟨h,near_up _ _ _ hn a b⟩
 ·right
  have a:(k:Int) * -d≤n * -d:=Int.mul_le_mul_of_nonneg_right hk (by omega)
  have b:0≤(k:Int) * -d:=Int.mul_nonneg (by omega) (by omega)
  rw [Int.mul_neg] at a b
  rw [Int.mul_neg] at a
  exact ⟨by omega,near_down _ _ _ hn (by omega) (by omega)⟩

theorem mul_bd (k:Nat) (d:Int) (hk:k≤23) (h1:-23≤d) (h2:d≤23):-1000≤(k:Int)*d∧(k:Int)*d≤1000:=by
 have a:(k:Int)*d≤(k:Int)*23:=Int.mul_le_mul_of_nonneg_left h2 (by omega)
 have b:(k:Int)*(-23)≤(k:Int)*d:=Int.mul_le_mul_of_nonneg_left h1 (by omega)
 omega

theorem ln_parts (x0 y0 x1 y1:Int) (h0:inB x0 y0=true) (h1:inB x1 y1=true) (k:Nat) (hk:k≤span x0 y0 x1 y1) :
  ∃x y:Int,ln x0 y0 x1 y1 k=y*24+x∧x=x0+near (k*(x1 - x0)) (span x0 y0 x1 y1)∧y=y0+near (k*(y1 - y0)) (span x0 y0 x1 y1)∧0≤x∧x<24∧0≤y∧y<16:=by
 rw [inB_iff] at h0 h1
 refine ⟨_,_,rfl,rfl,rfl,?_⟩
 by_cases hn:span x0 y0 x1 y1=0
 ·obtain rfl:k=0:=by omega
  rw [hn]
  have e:∀p,near p ((0:Nat):Int)=0:=fun p=>by simp [near]
  rw [e,e]
  omega
 ·have hs:-(span x0 y0 x1 y1:Int)≤x1 - x0∧x1 - x0≤span x0 y0 x1 y1∧-(span x0 y0 x1 y1:Int)≤y1 - y0∧y1 - y0≤span x0 y0 x1 y1:=by unfold span;omega
  have a:=part (x1 - x0) (span x0 y0 x1 y1) k (by omega) (by omega)
  have b:=part (y1 - y0) (span x0 y0 x1 y1) k (by omega) (by omega)
  omega

theorem span_bd (x0 y0 x1 y1:Int) (h0:inB x0 y0=true) (h1:inB x1 y1=true):span x0 y0 x1 y1≤23:=by
 rw [inB_iff] at h0 h1
 unfold span
 omega

theorem ln_bd (x0 y0 x1 y1:Int) (h0:inB x0 y0=true) (h1:inB x1 y1=true) (k:Nat) (hk:k≤span x0 y0 x1 y1):0≤ln x0 y0 x1 y1 k∧ln x0 y0 x1 y1 k<384:=by
 obtain ⟨x,y,e,_,_,_,_,_,_⟩:=ln_parts x0 y0 x1 y1 h0 h1 k hk
 omega

theorem near_0 (n:Int) (hn:0≤n):near 0 n=0:=by
 by_cases h:n=0
 ·subst h;rfl
 ·have:=near_mul n 0 (by omega)
  rwa [Int.mul_zero] at this

theorem ln_first (x0 y0 x1 y1:Int):ln x0 y0 x1 y1 0=y0*24+x0:=by
 unfold ln
 rw [show ((0:Nat):Int)=0 from rfl,Int.zero_mul,Int.zero_mul,near_0 _ (by omega)]
 omega

end Gr


open Go.RowKit

theorem refLine_none (x0 y0 x1 y1:Int) (w:World) (h:Gr.inB x0 y0=true→Gr.inB x1 y1=false) :
  Calls Tryz.prog 87 #[.int .i64 x0,.int .i64 y0,.int .i64 x1,.int .i64 y1] w fun e w'=>e=.returned (.slice none 0 0)∧w'=w:=by
 by_cases h0:Gr.inB x0 y0=true
 ·have h1:=h h0
  clear h
  go_enter Tryz.func87,Tryz.ntmps87
  go_wp2_with (go_at_call 67;refine (refIn_any _ _ _).mono ?_;rintro e w' ⟨rfl,rfl⟩)
  go_ret
  exact ⟨rfl,rfl⟩
 ·have h0':Gr.inB x0 y0=false:=by simpa using h0
  clear h h0
  go_enter Tryz.func87,Tryz.ntmps87
  go_wp2_with (go_at_call 67;refine (refIn_any _ _ _).mono ?_;rintro e w' ⟨rfl,rfl⟩)
  go_ret
  exact ⟨rfl,rfl⟩

theorem max2 (ts:Array TypeId) (t:TypeId) (a b n:Int) (w:World) (h:max a b=n) :
  (Builtin.max_ ts t #[.int .i64 a,.int .i64 b]).run Tryz.prog w=.ok (.int .i64 n) w:=by
 rw [run_max_int2]
 congr 2
 omega

def Gr.lnRow (x0 y0 x1 y1:Int) (k:Nat):List Int:=(List.range k).map (Gr.ln x0 y0 x1 y1)

theorem ln_more (x0 y0 x1 y1:Int) (k:Nat) (v:Int) (h:v=Gr.ln x0 y0 x1 y1 k) :
  (Gr.lnRow x0 y0 x1 y1 k).map (Value.int .i64) ++ [.int .i64 v]=(Gr.lnRow x0 y0 x1 y1 (k+1)).map (Value.int .i64):=by
 unfold Gr.lnRow
 rw [List.range_succ,h];simp

section
attribute [-go_sem] run_max_int2

set_option maxRecDepth 4000 in
set_option maxHeartbeats 800000 in
theorem refLine_some (x0 y0 x1 y1:Int) (w:World) (h0:Gr.inB x0 y0=true) (h1:Gr.inB x1 y1=true) :
  Calls Tryz.prog 87 #[.int .i64 x0,.int .i64 y0,.int .i64 x1,.int .i64 y1] w
   (Gives w (Gr.span x0 y0 x1 y1+1) (Ints (Gr.ln x0 y0 x1 y1))):=by
 have hn23:=Gr.span_bd x0 y0 x1 y1 h0 h1
 obtain ⟨b1,b2,b3,b4⟩:=(Gr.inB_iff x0 y0).1 h0
 obtain ⟨b5,b6,b7,b8⟩:=(Gr.inB_iff x1 y1).1 h1
 obtain ⟨n,hn⟩:∃n:Nat,n=Gr.span x0 y0 x1 y1:=⟨_,rfl⟩
 obtain ⟨dx,hdx⟩:∃d:Int,x1 - x0=d:=⟨_,rfl⟩
 obtain ⟨dy,hdy⟩:∃d:Int,y1 - y0=d:=⟨_,rfl⟩
 obtain ⟨mx,hmx⟩:∃m:Int,max dx (-dx)=m:=⟨_,rfl⟩
 obtain ⟨my,hmy⟩:∃m:Int,max dy (-dy)=m:=⟨_,rfl⟩
 have hm1:=fun ts t w=>max2 ts t dx (-dx) mx w hmx
 have hm2:=fun ts t w=>max2 ts t dy (-dy) my w hmy
 have hm3:=fun ts t w=>max2 ts t mx my (n:Int) w (by rw [hn];unfold Gr.span;omega)
 clear hmx hmy
 have hn':=hide hn
 have d1:-23≤dx:=by omega
 have d2:dx≤23:=by omega
 have d3:-23≤dy:=by omega
 have d4:dy≤23:=by omega
 obtain ⟨i0,hi,hz0,hz1,hz2⟩:=info_parts info_int
 rw [←hn] at hn23 ⊢
 clear hn
 by_cases hz:n=0
 ·subst hz
  go_enter Tryz.func87,Tryz.ntmps87
  go_wp2_with (first | (go_at_call 67;refine (refIn_any _ _ _).mono ?_;rintro e w' ⟨rfl,hw⟩;subst w'))
  go_ret
  have hf:=hide (Gr.ln_first x0 y0 x1 y1)
  refine ⟨_,_,rfl,⟨by decide,.inr ⟨_,_,rfl,by simp,?_⟩⟩,by omega,(Below.refl _ _).alloc (Nat.le_refl _) _⟩
  intro i hi1
  obtain rfl:i=0:=by omega
  show _=some (Value.int .i64 (Gr.ln x0 y0 x1 y1 0))
  rw [uh hf]
  simp
 ·have hz':((n:Int) == 0)=false:=by simp;omega
  obtain ⟨G,hG⟩:∃G,G=w.heap.size:=⟨_,rfl⟩
  have hG':=hide hG
  have hB:Below G w w:=Below.refl _ _
  clear hG
  go_enter Tryz.func87,Tryz.ntmps87
  go_wp2_with (first | (go_at_call 67;refine (refIn_any _ _ _).mono ?_;rintro e w' ⟨rfl,hw⟩;subst w'))
  clear hm1 hm2 hm3
  go_loopw [12,13] (fun v i wr=>∃k:Nat,k≤n+1∧i=.int .i64 k∧wr.ownsRow G 3 1 v k ((Gr.lnRow x0 y0 x1 y1 k).map (Value.int .i64))∧Below G w wr) (fun _ i _=>n+1 - (intOf i).toNat)
  case atStart=>exact ⟨0,Nat.zero_le _,rfl,World.ownsRow_nil _ _ _ _,hB⟩
  case round =>
   obtain ⟨k,hk,rfl,hown,hB1⟩:=hrel
   have hGs:G≤wr.heap.size:=by have:=hB1.size;have:=uh hG';omega
   clear hB
   by_cases hlt:k<n+1
   ·obtain ⟨X,Y,eln,eX,eY,c1,c2,c3,c4⟩:=Gr.ln_parts x0 y0 x1 y1 h0 h1 k (by have:=uh hn';omega)
    rw [hdx,←uh hn'] at eX
    rw [hdy,←uh hn'] at eY
    subst eX
    subst eY
    have eln':=hide eln
    clear eln
    obtain ⟨m1,m2⟩:=Gr.mul_bd k dx (by omega) d1 d2
    obtain ⟨m3,m4⟩:=Gr.mul_bd k dy (by omega) d3 d4
    have hlt':(k:Int)≤(n:Int):=by omega
    go_wp2_with (first | (go_at_call 99;refine (off_any _ _ _ (by omega) (by omega) (by omega) (by omega)).mono ?_;rintro e w' ⟨rfl,hw⟩;subst w') | (at_builtin;refine wpList_append_own _ rfl _ _ 52 rfl G 3 i0 (.int .i64 0) 1 8 Tryz.underlying52 hi hz0 hz1 hz2 rfl (by decide) _ _ _ rfl (hown.alloc _) ⟨wr.heap.size,0,none⟩ 1 1 [.int .i64 ((y0+Gr.near (k*dy) n)*24+x0+Gr.near (k*dx) n)] rfl rfl ?c1 ?c2 ?c3 ?c4 ?c5 ?_))
    case c1=>exact cell_one_new _ _ _
    case c2=>intro u hu;simp at hu;subst hu;rfl
    case c3=>unfold maxLen;omega
    case c4=>omega
    case c5=>simp;omega
    intro v' w1 hown' hgrow _
    rw [ln_more x0 y0 x1 y1 k _ (by rw [uh eln'];omega)] at hown'
    have hB2:Below G w w1:=(hB1.alloc hGs _).grown hgrow (by simp;omega) (by intro j hj;exact (hown.lt j hj).1)
    have hown2:=hide hown'
    clear hown' hgrow hown
    go_wp2
    go_roundw
    case rel=>exact ⟨k+1,by omega,by go_num,uh hown2,hB2⟩
    case measure=>simp [intOf];omega
   ·have hge:¬(k:Int)≤(n:Int):=by omega
    obtain rfl:k=n+1:=by omega
    obtain ⟨a,cap,rfl,_,hv⟩:=own_vec hown (by unfold maxLen;omega)
    have hcap:n+1≤cap:=by
     rcases hown.2 with ⟨h,_⟩ | ⟨g,c,cur,h,_,_,hc,_⟩
     ·cases h
     ·cases h;exact hc
    have hv2:=hide (hv.congr (G:=Ints (Gr.ln x0 y0 x1 y1)) fun j hj=>by simp [Ints,Gr.lnRow,List.getElem?_range hj])
    clear hv hown
    go_wp2
    go_ret
    exact ⟨_,_,rfl,uh hv2,hcap,by rw [←uh hG'];exact hB1⟩

end

end Go.Proofs.YtapgkgbpekkdjabGreat
