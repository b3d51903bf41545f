import Derived.Test.YtbanjoflgoiegabGreatPf21
import Derived.Test.YtbanjoflgoiegabGreatPf23
import Derived.Laws.BytesArg
namespace Go.Proofs.YtbanjoflgoiegabGreat
open Go.RowKit

set_option maxHeartbeats 400000 in
theorem root_any (n:Int) (w:World) (h1:0≤n) (h2:n≤9223372036854775807) :
  Calls Tryz.prog 183 #[.int .i64 n] w fun e w'=>∃r,e=.returned (.int .i64 r)∧Fx.isRoot n r∧w'=w:=by
 go_enter Tryz.func183,Tryz.ntmps183
 go_wp2
 go_loop [3,4] (fun r b=>∃p q:Int,Fx.RI n p q∧r=.int .u64 p∧b=.int .u64 q) (fun _ b=>(intOf b).toNat)
 case atStart=>exact ⟨0,_,Fx.RI_start n h1 (by omega),rfl,rfl⟩
 case round =>
  obtain ⟨p,q,hri,rfl,rfl⟩:=hrel
  obtain ⟨hp0,hp1,hq0,hq1,hpq⟩:=Fx.RI_bounds hri
  obtain ⟨hs0,hs1⟩:=Fx.RI_sq hri
  by_cases hq:0<q
  ·have hor:=Fx.RI_or hri hq
   by_cases hy:(p+q)*(p+q)≤n
   ·go_wp2
    go_round
    case rel=>exact ⟨_,_,Fx.RI_yes hri hq hy,rfl,rfl⟩
    case measure=>simp [intOf];omega
   ·go_wp2
    go_round
    case rel=>exact ⟨_,_,Fx.RI_no hri hq (by omega),rfl,rfl⟩
    case measure=>simp [intOf];omega
  ·go_wp2
   go_ret
   exact ⟨p,rfl,Fx.RI_end hri (by omega),rfl⟩

set_option maxHeartbeats 400000 in
theorem turn_any (x y q:Int) (w:World) (h1:-1125899906842624≤x) (h2:x≤1125899906842624) (h3:-1125899906842624≤y) (h4:y≤1125899906842624) :
  Calls Tryz.prog 91 #[.int .i64 x,.int .i64 y,.int .i64 q] w fun e w'=>e=.returned (.tuple #[.int .i64 (Fx.turned (q % 4).toNat (x,y)).1,.int .i64 (Fx.turned (q % 4).toNat (x,y)).2])∧w'=w:=by
 have ha:=Fx.and3 q
 obtain ⟨m,hm⟩:∃m:Nat,(m:Int)=q % 4:=⟨(q % 4).toNat,by omega⟩
 have hm4:m<4:=by omega
 have hmt:(q % 4).toNat=m:=by omega
 rw [←hm] at ha
 rw [hmt]
 have HM:=hide hm
 clear hm hmt
 go_enter Tryz.func91,Tryz.ntmps91
 go_wp2
 go_loop [8,16] (fun s i=>∃(a b k:Nat),k≤m∧s=.complex .f64 a b∧i=.int .i64 k∧Fl.Rep a (Fx.turned k (x,y)).1∧Fl.Rep b (Fx.turned k (x,y)).2) (fun _ i=>(m - (intOf i).toNat))
 case atStart=>exact ⟨_,_,0,by omega,rfl,rfl,Fl.rep_int x (by omega) (by omega),Fl.rep_int y (by omega) (by omega)⟩
 case round =>
  obtain ⟨a,b,k,hk,rfl,rfl,ra,rb⟩:=hrel
  obtain ⟨b1,b2,b3,b4⟩:=Fx.turned_bd k (x,y) 1125899906842624 h1 h2 h3 h4
  by_cases hlt:k<m
  ·obtain ⟨r,i,hmul,rr,ri⟩:=Fl.times_i ra rb (by omega) (by omega) (by omega) (by omega)
   have hrun:=fun w:World=>run_complex_mul (P:=Tryz.prog) w 141 a b 0 4607182418800017408 r i hmul
   have HR:=hide rr
   have HI:=hide ri
   clear ra rb rr ri hmul
   go_wp2
   go_round
   case rel=>exact ⟨r,i,k+1,by omega,rfl,by go_num,uh HR,uh HI⟩
   case measure=>simp [intOf];omega
  ·have e:k=m:=by omega
   subst e
   have t1:=Fl.rep_toInt ra (by omega) (by omega)
   have t2:=Fl.rep_toInt rb (by omega) (by omega)
   have hr1:=fun w:World=>run_convert_float_int (P:=Tryz.prog) w 144 3 .f64 .i64 a _ (by kernel_rfl) (by kernel_rfl) t1
   have hr2:=fun w:World=>run_convert_float_int (P:=Tryz.prog) w 144 3 .f64 .i64 b _ (by kernel_rfl) (by kernel_rfl) t2
   clear t1 t2 ra rb
   go_wp2
   go_ret2
   exact ⟨rfl,rfl⟩

open Go.RowKit

theorem sq_bd (dx dy:Int) (h1:-1048576≤dx) (h2:dx≤1048576) (h3:-1048576≤dy) (h4:dy≤1048576):0≤dx*dx∧dx*dx≤1099511627776∧0≤dy*dy∧dy*dy≤1099511627776:=by
 have a:=Fx.mul_bd dx dx 1048576 (by omega) h1 h2 h1 h2
 have b:=Fx.mul_bd dy dy 1048576 (by omega) h3 h4 h3 h4
 have c:0≤dx*dx:=by rcases Int.le_total 0 dx with h | h;exact Int.mul_nonneg h h;exact Int.mul_nonneg_of_nonpos_of_nonpos h h
 have d:0≤dy*dy:=by rcases Int.le_total 0 dy with h | h;exact Int.mul_nonneg h h;exact Int.mul_nonneg_of_nonpos_of_nonpos h h
 omega

set_option maxHeartbeats 400000 in
theorem dist_any (dx dy:Int) (w:World) (h1:-1048576≤dx) (h2:dx≤1048576) (h3:-1048576≤dy) (h4:dy≤1048576) :
  Calls Tryz.prog 176 #[.int .i64 dx,.int .i64 dy] w fun e w'=>∃r,e=.returned (.int .i64 r)∧Fx.isRoot ((dx*dx+dy*dy)*65536) r∧w'=w:=by
 obtain ⟨a,b,c,d⟩:=sq_bd dx dy h1 h2 h3 h4
 go_enter Tryz.func176,Tryz.ntmps176
 go_wp2_with (go_at_call 183;refine (root_any _ _ (by omega) (by omega)).mono ?_;rintro e w' ⟨r,rfl,hr,rfl⟩)
 go_ret
 exact ⟨r,rfl,hr,rfl⟩

set_option maxHeartbeats 400000 in
theorem way_any (n:Int) (w:World) :
  Calls Tryz.prog 68 #[.int .i64 n] w fun e w'=>e=.returned (.tuple #[.int .i64 (Fx.way n).1,.int .i64 (Fx.way n).2])∧w'=w:=by
 by_cases h1:n<1
 ·rw [Fx.way_none n (Or.inl h1)]
  go_enter Tryz.func68,Tryz.ntmps68
  go_wp2
  go_ret2
  exact ⟨rfl,rfl⟩
 ·by_cases h2:4<n
  ·rw [Fx.way_none n (Or.inr h2)]
   go_enter Tryz.func68,Tryz.ntmps68
   go_wp2
   go_ret2
   exact ⟨rfl,rfl⟩
  ·rw [←Fx.way_turned n (by omega) (by omega)]
   go_enter Tryz.func68,Tryz.ntmps68
   go_wp2_with (go_at_call 91;refine (turn_any 0 (-1) _ _ (by omega) (by omega) (by omega) (by omega)).mono ?_;rintro e w' ⟨rfl,rfl⟩)
   go_ret2
   exact ⟨rfl,rfl⟩


open Go.RowKit

def Fl.Std (a:Nat) (x:Int):Prop :=
 (∀b y,Fl.Rep b y→-4503599627370496<y→y<4503599627370496→Ieee.double.order a b=some (compare x y)∧Ieee.double.order b a=some (compare y x))∧(-9007199254740992<x→x<9007199254740992→floatToIntVal .f64 a .i64=some x)

theorem Fl.std_int (x:Int) (h1:-9223372036854775808≤x) (h2:x≤9223372036854775807):Fl.Std (floatOfInt .f64 x) x :=
 ⟨fun _ _ hb h3 h4=>Fl.order_int x h1 h2 hb h3 h4,fun h3 h4=>Fl.rep_toInt (Fl.rep_int x h3 h4) h3 h4⟩

theorem Fl.std_rep {a:Nat} {x:Int} (h:Fl.Rep a x):Fl.Std a x :=
 ⟨fun _ _ hb _ _=>⟨Fl.order_rep h hb,Fl.order_rep hb h⟩,fun h3 h4=>Fl.rep_toInt h h3 h4⟩

def Nv.num (x y:Int):Int:=if Gr.inB x y=true then y*24+x else -1

theorem point_any (x y:Int) (w:World):Calls Tryz.prog 120 #[.int .i64 x,.int .i64 y] w fun e w'=>e=.returned (.complex .f64 (floatOfInt .f64 x) (floatOfInt .f64 y))∧w'=w:=by
 go_enter Tryz.func120,Tryz.ntmps120
 go_wp2
 go_ret
 exact ⟨rfl,rfl⟩

set_option maxHeartbeats 800000 in
theorem navNumber_any (a b:Nat) (x y:Int) (w:World) (ha:Fl.Std a x) (hb:Fl.Std b y):Calls Tryz.prog 119 #[.complex .f64 a b] w fun e w'=>e=.returned (.int .i64 (Nv.num x y))∧w'=w:=by
 have k1:(FloatKind.f64.format.order a 0 == some .lt)=decide (x<0):=by
  rw [show FloatKind.f64.format=Ieee.double from rfl,(ha.1 0 0 Fl.rep_0 (by omega) (by omega)).1,Fl.beq_lt]
 have k2:(FloatKind.f64.format.order a 4627448617123184640 == some .gt || FloatKind.f64.format.order a 4627448617123184640 == some .eq)=decide (24≤x):=by
  rw [show FloatKind.f64.format=Ieee.double from rfl,(ha.1 _ 24 Fl.rep_24 (by omega) (by omega)).1,Fl.beq_ge]
 have k3:(FloatKind.f64.format.order b 0 == some .lt)=decide (y<0):=by
  rw [show FloatKind.f64.format=Ieee.double from rfl,(hb.1 0 0 Fl.rep_0 (by omega) (by omega)).1,Fl.beq_lt]
 have k4:(FloatKind.f64.format.order b 4625196817309499392 == some .gt || FloatKind.f64.format.order b 4625196817309499392 == some .eq)=decide (16≤y):=by
  rw [show FloatKind.f64.format=Ieee.double from rfl,(hb.1 _ 16 Fl.rep_16 (by omega) (by omega)).1,Fl.beq_ge]
 by_cases h1:x<0
 ·rw [decide_eq_true h1] at k1
  have he:Hid (Nv.num x y=-1):=if_neg (by rw [Gr.inB_iff];omega)
  clear k2 k3 k4 ha hb
  go_enter Tryz.func119,Tryz.ntmps119
  go_wp2
  go_ret
  exact ⟨rti (uh he).symm,rfl⟩
 ·rw [decide_eq_false h1] at k1
  by_cases h2:24≤x
  ·rw [decide_eq_true h2] at k2
   have he:Hid (Nv.num x y=-1):=if_neg (by rw [Gr.inB_iff];omega)
   clear k3 k4 ha hb
   go_enter Tryz.func119,Tryz.ntmps119
   go_wp2
   go_ret
   exact ⟨rti (uh he).symm,rfl⟩
  ·rw [decide_eq_false h2] at k2
   by_cases h3:y<0
   ·rw [decide_eq_true h3] at k3
    have he:Hid (Nv.num x y=-1):=if_neg (by rw [Gr.inB_iff];omega)
    clear k4 ha hb
    go_enter Tryz.func119,Tryz.ntmps119
    go_wp2
    go_ret
    exact ⟨rti (uh he).symm,rfl⟩
   ·rw [decide_eq_false h3] at k3
    by_cases h4:16≤y
    ·rw [decide_eq_true h4] at k4
     have he:Hid (Nv.num x y=-1):=if_neg (by rw [Gr.inB_iff];omega)
     clear ha hb
     go_enter Tryz.func119,Tryz.ntmps119
     go_wp2
     go_ret
     exact ⟨rti (uh he).symm,rfl⟩
    ·rw [decide_eq_false h4] at k4
     have he:Hid (Nv.num x y=y*24+x):=if_pos (by rw [Gr.inB_iff];omega)
     have t1:=ha.2 (by omega) (by omega)
     have t2:=hb.2 (by omega) (by omega)
     have hr1:=fun w:World=>run_convert_float_int (P:=Tryz.prog) w 144 3 .f64 .i64 a _ (by kernel_rfl) (by kernel_rfl) t1
     have hr2:=fun w:World=>run_convert_float_int (P:=Tryz.prog) w 144 3 .f64 .i64 b _ (by kernel_rfl) (by kernel_rfl) t2
     clear t1 t2 ha hb
     go_enter Tryz.func119,Tryz.ntmps119
     go_wp2
     go_ret
     exact ⟨rti (uh he).symm,rfl⟩

theorem step_any (n:Int) (w:World):Calls Tryz.prog 180 #[.int .i64 n] w fun e w'=>e=.returned (.complex .f64 (floatOfInt .f64 (Fx.way n).1) (floatOfInt .f64 (Fx.way n).2))∧w'=w:=by
 go_enter Tryz.func180,Tryz.ntmps180
 go_wp2_with (first | (go_at_call 68;refine (way_any _ _).mono ?_;rintro e w' ⟨rfl,hw⟩;subst w') | (go_at_call 120;refine (point_any _ _ _).mono ?_;rintro e w' ⟨rfl,hw⟩;subst w'))
 go_ret
 exact ⟨rfl,rfl⟩

def Nv.besideFrom (dx dy:Int):Nat→Nat→Int
 | 0,_=>0
 | m+1,k=>if (Fx.way (k:Int)).1=dx∧(Fx.way (k:Int)).2=dy then (k:Int) else Nv.besideFrom dx dy m (k+1)

def Nv.beside (dx dy:Int):Int:=Nv.besideFrom dx dy 4 1

theorem numberAt_any (x y:Int) (w:World) (h1:-9223372036854775808≤x) (h2:x≤9223372036854775807) (h3:-9223372036854775808≤y) (h4:y≤9223372036854775807):Calls Tryz.prog 119 #[.complex .f64 (floatOfInt .f64 x) (floatOfInt .f64 y)] w fun e w'=>e=.returned (.int .i64 (Nv.num x y))∧w'=w :=
 navNumber_any _ _ x y w (Fl.std_int x h1 h2) (Fl.std_int y h3 h4)

theorem step_rep (n:Int) (w:World):Calls Tryz.prog 180 #[.int .i64 n] w fun e w'=>∃a b,e=.returned (.complex .f64 a b)∧Fl.Rep a (Fx.way n).1∧Fl.Rep b (Fx.way n).2∧w'=w:=by
 have hb:=Fx.way_bd n
 refine (step_any n w).mono ?_
 rintro e w' ⟨rfl,rfl⟩
 exact ⟨_,_,rfl,Fl.rep_int _ (by omega) (by omega),Fl.rep_int _ (by omega) (by omega),rfl⟩

theorem wrap64_id (n:Int) (h:-9223372036854775808≤n∧n≤9223372036854775807):wrap64 n=n:=by unfold wrap64;omega

theorem wrap64_bd (z:Int):-9223372036854775808≤wrap64 z∧wrap64 z≤9223372036854775807:=by unfold wrap64;omega

theorem Nv.from_hit {dx dy:Int}:∀(m k i:Nat),(∀j,i≤j→j<k→¬((Fx.way (j:Int)).1=dx∧(Fx.way (j:Int)).2=dy))→((Fx.way (k:Int)).1=dx∧(Fx.way (k:Int)).2=dy)→i≤k→k<i+m→Nv.besideFrom dx dy m i=(k:Int)
  | 0,k,i,_,_,h1,h2=>by omega
  | m + 1, k, i, hno, hk, h1, h2 => by
      unfold Nv.besideFrom
      by_cases e:i=k
      · rw [e,if_pos hk]
      · rw [if_neg (hno i (Nat.le_refl _) (by omega)),Nv.from_hit m k (i+1) (fun j hj1 hj2=>hno j (by omega) hj2) hk (by omega) (by omega)]

theorem Nv.from_none {dx dy:Int}:∀(m i:Nat),(∀j,i≤j→j<i+m→¬((Fx.way (j:Int)).1=dx∧(Fx.way (j:Int)).2=dy))→Nv.besideFrom dx dy m i=0
  | 0,_,_=>rfl
  | m + 1, i, hno => by
      unfold Nv.besideFrom
      rw [if_neg (hno i (Nat.le_refl _) (by omega)),Nv.from_none m (i+1) (fun j hj1 hj2=>hno j (by omega) (by omega))]

set_option maxHeartbeats 800000 in
theorem beside_any (x0 y0 x1 y1:Int) (w:World) :
  Calls Tryz.prog 173 #[.int .i64 x0,.int .i64 y0,.int .i64 x1,.int .i64 y1] w fun e w'=>e=.returned (.int .i64 (Nv.beside (wrap64 (x1 - x0)) (wrap64 (y1 - y0))))∧w'=w:=by
 obtain ⟨DX,hx⟩:∃D,D=wrap64 (x1 - x0):=⟨_,rfl⟩
 obtain ⟨DY,hy⟩:∃D,D=wrap64 (y1 - y0):=⟨_,rfl⟩
 have bx:=hide (Fl.std_int DX (by rw [hx];exact (wrap64_bd _).1) (by rw [hx];exact (wrap64_bd _).2))
 have by':=hide (Fl.std_int DY (by rw [hy];exact (wrap64_bd _).1) (by rw [hy];exact (wrap64_bd _).2))
 have hx':=hide hx
 have hy':=hide hy
 rw [←hx,←hy]
 clear hx hy
 go_enter Tryz.func173,Tryz.ntmps173
 go_wp2_with (go_at_call 120;refine (point_any _ _ _).mono ?_;rintro e w' ⟨rfl,hw⟩;subst w';rw [←uh hx',←uh hy'])
 generalize hA:floatOfInt FloatKind.f64 DX=A at bx
 generalize hB:floatOfInt FloatKind.f64 DY=B at by'
 go_loop [10] (fun i=>∃k:Nat,1≤k∧k≤5∧i=.int .i64 (k:Int)∧∀j:Nat,1≤j→j<k→¬((Fx.way (j:Int)).1=DX∧(Fx.way (j:Int)).2=DY)) (fun i=>5 - (intOf i).toNat)
 case atStart=>exact ⟨1,by omega,by omega,rfl,fun j h1 h2=>by omega⟩
 case round =>
  obtain ⟨k,h1,h5,rfl,hno⟩:=hrel
  have hno':=hide hno
  clear hno hA hB
  by_cases hlt:k≤4
  ·have hlt':(k:Int)≤4:=by omega
   have HL:=hide hlt
   have H1:=hide h1
   clear hlt h1 h5
   have hwb:=hide (Fx.way_bd (k:Int))
   go_wp2_with fail
   refine (step_rep _ _).mono ?_
   rintro e w1 ⟨a,b,rfl,ra,rb,rfl⟩
   have wb:=uh hwb
   have k1:(FloatKind.f64.format.order a A == some .eq)=decide ((Fx.way (k:Int)).1=DX):=by
    rw [show FloatKind.f64.format=Ieee.double from rfl,((uh bx).1 _ _ ra (by omega) (by omega)).2,Fl.beq_eq]
   have k2:(FloatKind.f64.format.order b B == some .eq)=decide ((Fx.way (k:Int)).2=DY):=by
    rw [show FloatKind.f64.format=Ieee.double from rfl,((uh by').1 _ _ rb (by omega) (by omega)).2,Fl.beq_eq]
   clear ra rb wb
   by_cases hq:(Fx.way (k:Int)).1=DX∧(Fx.way (k:Int)).2=DY
   ·rw [decide_eq_true hq.1] at k1
    rw [decide_eq_true hq.2] at k2
    have he:Hid (Nv.beside DX DY=(k:Int)):=Nv.from_hit 4 k 1 (uh hno') hq (uh H1) (by have:=uh HL;omega)
    clear hq
    go_wp2
    go_ret
    exact ⟨rti (uh he).symm,rfl⟩
   ·have k3:(FloatKind.f64.format.order a A == some .eq && FloatKind.f64.format.order b B == some .eq)=false:=by
     rw [k1,k2]
     by_cases h:(Fx.way (k:Int)).1=DX
     ·rw [decide_eq_false (fun h2=>hq ⟨h,h2⟩),Bool.and_false]
     ·rw [decide_eq_false h,Bool.false_and]
    have hq':=hide hq
    clear k1 k2 hq
    go_wp2
    go_round
    case rel=>exact ⟨k+1,by have:=uh H1;omega,by have:=uh HL;omega,by go_num,fun j h1 h2=>by
     by_cases e:j=k
     ·rw [e];exact uh hq'
     ·exact uh hno' j h1 (by omega)⟩
    case measure=>have:=uh HL;simp [intOf];omega
  ·have hge:¬(k:Int)≤4:=by omega
   have he:Hid (Nv.beside DX DY=0):=Nv.from_none 4 1 fun j h1 h2=>uh hno' j h1 (by omega)
   go_wp2
   go_ret
   exact ⟨rti (uh he).symm,rfl⟩


open Go.RowKit

theorem Gd.box_4 (s g:Nat→Int) (gC gE gI cC cE cI g1 c1:Nat):∀j,j<11→(if j=4 then Value.slice (some ⟨g1,0,none⟩) 384 c1 else Gd.box s gC gE gI cC cE cI g j)=Gd.box s g1 gE gI c1 cE cI g j:=by
 intro j hj
 rcases (show j=0∨j=1∨j=2∨j=3∨j=4∨j=5∨j=6∨j=7∨j=8∨j=9∨j=10 by omega) with rfl | rfl | rfl | rfl | rfl | rfl | rfl | rfl | rfl | rfl | rfl <;> rfl

theorem Gd.box_5 (s g:Nat→Int) (gC gE gI cC cE cI g1 c1:Nat):∀j,j<11→(if j=5 then Value.slice (some ⟨g1,0,none⟩) 32 c1 else Gd.box s gC gE gI cC cE cI g j)=Gd.box s gC g1 gI cC c1 cI g j:=by
 intro j hj
 rcases (show j=0∨j=1∨j=2∨j=3∨j=4∨j=5∨j=6∨j=7∨j=8∨j=9∨j=10 by omega) with rfl | rfl | rfl | rfl | rfl | rfl | rfl | rfl | rfl | rfl | rfl <;> rfl


open Go.RowKit

set_option maxHeartbeats 800000 in
theorem refHero_any (b n c:Nat) (E:Nat→Nat→Int) (seat:Int) (w:World) (hE:Ents w b n E) :
  Calls Tryz.prog 9 #[.slice (some ⟨b,0,none⟩) n c,.int .i64 seat] w (Says w (.int .i64 (En.first (En.heroQ E seat) n))):=by
 have hn:=hE.1
 have hE':=hide hE
 skip
 clear hE
 go_enter Tryz.func9,Tryz.ntmps9
 go_wp2_with fail
 go_loop [5] (fun i=>∃k:Nat,k≤n∧i=.int .i64 (k:Int)∧∀j,j<k→En.heroQ E seat j=false) (fun i=>40 - (intOf i).toNat)
 case atStart=>exact ⟨0,by omega,rfl,fun j hj=>by omega⟩
 case round =>
  obtain ⟨k,hk,rfl,hno⟩:=hrel
  have hno':=hide hno
  clear hno
  by_cases hlt:k<n
  ·obtain ⟨u0,_,u2,_⟩:=(uh hE').row hlt
   have hlt':(k:Int)<(n:Int):=by omega
   have HL:=hide hlt
   skip
   clear hlt
   by_cases hf:E k 0=1
   ·by_cases h3:E k 2=seat
    ·have hq:Hid (En.heroQ E seat k=true):=by show En.heroQ E seat k=true;simp [En.heroQ,hf,h3]
     have he:=hide (En.first_hit (uh hno') (uh hq) (uh HL))
     go_wp2
     go_ret
     exact ⟨rti (uh he).symm,World.grownBy.refl _ _⟩
    ·have hq:Hid (En.heroQ E seat k=false):=by show En.heroQ E seat k=false;simp [En.heroQ,h3]
     have h3':(E k 2 == seat)=false:=by simp [h3]
     go_wp2
     go_round
     case rel=>exact ⟨k+1,by have:=uh HL;omega,by go_num,fun j hj=>by
      by_cases e:j=k
      ·rw [e];exact uh hq
      ·exact uh hno' j (by omega)⟩
     case measure=>simp [intOf];omega
   ·have hq:Hid (En.heroQ E seat k=false):=by show En.heroQ E seat k=false;simp [En.heroQ,hf]
    have hf':(E k 0 == 1)=false:=by simp [hf]
    go_wp2
    go_round
    case rel=>exact ⟨k+1,by have:=uh HL;omega,by go_num,fun j hj=>by
     by_cases e:j=k
     ·rw [e];exact uh hq
     ·exact uh hno' j (by omega)⟩
    case measure=>simp [intOf];omega
  ·have hge:¬(k:Int)<(n:Int):=by omega
   have he:=hide (En.first_none (n:=n) (fun j hj=>uh hno' j (by omega)))
   go_wp2
   go_ret
   exact ⟨rti (uh he).symm,World.grownBy.refl _ _⟩

theorem refHero7_any (g c:Nat) (E:Nat→Nat→Int) (seat:Int) (w:World) (h:Own w g 32 E) :
  Calls Tryz.prog 9 #[.slice (some ⟨g,0,none⟩) 32 c,.int .i64 seat] w (Says w (.int .i64 (Gd.hero E seat))):=refHero_any g 32 c E seat w h.ents


open Go.RowKit

theorem dice_of (s f:Int):∃d:Gn.Dice,(∀a b n,Gn.D s f a b n=d a b n)∧Gn.Fair d:=⟨fun a b n=>Gn.D s f a b n,fun _ _ _=>rfl,fun a b n h=>Gn.D_bd s f a b n h⟩


open Go.RowKit

structure Nv.Floor (c:Nat→Int):Prop where
 five:∀i,0≤c i∧c i≤5
 some:∃i,i<384∧c i≠0
 hang:∀P,Gn.Closed c P→∀k,k<384→c k≠0→P k→∀i,i<384→c i≠0→P i
 stairs:∃u v,u<384∧v<384∧(∀i,c i=3↔i=u)∧(∀i,c i=4↔i=v)

theorem Nv.to_up {d:Gn.Dice} (hd:Gn.Fair d) {c F:Nat→Int} {far:Nat} (h:Gn.Facts d c F far) {P:Nat→Prop} (hC:Gn.Closed c P):∀(n k:Nat),k<384→c k≠0→P k→F k=(n:Int)→P (Gn.up d):=by
 intro n
 induction n with
 | zero =>
  intro k hk _ hP e
  rw [←(h.fld.zero k hk).1 e]
  exact hP
 | succ n ih =>
  intro k hk hck hP e
  obtain ⟨_,j,dd,hj,hdd,hn,rfl,he⟩:=h.fld.back k hk (by omega)
  obtain ⟨b1,b2⟩:=Gr.nb_back hj hdd hn
  have hcj:c j≠0:=(h.reach hd j hj).1 (by omega)
  refine ih j hj hcj ?_ (by omega)
  have:=hC (Gr.nbOf j dd) (Gr.opp dd) hk (Gr.opp_lt hdd) hP b1 (by rw [b2];exact hcj)
  rwa [b2] at this

theorem Nv.floor_of {d:Gn.Dice} (hd:Gn.Fair d) {c F:Nat→Int} (h:Gn.IsLevel d c F):Nv.Floor c:=by
 obtain ⟨far,hf⟩:=h.facts hd
 refine ⟨hf.five,⟨far,hf.farl,by have:=(hf.is4 far).2 rfl;omega⟩,fun P hC k hk hck hP i hi hci=>?_,⟨Gn.up d,far,hf.upl,hf.farl,hf.is3,hf.is4⟩⟩
 have h0:=(hf.reach hd k hk).2 hck
 have hup:=Nv.to_up hd hf hC (F k).toNat k hk hck hP (by omega)
 exact Gn.hangs hd (fun j _=>hf.nz j) hC hup i hi hci

theorem navMake_any (s f:Int) (h1:1≤f) (h3:f≤3) (w:World) :
  Calls Tryz.prog 33 #[.int .i64 s,.int .i64 f] w fun e w'=>∃(c:Nat→Int) (G nE nI cE cI:Nat) (aE aI:Option Addr),e=.returned (.agg #[.slice (some ⟨G,0,none⟩) 384 384,.slice aE nE cE,.slice aI nI cI])∧Nv.Floor c∧w.heap.size≤G∧Arr w' G 5 384 (Byts c)∧w.grownBy w' none:=by
 obtain ⟨d,hd,hF⟩:=dice_of s f
 refine (refMake_any s f d hd hF h1 h3 w).mono ?_
 rintro e w' ⟨c,F,G,nE,nI,cE,cI,aE,aI,hlev,rfl,hG,hA,_,_,_,_,hg⟩
 exact ⟨c,G,_,_,_,_,_,_,rfl,Nv.floor_of hF hlev,hG,hA,hg⟩

theorem field_cells (v1 v2 v3:Option Addr) (n1 n2 n3 c1 c2 c3:Nat) (w:World):(Instr.field 63 (.agg #[.slice v1 n1 c1,.slice v2 n2 c2,.slice v3 n3 c3]) 0).run Tryz.prog w=.ok (.slice v1 n1 c1) w:=by kernel_rfl


open Go.RowKit

set_option maxHeartbeats 400000 in
theorem within7_any (a n:Int) (w:World) (hn:0<n) (hn2:n≤4611686018427387904) :
  Calls Tryz.prog 32 #[.int .i64 a,.int .i64 n] w fun e w'=>e=.returned (.int .i64 (a % n))∧w'=w:=by
 have t1:=Int.tmod_lt_of_pos a (b:=n) hn
 have t2:=Int.lt_tmod_of_pos a (b:=n) hn
 have hn0:(n == 0)=false:=by simp;omega
 by_cases h:a.tmod n<0
 ·have ha:¬0≤a:=by
   intro h0
   have:=Int.tmod_nonneg n h0
   omega
  have hd:=hide (Gr.within_neg a n hn h)
  go_enter Tryz.func32,Tryz.ntmps32
  go_wp2
  go_ret
  exact ⟨rti (uh hd),rfl⟩
 ·have hd:=hide (Gr.within_pos a n hn h)
  by_cases ha:0≤a
  ·have e:a.tmod n=a % n:=Int.tmod_eq_emod_of_nonneg ha
   have h':¬a % n<0:=by rw [←e];exact h
   clear h t1 t2 e
   go_enter Tryz.func32,Tryz.ntmps32
   go_wp2
   go_ret
   exact ⟨rfl,rfl⟩
  ·go_enter Tryz.func32,Tryz.ntmps32
   go_wp2
   go_ret
   exact ⟨rti (uh hd),rfl⟩

theorem madeCells_item (n c:Nat) (hc:c<n*4):(madeCells (Value.agg #[.int .i64 0,.int .i64 0,.int .i64 0,.int .i64 0]).cells (n*4))[c]?=some (.int .i64 0):=by
 have hm:c % 4<4:=by omega
 obtain ⟨m,hmm⟩:∃m,m=c % 4:=⟨_,rfl⟩
 unfold madeCells
 simp [hc,Value.cells]
 rw [←hmm] at hm ⊢
 rcases (show m=0∨m=1∨m=2∨m=3 by omega) with rfl | rfl | rfl | rfl <;> rfl

theorem make40:∃Z:Array Value,(∀w:World,(Instr.makeSlice 25 (.int .i64 40) (.int .i64 40)).run Tryz.prog w=.ok (.slice (some ⟨w.heap.size,0,none⟩) 40 40) (w.alloc (.cells Z 47))) ∧
  ∀w:World,Lie (w.alloc (.cells Z 47)) w.heap.size 47 160 (Gd.flat (fun _ _=>0)):=by
 obtain ⟨i0,hi,hz0,hz1,hz2⟩:=info_parts info_item
 refine ⟨madeCells (Value.agg #[.int .i64 0,.int .i64 0,.int .i64 0,.int .i64 0]).cells (40*4),fun w=>?_,fun w=>?_⟩
 ·have hr:=run_make (P:=Tryz.prog) w 25 47 i0 _ Tryz.underlying25 hi hz0 .i64 .i64 (40:Nat) (40:Nat) (by omega) (by omega) (by rw [hz2];decide) (by decide)
  rw [hz1] at hr
  exact hr
 ·refine ⟨_,_,Arr.lit (heap_alloc_new w _),by rw [size_madeCells];omega,fun c hc=>?_⟩
  show (madeCells _ _)[c]?.getD undef=_
  rw [madeCells_item 40 c hc]
  rfl

theorem field_cells7 (v1 v2 v3:Option Addr) (n1 n2 n3 c1 c2 c3:Nat) (w:World):(Instr.field 63 (.agg #[.slice v1 n1 c1,.slice v2 n2 c2,.slice v3 n3 c3]) 0).run Tryz.prog w=.ok (.slice v1 n1 c1) w:=field_cells v1 v2 v3 n1 n2 n3 c1 c2 c3 w

theorem blk_drew {w:World} {b:Nat} {x:Obj} (h:w.heap[b]?=some x):w.drew.heap[b]?=some x :=
 ((gd1 (World.grownBy.refl w none)).block b (lt_of_block h) (fun e=>by cases e)).trans h

def Gd.head (seed floor:Int):Nat→Int:=fun j=>if j=0 then seed else if j=2 then floor else 0

theorem Lie.type_ne {x:World} {B G:Nat} {T U:TypeId} {m n:Nat} {F K:Nat→Value} (h1:Lie x B T m F) (h2:Lie x G U n K) (h:T≠U):B≠G:=by
 rintro rfl
 obtain ⟨_,_,⟨c1,e1,_⟩,_⟩:=h1
 obtain ⟨_,_,⟨c2,e2,_⟩,_⟩:=h2
 rw [e1] at e2
 simp only [Option.some.injEq,Obj.cells.injEq] at e2
 exact h e2.2.1

theorem Lie.set11 {x:World} {B G:Nat} {T:TypeId} {m:Nat} {F:Nat→Value} {v0 v1 v2 v3 v4 v5 v6 v7 v8 v9 v10:Value} (h:Lie x G T m F) (hne:B≠G):Lie (((((((((((x.setCell ⟨B,0,none⟩ v0).setCell ⟨B,1,none⟩ v1).setCell ⟨B,2,none⟩ v2).setCell ⟨B,3,none⟩ v3).setCell ⟨B,4,none⟩ v4).setCell ⟨B,5,none⟩ v5).setCell ⟨B,6,none⟩ v6).setCell ⟨B,7,none⟩ v7).setCell ⟨B,8,none⟩ v8).setCell ⟨B,9,none⟩ v9).setCell ⟨B,10,none⟩ v10) G T m F :=
 h.others hne 0 [v0,v1,v2,v3,v4,v5,v6,v7,v8,v9,v10]

theorem grown_set11 {w x:World} {B:Nat} {v0 v1 v2 v3 v4 v5 v6 v7 v8 v9 v10:Value} (h:w.grownBy x none) (hB:w.heap.size≤B):w.grownBy (((((((((((x.setCell ⟨B,0,none⟩ v0).setCell ⟨B,1,none⟩ v1).setCell ⟨B,2,none⟩ v2).setCell ⟨B,3,none⟩ v3).setCell ⟨B,4,none⟩ v4).setCell ⟨B,5,none⟩ v5).setCell ⟨B,6,none⟩ v6).setCell ⟨B,7,none⟩ v7).setCell ⟨B,8,none⟩ v8).setCell ⟨B,9,none⟩ v9).setCell ⟨B,10,none⟩ v10) none :=
 own_sets hB [v0,v1,v2,v3,v4,v5,v6,v7,v8,v9,v10] 0 x h

theorem Gd.box_set {x:World} {B G gE gI:Nat} {seed fl:Int} {F:Nat→Value} (h:Lie x B 28 11 F):Lie (((((((((((x.setCell ⟨B,0,none⟩ (.int .i64 seed)).setCell ⟨B,1,none⟩ (.int .i64 0)).setCell ⟨B,2,none⟩ (.int .i64 fl)).setCell ⟨B,3,none⟩ (.int .i64 0)).setCell ⟨B,4,none⟩ (.slice (some ⟨G,0,none⟩) 384 384)).setCell ⟨B,5,none⟩ (.slice (some ⟨gE,0,none⟩) 32 32)).setCell ⟨B,6,none⟩ (.slice (some ⟨gI,0,none⟩) 40 40)).setCell ⟨B,7,none⟩ (.int .i64 0)).setCell ⟨B,8,none⟩ (.int .i64 0)).setCell ⟨B,9,none⟩ (.int .i64 0)).setCell ⟨B,10,none⟩ (.int .i64 0)) B 28 11 (Gd.box (Gd.head seed fl) G gE gI 384 32 40 (fun _=>0)) :=
 h.whole (Gd.head seed fl) (fun _=>0) G gE gI 384 32 40

structure Gd.Begun (w0 x:World) (B gC gE gI:Nat) (seed fl:Int) (c:Nat→Int):Prop where
 hold:Gd.Hold x B gC gE gI 384 32 40 (Gd.head seed fl) (fun _=>0) c (fun _ _=>0) (fun _ _=>0)
 lB:w0.heap.size≤B
 lC:w0.heap.size≤gC
 lE:w0.heap.size≤gE
 lI:w0.heap.size≤gI
 grown:w0.grownBy x none


open Go.RowKit

def Gd.goneQ (J:Nat→Nat→Int):Nat→Bool:=fun i=>Gd.zeroB (J i 0) (J i 1) (J i 2) (J i 3)

def Gd.lay (I M:Nat→Nat→Int):Nat→Nat→Nat→Int
 | 0=>I
 | m+1=>if 0≤En.first (Gd.goneQ (Gd.lay I M m)) 40 then En.put (Gd.lay I M m) (En.first (Gd.goneQ (Gd.lay I M m)) 40).toNat (Gd.row (M m 0) (M m 1) (M m 2) (M m 3)) else Gd.lay I M m

theorem Gd.lay_none {I M:Nat→Nat→Int} {m:Nat} (h:∀j,j<40→Gd.goneQ (Gd.lay I M m) j=false):Gd.lay I M (m+1)=Gd.lay I M m:=by
 show (if _ then _ else _)=_
 rw [En.first_none h,if_neg (by omega)]

theorem Gd.lay_some {I M:Nat→Nat→Int} {m r:Nat} (hno:∀j,j<r→Gd.goneQ (Gd.lay I M m) j=false) (hr:Gd.goneQ (Gd.lay I M m) r=true) (h40:r<40):Gd.lay I M (m+1)=En.put (Gd.lay I M m) r (Gd.row (M m 0) (M m 1) (M m 2) (M m 3)):=by
 show (if _ then _ else _)=_
 rw [En.first_hit hno hr h40,if_pos (by omega),Int.toNat_natCast]

theorem Gd.lay_stuck {I M:Nat→Nat→Int} {m:Nat} (h:∀j,j<40→Gd.goneQ (Gd.lay I M m) j=false):∀d,Gd.lay I M (m+d)=Gd.lay I M m
  | 0=>rfl
  | d + 1 => by
      have ih:=Gd.lay_stuck h d
      have h':∀j,j<40→Gd.goneQ (Gd.lay I M (m+d)) j=false:=by rw [ih];exact h
      rw [←Nat.add_assoc,Gd.lay_none h',ih]

def Gd.Some (w:World) (a:Option Addr) (n:Nat) (M:Nat→Nat→Int):Prop:=n≤100∧(n=0∨∃b o,a=some ⟨b,o,none⟩∧Its w b o n M)

theorem Gd.Some.on {w w':World} {a:Option Addr} {n:Nat} {M:Nat→Nat→Int} (h:Gd.Some w a n M) (hg:w.grownBy w' none):Gd.Some w' a n M:=by
 obtain ⟨h1,h0 | ⟨b,o,h2,h3⟩⟩:=h
 ·exact ⟨h1,.inl h0⟩
 ·exact ⟨h1,.inr ⟨b,o,h2,h3.on hg⟩⟩

theorem Gd.Some.row {w:World} {a:Option Addr} {n:Nat} {M:Nat→Nat→Int} (h:Gd.Some w a n M) {k:Nat} (hk:k<n):∃b o,a=some ⟨b,o,none⟩∧b<w.heap.size∧w.cell? ⟨b,o+k*4,none⟩=some (.int .i64 (M k 0))∧w.cell? ⟨b,o+k*4+1,none⟩=some (.int .i64 (M k 1))∧w.cell? ⟨b,o+k*4+2,none⟩=some (.int .i64 (M k 2))∧w.cell? ⟨b,o+k*4+3,none⟩=some (.int .i64 (M k 3)):=by
 obtain ⟨_,h0 | ⟨b,o,h2,h3⟩⟩:=h
 ·omega
 ·exact ⟨b,o,h2,h3.2.1,h3.2.2 k 0 hk (by omega),h3.2.2 k 1 hk (by omega),h3.2.2 k 2 hk (by omega),h3.2.2 k 3 hk (by omega)⟩

def Gd.Gives40 (w:World) (J:Nat→Nat→Int) (e:Ending) (w':World):Prop :=
 ∃g cap,e=.returned (.slice (some ⟨g,0,none⟩) 40 cap)∧w.heap.size≤g∧Lie w' g 47 160 (Gd.flat J)∧w.grownBy w' none


open Go.RowKit

namespace Gn

def nzs (c:Nat→Int):Nat→Nat
 | 0=>0
 | n+1=>nzs c n+if c n=0 then 0 else 1

theorem nzs_mono (c:Nat→Int) {m n:Nat} (h:m≤n):nzs c m≤nzs c n:=by
  induction n with
  | zero => obtain rfl : m = 0 := by omega
            exact Nat.le_refl _
  | succ n ih =>
    by_cases e:m=n+1
    · rw [e];exact Nat.le_refl _
    · have:=ih (by omega)
      rw [nzs]
      omega

theorem nzs_three (c:Nat→Int) (a:Nat) (h0:c a≠0) (h1:c (a+1)≠0) (h2:c (a+2)≠0):nzs c (a+3)=nzs c a+3:=by
 rw [show a+3=a+2+1 by omega,nzs,show a+2=a+1+1 by omega,nzs,nzs,if_neg h0,if_neg h1,if_neg h2]

theorem Facts.six {d:Dice} (hd:Fair d) {c F:Nat→Int} {far:Nat} (h:Facts d c F far):6≤nzs c 384:=by
 have hb:=room_bd hd 0
 obtain ⟨a,ha⟩:∃a:Nat,ry d 0*24+rx d 0=(a:Int):=⟨(ry d 0*24+rx d 0).toNat,by omega⟩
 have hin:∀x y:Int,0≤x→x<3→0≤y→y<2→c ((ry d 0+y)*24+(rx d 0+x)).toNat≠0:=by
  intro x y h1 h2 h3 h4
  exact (h.nz _).2 ((dug_nz d 5 _).2 (.inl ⟨0,by omega,inRoom_at hd (by omega) (by omega) (by omega) (by omega)⟩))
 have e:∀x y:Int,∀n:Nat,(a:Int)+y*24+x=(n:Int)→((ry d 0+y)*24+(rx d 0+x)).toNat=n:=by
  intro x y n hn
  omega
 have h00:=hin 0 0 (by omega) (by omega) (by omega) (by omega)
 have h10:=hin 1 0 (by omega) (by omega) (by omega) (by omega)
 have h20:=hin 2 0 (by omega) (by omega) (by omega) (by omega)
 have h01:=hin 0 1 (by omega) (by omega) (by omega) (by omega)
 have h11:=hin 1 1 (by omega) (by omega) (by omega) (by omega)
 have h21:=hin 2 1 (by omega) (by omega) (by omega) (by omega)
 rw [e 0 0 a (by omega)] at h00
 rw [e 1 0 (a+1) (by omega)] at h10
 rw [e 2 0 (a+2) (by omega)] at h20
 rw [e 0 1 (a+24) (by omega)] at h01
 rw [e 1 1 (a+24+1) (by omega)] at h11
 rw [e 2 1 (a+24+2) (by omega)] at h21
 have n1:=nzs_three c a h00 h10 h20
 have n2:=nzs_three c (a+24) h01 h11 h21
 have m1:=nzs_mono c (show a+3≤a+24 by omega)
 have m2:=nzs_mono c (show a+24+3≤384 by omega)
 omega

end Gn

end Go.Proofs.YtbanjoflgoiegabGreat
