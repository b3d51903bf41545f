import Derived.Test.YtbanjoflgoiegaaGreatPs11
import Derived.Deep.Quiet
import Derived.Deep.QuietTactic
namespace Go.Proofs.YtbanjoflgoiegaaGreat
open Go.RowKit

def Fl.Std (a:Nat) (x:Int):Prop :=
 (∀b y,Fl.Rep b y→-4503599627370496<y→y<4503599627370496→Ieee.double.order a b=some (compare x y)∧Ieee.double.order b a=some (compare y x))∧(-9007199254740992<x→x<9007199254740992→floatToIntVal .f64 a .i64=some x)

theorem Fl.std_int (x:Int) (h1:-9223372036854775808≤x) (h2:x≤9223372036854775807):Fl.Std (floatOfInt .f64 x) x :=
 ⟨fun _ _ hb h3 h4=>Fl.order_int x h1 h2 hb h3 h4,fun h3 h4=>Fl.rep_toInt (Fl.rep_int x h3 h4) h3 h4⟩

theorem Fl.std_rep {a:Nat} {x:Int} (h:Fl.Rep a x):Fl.Std a x :=
 ⟨fun _ _ hb _ _=>⟨Fl.order_rep h hb,Fl.order_rep hb h⟩,fun h3 h4=>Fl.rep_toInt h h3 h4⟩

def Nv.num (x y:Int):Int:=if Gr.inB x y=true then y*24+x else -1

theorem point_any (x y:Int) (w:World):Calls Tryz.prog 167 #[.int .i64 x,.int .i64 y] w fun e w'=>e=.returned (.complex .f64 (floatOfInt .f64 x) (floatOfInt .f64 y))∧w'=w:=by
 go_enter Tryz.func167,Tryz.ntmps167
 go_wp2
 go_ret
 exact ⟨rfl,rfl⟩

set_option maxHeartbeats 800000 in
theorem navNumber_any (a b:Nat) (x y:Int) (w:World) (ha:Fl.Std a x) (hb:Fl.Std b y):Calls Tryz.prog 166 #[.complex .f64 a b] w fun e w'=>e=.returned (.int .i64 (Nv.num x y))∧w'=w:=by
 have k1:(FloatKind.f64.format.order a 0 == some .lt)=decide (x<0):=by
  rw [show FloatKind.f64.format=Ieee.double from rfl,(ha.1 0 0 Fl.rep_0 (by omega) (by omega)).1,Fl.beq_lt]
 have k2:(FloatKind.f64.format.order a 4627448617123184640 == some .gt || FloatKind.f64.format.order a 4627448617123184640 == some .eq)=decide (24≤x):=by
  rw [show FloatKind.f64.format=Ieee.double from rfl,(ha.1 _ 24 Fl.rep_24 (by omega) (by omega)).1,Fl.beq_ge]
 have k3:(FloatKind.f64.format.order b 0 == some .lt)=decide (y<0):=by
  rw [show FloatKind.f64.format=Ieee.double from rfl,(hb.1 0 0 Fl.rep_0 (by omega) (by omega)).1,Fl.beq_lt]
 have k4:(FloatKind.f64.format.order b 4625196817309499392 == some .gt || FloatKind.f64.format.order b 4625196817309499392 == some .eq)=decide (16≤y):=by
  rw [show FloatKind.f64.format=Ieee.double from rfl,(hb.1 _ 16 Fl.rep_16 (by omega) (by omega)).1,Fl.beq_ge]
 by_cases h1:x<0
 ·rw [decide_eq_true h1] at k1
  have he:Hid (Nv.num x y=-1):=if_neg (by rw [Gr.inB_iff];omega)
  clear k2 k3 k4 ha hb
  go_enter Tryz.func166,Tryz.ntmps166
  go_wp2
  go_ret
  exact ⟨rti (uh he).symm,rfl⟩
 ·rw [decide_eq_false h1] at k1
  by_cases h2:24≤x
  ·rw [decide_eq_true h2] at k2
   have he:Hid (Nv.num x y=-1):=if_neg (by rw [Gr.inB_iff];omega)
   clear k3 k4 ha hb
   go_enter Tryz.func166,Tryz.ntmps166
   go_wp2
   go_ret
   exact ⟨rti (uh he).symm,rfl⟩
  ·rw [decide_eq_false h2] at k2
   by_cases h3:y<0
   ·rw [decide_eq_true h3] at k3
    have he:Hid (Nv.num x y=-1):=if_neg (by rw [Gr.inB_iff];omega)
    clear k4 ha hb
    go_enter Tryz.func166,Tryz.ntmps166
    go_wp2
    go_ret
    exact ⟨rti (uh he).symm,rfl⟩
   ·rw [decide_eq_false h3] at k3
    by_cases h4:16≤y
    ·rw [decide_eq_true h4] at k4
     have he:Hid (Nv.num x y=-1):=if_neg (by rw [Gr.inB_iff];omega)
     clear ha hb
     go_enter Tryz.func166,Tryz.ntmps166
     go_wp2
     go_ret
     exact ⟨rti (uh he).symm,rfl⟩
    ·rw [decide_eq_false h4] at k4
     have he:Hid (Nv.num x y=y*24+x):=if_pos (by rw [Gr.inB_iff];omega)
     have t1:=ha.2 (by omega) (by omega)
     have t2:=hb.2 (by omega) (by omega)
     have hr1:=fun w:World=>run_convert_float_int (P:=Tryz.prog) w 176 3 .f64 .i64 a _ (by kernel_rfl) (by kernel_rfl) t1
     have hr2:=fun w:World=>run_convert_float_int (P:=Tryz.prog) w 176 3 .f64 .i64 b _ (by kernel_rfl) (by kernel_rfl) t2
     clear t1 t2 ha hb
     go_enter Tryz.func166,Tryz.ntmps166
     go_wp2
     go_ret
     exact ⟨rti (uh he).symm,rfl⟩

theorem step_any (n:Int) (w:World):Calls Tryz.prog 221 #[.int .i64 n] w fun e w'=>e=.returned (.complex .f64 (floatOfInt .f64 (Fx.way n).1) (floatOfInt .f64 (Fx.way n).2))∧w'=w:=by
 go_enter Tryz.func221,Tryz.ntmps221
 go_wp2_with (first | (go_at_call 113;refine (way_any _ _).mono ?_;rintro e w' ⟨rfl,hw⟩;subst w') | (go_at_call 167;refine (point_any _ _ _).mono ?_;rintro e w' ⟨rfl,hw⟩;subst w'))
 go_ret
 exact ⟨rfl,rfl⟩

def Nv.besideFrom (dx dy:Int):Nat→Nat→Int
 | 0,_=>0
 | m+1,k=>if (Fx.way (k:Int)).1=dx∧(Fx.way (k:Int)).2=dy then (k:Int) else Nv.besideFrom dx dy m (k+1)

def Nv.beside (dx dy:Int):Int:=Nv.besideFrom dx dy 4 1

theorem numberAt_any (x y:Int) (w:World) (h1:-9223372036854775808≤x) (h2:x≤9223372036854775807) (h3:-9223372036854775808≤y) (h4:y≤9223372036854775807):Calls Tryz.prog 166 #[.complex .f64 (floatOfInt .f64 x) (floatOfInt .f64 y)] w fun e w'=>e=.returned (.int .i64 (Nv.num x y))∧w'=w :=
 navNumber_any _ _ x y w (Fl.std_int x h1 h2) (Fl.std_int y h3 h4)

theorem step_rep (n:Int) (w:World):Calls Tryz.prog 221 #[.int .i64 n] w fun e w'=>∃a b,e=.returned (.complex .f64 a b)∧Fl.Rep a (Fx.way n).1∧Fl.Rep b (Fx.way n).2∧w'=w:=by
 have hb:=Fx.way_bd n
 refine (step_any n w).mono ?_
 rintro e w' ⟨rfl,rfl⟩
 exact ⟨_,_,rfl,Fl.rep_int _ (by omega) (by omega),Fl.rep_int _ (by omega) (by omega),rfl⟩

theorem wrap64_id (n:Int) (h:-9223372036854775808≤n∧n≤9223372036854775807):wrap64 n=n:=by unfold wrap64;omega

theorem wrap64_bd (z:Int):-9223372036854775808≤wrap64 z∧wrap64 z≤9223372036854775807:=by unfold wrap64;omega

theorem Nv.from_hit {dx dy:Int}:∀(m k i:Nat),(∀j,i≤j→j<k→¬((Fx.way (j:Int)).1=dx∧(Fx.way (j:Int)).2=dy))→((Fx.way (k:Int)).1=dx∧(Fx.way (k:Int)).2=dy)→i≤k→k<i+m→Nv.besideFrom dx dy m i=(k:Int)
  | 0,k,i,_,_,h1,h2=>by omega
  | m + 1, k, i, hno, hk, h1, h2 => by
      unfold Nv.besideFrom
      by_cases e:i=k
      · rw [e,if_pos hk]
      · rw [if_neg (hno i (Nat.le_refl _) (by omega)),Nv.from_hit m k (i+1) (fun j hj1 hj2=>hno j (by omega) hj2) hk (by omega) (by omega)]

theorem Nv.from_none {dx dy:Int}:∀(m i:Nat),(∀j,i≤j→j<i+m→¬((Fx.way (j:Int)).1=dx∧(Fx.way (j:Int)).2=dy))→Nv.besideFrom dx dy m i=0
  | 0,_,_=>rfl
  | m + 1, i, hno => by
      unfold Nv.besideFrom
      rw [if_neg (hno i (Nat.le_refl _) (by omega)),Nv.from_none m (i+1) (fun j hj1 hj2=>hno j (by omega) (by omega))]

set_option maxHeartbeats 800000 in
theorem beside_any (x0 y0 x1 y1:Int) (w:World) :
  Calls Tryz.prog 214 #[.int .i64 x0,.int .i64 y0,.int .i64 x1,.int .i64 y1] w fun e w'=>e=.returned (.int .i64 (Nv.beside (wrap64 (x1 - x0)) (wrap64 (y1 - y0))))∧w'=w:=by
 obtain ⟨DX,hx⟩:∃D,D=wrap64 (x1 - x0):=⟨_,rfl⟩
 obtain ⟨DY,hy⟩:∃D,D=wrap64 (y1 - y0):=⟨_,rfl⟩
 have bx:=hide (Fl.std_int DX (by rw [hx];exact (wrap64_bd _).1) (by rw [hx];exact (wrap64_bd _).2))
 have by':=hide (Fl.std_int DY (by rw [hy];exact (wrap64_bd _).1) (by rw [hy];exact (wrap64_bd _).2))
 have hx':=hide hx
 have hy':=hide hy
 rw [←hx,←hy]
 clear hx hy
 go_enter Tryz.func214,Tryz.ntmps214
 go_wp2_with (go_at_call 167;refine (point_any _ _ _).mono ?_;rintro e w' ⟨rfl,hw⟩;subst w';rw [←uh hx',←uh hy'])
 generalize hA:floatOfInt FloatKind.f64 DX=A at bx
 generalize hB:floatOfInt FloatKind.f64 DY=B at by'
 go_loop [10] (fun i=>∃k:Nat,1≤k∧k≤5∧i=.int .i64 (k:Int)∧∀j:Nat,1≤j→j<k→¬((Fx.way (j:Int)).1=DX∧(Fx.way (j:Int)).2=DY)) (fun i=>5 - (intOf i).toNat)
 case atStart=>exact ⟨1,by omega,by omega,rfl,fun j h1 h2=>by omega⟩
 case round =>
  obtain ⟨k,h1,h5,rfl,hno⟩:=hrel
  have hno':=hide hno
  clear hno hA hB
  by_cases hlt:k≤4
  ·have hlt':(k:Int)≤4:=by omega
   have HL:=hide hlt
   have H1:=hide h1
   clear hlt h1 h5
   have hwb:=hide (Fx.way_bd (k:Int))
   go_wp2_with fail
   refine (step_rep _ _).mono ?_
   rintro e w1 ⟨a,b,rfl,ra,rb,rfl⟩
   have wb:=uh hwb
   have k1:(FloatKind.f64.format.order a A == some .eq)=decide ((Fx.way (k:Int)).1=DX):=by
    rw [show FloatKind.f64.format=Ieee.double from rfl,((uh bx).1 _ _ ra (by omega) (by omega)).2,Fl.beq_eq]
   have k2:(FloatKind.f64.format.order b B == some .eq)=decide ((Fx.way (k:Int)).2=DY):=by
    rw [show FloatKind.f64.format=Ieee.double from rfl,((uh by').1 _ _ rb (by omega) (by omega)).2,Fl.beq_eq]
   clear ra rb wb
   by_cases hq:(Fx.way (k:Int)).1=DX∧(Fx.way (k:Int)).2=DY
   ·rw [decide_eq_true hq.1] at k1
    rw [decide_eq_true hq.2] at k2
    have he:Hid (Nv.beside DX DY=(k:Int)):=Nv.from_hit 4 k 1 (uh hno') hq (uh H1) (by have:=uh HL;omega)
    clear hq
    go_wp2
    go_ret
    exact ⟨rti (uh he).symm,rfl⟩
   ·have k3:(FloatKind.f64.format.order a A == some .eq && FloatKind.f64.format.order b B == some .eq)=false:=by
     rw [k1,k2]
     by_cases h:(Fx.way (k:Int)).1=DX
     ·rw [decide_eq_false (fun h2=>hq ⟨h,h2⟩),Bool.and_false]
     ·rw [decide_eq_false h,Bool.false_and]
    have hq':=hide hq
    clear k1 k2 hq
    go_wp2
    go_round
    case rel=>exact ⟨k+1,by have:=uh H1;omega,by have:=uh HL;omega,by go_num,fun j h1 h2=>by
     by_cases e:j=k
     ·rw [e];exact uh hq'
     ·exact uh hno' j h1 (by omega)⟩
    case measure=>have:=uh HL;simp [intOf];omega
  ·have hge:¬(k:Int)≤4:=by omega
   have he:Hid (Nv.beside DX DY=0):=Nv.from_none 4 1 fun j h1 h2=>uh hno' j h1 (by omega)
   go_wp2
   go_ret
   exact ⟨rti (uh he).symm,rfl⟩


open Go.RowKit

theorem isFree_any (e:Nat→Int) (w:World):Calls Tryz.prog 142 #[.agg (En.cells e)] w (Says w (.bool (decide (e 0=0)))):=by
 unfold En.cells
 go_enter Tryz.func142,Tryz.ntmps142
 go_wp2
 go_ret
 exact ⟨rfl,World.grownBy_alloc _ _ _⟩

theorem slice_ents (a:Option Addr) (len cap k:Nat) (w:World) (hk:k≤cap) :
  (Instr.slice 26 (.slice a len cap) none (some (.int .i64 (k:Int))) none).run Tryz.prog w=.ok (.slice a k cap) w:=by
 have hs:(sizeOf (Tryz.prog.elem 26)).run Tryz.prog w=.ok 11 w:=by kernel_rfl
 rw [run_slice_h w 26 a len cap (by kernel_rfl) .i64 (k:Int) (by omega) (by omega),hs]
 have e:a.map (fun x=>x.add (0*11))=a:=by
  cases a with
  | none=>rfl
  | some x=>simp [Addr.add]
 simp only [Result.andThen,sliced,e,Int.toNat_natCast,Nat.sub_zero,ite_self]

theorem rows_any (a:Option Addr) (n c:Nat) (w:World) (hn:n≤32) (hc:n≤c) :
  Calls Tryz.prog 141 #[.slice a n c] w fun e w'=>e=.returned (.slice a n c)∧w'=w:=by
 have hs:=fun wx=>slice_ents a n c n wx hc
 have hm:min (n:Int) 32=(n:Int):=by omega
 go_enter Tryz.func141,Tryz.ntmps141
 go_wp2
 go_ret
 exact ⟨rfl,rfl⟩

def En.isRow (n:Nat) (row:Int):Bool:=decide (0≤row∧row<n)

theorem isRow_any (a:Option Addr) (n c:Nat) (row:Int) (w:World) (hn:n≤32) (hc:n≤c) :
  Calls Tryz.prog 145 #[.slice a n c,.int .i64 row] w fun e w'=>e=.returned (.bool (En.isRow n row))∧w'=w:=by
 have hn':(n:Int)≤32:=by omega
 by_cases h:0≤row
 ·by_cases h2:row<(n:Int)
  ·have hd:Hid (En.isRow n row=true):=decide_eq_true (show 0≤row∧row<(n:Int) from ⟨h,h2⟩)
   go_enter Tryz.func145,Tryz.ntmps145
   go_wp2_with (go_at_call 141;refine (rows_any _ _ _ _ hn hc).mono ?_;rintro e w' ⟨rfl,hw⟩;subst w')
   go_ret
   exact ⟨ret_bool (uh hd).symm,rfl⟩
  ·have hd:Hid (En.isRow n row=false):=decide_eq_false (show ¬(0≤row∧row<(n:Int)) by omega)
   go_enter Tryz.func145,Tryz.ntmps145
   go_wp2_with (go_at_call 141;refine (rows_any _ _ _ _ hn hc).mono ?_;rintro e w' ⟨rfl,hw⟩;subst w')
   go_ret
   exact ⟨ret_bool ((decide_eq_false (show ¬row<(n:Int) by omega)).trans (uh hd).symm),rfl⟩
 ·have hd:Hid (En.isRow n row=false):=decide_eq_false (show ¬(0≤row∧row<(n:Int)) by omega)
  go_enter Tryz.func145,Tryz.ntmps145
  go_wp2
  go_ret
  exact ⟨ret_bool (uh hd).symm,rfl⟩

def En.id (n:Nat) (E:Nat→Nat→Int) (row:Int):Int:=if 0≤row∧row<n∧E row.toNat 0≠0 then row+32*E row.toNat 1 else -1

theorem En.id_at {n:Nat} {E:Nat→Nat→Int} {k:Nat} (hk:k<n) (h:E k 0≠0):En.id n E (k:Int)=(k:Int)+32*E k 1:=by
 unfold En.id
 rw [Int.toNat_natCast,if_pos ⟨by omega,by omega,h⟩]

theorem En.id_free {n:Nat} {E:Nat→Nat→Int} {k:Nat} (h:E k 0=0):En.id n E (k:Int)=-1:=by
 unfold En.id
 rw [Int.toNat_natCast,if_neg (by rintro ⟨_,_,h'⟩;exact h' h)]

theorem En.id_out {n:Nat} {E:Nat→Nat→Int} {row:Int} (h:¬(0≤row∧row<n)):En.id n E row=-1:=by
 unfold En.id
 rw [if_neg (by rintro ⟨h1,h2,_⟩;exact h ⟨h1,h2⟩)]

def En.Gens (n:Nat) (E:Nat→Nat→Int):Prop:=∀i,i<n→0≤E i 1∧E i 1≤255

set_option maxHeartbeats 800000 in
theorem id_any (b n c:Nat) (E:Nat→Nat→Int) (row:Int) (w:World) (hE:Ents w b n E) (hc:n≤c) (hG:En.Gens n E) :
  Calls Tryz.prog 154 #[.slice (some ⟨b,0,none⟩) n c,.int .i64 row] w (Says w (.int .i64 (En.id n E row))):=by
 have hn:=hE.1
 have cr:∀x:World,Calls Tryz.prog 145 #[.slice (some ⟨b,0,none⟩) n c,.int .i64 row] x fun e w'=>e=.returned (.bool (En.isRow n row))∧w'=x:=fun x=>isRow_any _ n c row x hn hc
 by_cases h:0≤row∧row<(n:Int)
 ·obtain ⟨k,rfl⟩:∃k:Nat,row=(k:Int):=⟨row.toNat,by omega⟩
  have hk:k<n:=by omega
  have hk':(k:Int)<(n:Int):=by omega
  have hk32:(k:Int)<32:=by omega
  obtain ⟨g0,g1⟩:=hG k hk
  have hd:En.isRow n (k:Int)=true:=decide_eq_true h
  rw [hd] at cr
  have u:∀j,j<11→w.cell? ⟨b,k*11+j,none⟩=some (.int .i64 (E k j)):=fun j hj=>hE.2.2 k j hk hj
  have u0:=u 0 (by omega)
  rw [Nat.add_zero] at u0
  have u1:=u 1 (by omega)
  have u2:=u 2 (by omega)
  have u3:=u 3 (by omega)
  have u4:=u 4 (by omega)
  have u5:=u 5 (by omega)
  have u6:=u 6 (by omega)
  have u7:=u 7 (by omega)
  have u8:=u 8 (by omega)
  have u9:=u 9 (by omega)
  have u10:=u 10 (by omega)
  have hE':=hide hE
  have cf:=hide (isFree_any (E k) w)
  have keep:Hid (∀x,w.grownBy x none→x.cell? ⟨b,k*11+1,none⟩=some (.int .i64 (E k 1))):=fun x hg=>(hE.on hg).2.2 k 1 hk (by omega)
  clear hE hG hd u h
  by_cases hf:E k 0=0
  ·have he:=hide (En.id_free (n:=n) hf)
   have hfd:=hide (decide_eq_true hf)
   clear hf
   go_enter Tryz.func154,Tryz.ntmps154
   go_wp2_with (go_at_call 145;refine (cr _).mono ?_;rintro e w' ⟨rfl,hw⟩;subst w')
   refine (uh cf).mono ?_
   rintro e w1 ⟨rfl,hg⟩
   rw [uh hfd]
   have hg':=hide hg
   clear u0 u1 u2 u3 u4 u5 u6 u7 u8 u9 u10 hg
   go_wp2
   go_ret
   exact ⟨rti (uh he).symm,uh hg'⟩
  ·have he:=hide (En.id_at hk hf)
   have hfd:=hide (decide_eq_false hf)
   clear hf
   go_enter Tryz.func154,Tryz.ntmps154
   go_wp2_with (go_at_call 145;refine (cr _).mono ?_;rintro e w' ⟨rfl,hw⟩;subst w')
   refine (uh cf).mono ?_
   rintro e w1 ⟨rfl,hg⟩
   rw [uh hfd]
   have u:=uh keep w1 hg
   have hg':=hide hg
   clear u0 u1 u2 u3 u4 u5 u6 u7 u8 u9 u10 hg
   go_wp2
   go_ret
   exact ⟨rti (uh he).symm,uh hg'⟩
 ·have he:=hide (En.id_out (E:=E) h)
  have hd:En.isRow n row=false:=decide_eq_false h
  rw [hd] at cr
  clear hE hG hd h
  go_enter Tryz.func154,Tryz.ntmps154
  go_wp2_with (go_at_call 145;refine (cr _).mono ?_;rintro e w' ⟨rfl,hw⟩;subst w')
  go_ret
  exact ⟨rti (uh he).symm,World.grownBy.refl _ _⟩


open Go.RowKit

def En.firstFrom (q:Nat→Bool):Nat→Nat→Int
 | 0,_=>-1
 | m+1,k=>if q k=true then (k:Int) else En.firstFrom q m (k+1)

def En.first (q:Nat→Bool) (n:Nat):Int:=En.firstFrom q n 0

theorem En.from_hit {q:Nat→Bool}:∀(m k i:Nat),(∀j,i≤j→j<k→q j=false)→q k=true→i≤k→k<i+m→En.firstFrom q m i=(k:Int)
  | 0,k,i,_,_,h1,h2=>by omega
  | m + 1, k, i, hno, hk, h1, h2 => by
      unfold En.firstFrom
      by_cases e:i=k
      · rw [e,if_pos hk]
      · rw [if_neg (by rw [hno i (Nat.le_refl _) (by omega)];simp),En.from_hit m k (i+1) (fun j hj1 hj2=>hno j (by omega) hj2) hk (by omega) (by omega)]

theorem En.from_none {q:Nat→Bool}:∀(m i:Nat),(∀j,i≤j→j<i+m→q j=false)→En.firstFrom q m i=-1
  | 0,_,_=>rfl
  | m + 1, i, hno => by
      unfold En.firstFrom
      rw [if_neg (by rw [hno i (Nat.le_refl _) (by omega)];simp),En.from_none m (i+1) (fun j hj1 hj2=>hno j (by omega) (by omega))]

theorem En.first_hit {q:Nat→Bool} {n k:Nat} (hno:∀j,j<k→q j=false) (hk:q k=true) (hn:k<n):En.first q n=(k:Int) :=
 En.from_hit n k 0 (fun j _ h=>hno j h) hk (by omega) (by omega)

theorem En.first_none {q:Nat→Bool} {n:Nat} (hno:∀j,j<n→q j=false):En.first q n=-1 :=
 En.from_none n 0 (fun j _ h=>hno j (by omega))

theorem En.first_cases (q:Nat→Bool) (n:Nat):(En.first q n=-1∧∀j,j<n→q j=false)∨∃k,k<n∧En.first q n=(k:Int)∧q k=true∧∀j,j<k→q j=false:=by
 induction n with
 | zero=>exact .inl ⟨rfl,fun j h=>by omega⟩
 | succ n ih =>
  rcases ih with ⟨_,hno⟩ | ⟨k,hk,_,hq,hno⟩
  ·by_cases hq:q n=true
   ·exact .inr ⟨n,by omega,En.first_hit hno hq (by omega),hq,hno⟩
   ·have h:∀j,j<n+1→q j=false:=fun j hj=>by
     by_cases e:j=n
     ·rw [e];simpa using hq
     ·exact hno j (by omega)
    exact .inl ⟨En.first_none h,h⟩
  ·exact .inr ⟨k,by omega,En.first_hit hno hq (by omega),hq,hno⟩

theorem En.first_congr {q r:Nat→Bool} {n:Nat} (h:∀j,j<n→q j=r j):En.first q n=En.first r n:=by
 rcases En.first_cases q n with ⟨h1,hno⟩ | ⟨k,hk,h1,hq,hno⟩
 ·rw [h1,En.first_none (fun j hj=>(h j hj).symm.trans (hno j hj))]
 ·rw [h1,En.first_hit (fun j hj=>(h j (by omega)).symm.trans (hno j hj)) ((h k hk).symm.trans hq) hk]

def En.freeQ (E:Nat→Nat→Int):Nat→Bool:=fun i=>decide (E i 0=0)
def En.atQ (E:Nat→Nat→Int) (x y:Int):Nat→Bool:=fun i=>!(decide (E i 0=0)) && (decide (E i 3=x) && decide (E i 4=y))
def En.heroQ (E:Nat→Nat→Int) (s:Int):Nat→Bool:=fun i=>decide (E i 0=1) && decide (E i 2=s)
def En.ofQ (E:Nat→Nat→Int) (id:Int):Nat→Bool:=fun i=>!(decide (E i 0=0)) && decide ((i:Int)+32*E i 1=id)

theorem Ents.row {w:World} {b n:Nat} {E:Nat→Nat→Int} (h:Ents w b n E) {k:Nat} (hk:k<n) :
  w.cell? ⟨b,k*11,none⟩=some (.int .i64 (E k 0))∧w.cell? ⟨b,k*11+1,none⟩=some (.int .i64 (E k 1))∧w.cell? ⟨b,k*11+2,none⟩=some (.int .i64 (E k 2))∧w.cell? ⟨b,k*11+3,none⟩=some (.int .i64 (E k 3)) ∧
  w.cell? ⟨b,k*11+4,none⟩=some (.int .i64 (E k 4))∧w.cell? ⟨b,k*11+5,none⟩=some (.int .i64 (E k 5))∧w.cell? ⟨b,k*11+6,none⟩=some (.int .i64 (E k 6))∧w.cell? ⟨b,k*11+7,none⟩=some (.int .i64 (E k 7)) ∧
  w.cell? ⟨b,k*11+8,none⟩=some (.int .i64 (E k 8))∧w.cell? ⟨b,k*11+9,none⟩=some (.int .i64 (E k 9))∧w.cell? ⟨b,k*11+10,none⟩=some (.int .i64 (E k 10)) :=
 ⟨h.2.2 k 0 hk (by omega),h.2.2 k 1 hk (by omega),h.2.2 k 2 hk (by omega),h.2.2 k 3 hk (by omega),h.2.2 k 4 hk (by omega),h.2.2 k 5 hk (by omega),h.2.2 k 6 hk (by omega),h.2.2 k 7 hk (by omega),h.2.2 k 8 hk (by omega),h.2.2 k 9 hk (by omega),h.2.2 k 10 hk (by omega)⟩

theorem atC_any (b n c p0 p1 p2 k:Nat) (E:Nat→Nat→Int) (x y:Int) (w:World) (hE:Ents w b n E) (hk:k<n) (hp0:w.cell? ⟨p0,0,none⟩=some (.slice (some ⟨b,0,none⟩) n c)) (hp1:w.cell? ⟨p1,0,none⟩=some (.int .i64 x)) (hp2:w.cell? ⟨p2,0,none⟩=some (.int .i64 y)) :
  Calls Tryz.prog 140 #[.int .i64 (k:Int),.pointer (some ⟨p0,0,none⟩),.pointer (some ⟨p1,0,none⟩),.pointer (some ⟨p2,0,none⟩)] w (Says w (.bool (decide (E k 3=x) && decide (E k 4=y)))):=by
 obtain ⟨_,_,_,u3,u4,_⟩:=hE.row hk
 have hk':(k:Int)<(n:Int):=by omega
 have hdr:Hid (∀m,w.grownBy (w.drewN m) none):=fun m=>gdw (World.grownBy.refl _ _) m
 clear hE
 by_cases h3:E k 3=x
 ·by_cases h4:E k 4=y
  ·have hd:=hide (show (decide (E k 3=x) && decide (E k 4=y))=true by simp [h3,h4])
   rw [h3] at u3
   rw [h4] at u4
   clear h3 h4
   go_enter Tryz.func140,Tryz.ntmps140
   go_wp2_with fail
   go_quiet (fail)
   go_wp2
   go_ret
   exact ⟨ret_bool (uh hd).symm,uh hdr _⟩
  ·have hd:=hide (show (decide (E k 3=x) && decide (E k 4=y))=false by simp [h4])
   rw [h3] at u3
   clear h3
   go_enter Tryz.func140,Tryz.ntmps140
   go_wp2_with fail
   go_quiet (fail)
   go_wp2
   go_ret
   exact ⟨ret_bool (uh hd).symm,uh hdr _⟩
 ·have hd:=hide (show (decide (E k 3=x) && decide (E k 4=y))=false by simp [h3])
  go_enter Tryz.func140,Tryz.ntmps140
  go_wp2_with fail
  go_quiet (fail)
  go_wp2
  go_ret
  exact ⟨ret_bool (uh hd).symm,uh hdr _⟩

theorem heroC_any (b n c p0 p1 k:Nat) (E:Nat→Nat→Int) (seat:Int) (w:World) (hE:Ents w b n E) (hk:k<n) (hp0:w.cell? ⟨p0,0,none⟩=some (.slice (some ⟨b,0,none⟩) n c)) (hp1:w.cell? ⟨p1,0,none⟩=some (.int .i64 seat)) :
  Calls Tryz.prog 109 #[.int .i64 (k:Int),.pointer (some ⟨p0,0,none⟩),.pointer (some ⟨p1,0,none⟩)] w (Says w (.bool (decide (E k 0=1) && decide (E k 2=seat)))):=by
 obtain ⟨u0,_,u2,_⟩:=hE.row hk
 have hk':(k:Int)<(n:Int):=by omega
 have hdr:Hid (∀m,w.grownBy (w.drewN m) none):=fun m=>gdw (World.grownBy.refl _ _) m
 clear hE
 by_cases h1:E k 0=1
 ·have hd:=hide (decide_eq_true h1)
  have h1':(E k 0 == 1)=true:=by simp [h1]
  clear h1
  go_enter Tryz.func109,Tryz.ntmps109
  go_wp2_with fail
  go_quiet (fail)
  go_wp2
  go_ret
  exact ⟨ret_bool (by rw [uh hd,Bool.true_and];rfl),uh hdr _⟩
 ·have hd:=hide (decide_eq_false h1)
  have h1':(E k 0 == 1)=false:=by simp [h1]
  clear h1
  go_enter Tryz.func109,Tryz.ntmps109
  go_wp2_with fail
  go_quiet (fail)
  go_wp2
  go_ret
  exact ⟨ret_bool (by rw [uh hd];simp),uh hdr _⟩


open Go.RowKit

theorem En.atQ_free {E:Nat→Nat→Int} {x y:Int} {k:Nat} (h:E k 0=0):En.atQ E x y k=false:=by simp [En.atQ,h]
theorem En.atQ_some {E:Nat→Nat→Int} {x y:Int} {k:Nat} (h:¬E k 0=0):En.atQ E x y k=(decide (E k 3=x) && decide (E k 4=y)):=by simp [En.atQ,h]
theorem En.heroQ_free {E:Nat→Nat→Int} {s:Int} {k:Nat} (h:E k 0=0):En.heroQ E s k=false:=by simp [En.heroQ,h]
theorem En.heroQ_some {E:Nat→Nat→Int} {s:Int} {k:Nat} (_:¬E k 0=0):En.heroQ E s k=(decide (E k 0=1) && decide (E k 2=s)):=rfl
theorem En.ofQ_free {E:Nat→Nat→Int} {id:Int} {k:Nat} (h:E k 0=0):En.ofQ E id k=false:=by simp [En.ofQ,h]
theorem En.ofQ_some {E:Nat→Nat→Int} {id:Int} {k:Nat} (h:¬E k 0=0):En.ofQ E id k=decide ((k:Int)+32*E k 1=id):=by simp [En.ofQ,h]

set_option maxHeartbeats 1600000 in
theorem lowAt_any (b n c p0 p1 p2:Nat) (E:Nat→Nat→Int) (x y:Int) (w:World) (hE:Ents w b n E) (hc:n≤c) (hp0:w.cell? ⟨p0,0,none⟩=some (.slice (some ⟨b,0,none⟩) n c)) (hp1:w.cell? ⟨p1,0,none⟩=some (.int .i64 x)) (hp2:w.cell? ⟨p2,0,none⟩=some (.int .i64 y)) (hl0:p0<w.heap.size) (hl1:p1<w.heap.size) (hl2:p2<w.heap.size) :
  Calls Tryz.prog 108 #[.slice (some ⟨b,0,none⟩) n c,.func (.func 140) #[] #[.pointer (some ⟨p0,0,none⟩),.pointer (some ⟨p1,0,none⟩),.pointer (some ⟨p2,0,none⟩)]] w (Says w (.int .i64 (En.first (En.atQ E x y) n))):=by
 have hn:=hE.1
 have cd:Hid (∀wx,w.grownBy wx none→∀k:Nat,k<n→Calls Tryz.prog 140 #[.int .i64 (k:Int),.pointer (some ⟨p0,0,none⟩),.pointer (some ⟨p1,0,none⟩),.pointer (some ⟨p2,0,none⟩)] wx (Says wx (.bool (decide (E k 3=x) && decide (E k 4=y))))):=fun wx hg k hk =>
  atC_any b n c p0 p1 p2 k E x y wx (hE.on hg) hk ((gce hg p0 0 hl0 (by simp)).trans hp0) ((gce hg p1 0 hl1 (by simp)).trans hp1) ((gce hg p2 0 hl2 (by simp)).trans hp2)
 have hE':=hide hE
 clear hE hp0 hl0 hp1 hl1 hp2 hl2
 go_enter Tryz.func108,Tryz.ntmps108
 go_wp2_with (go_at_call 141;refine (rows_any _ _ _ _ hn hc).mono ?_;rintro e w' ⟨rfl,hw⟩;subst w')
 go_loopw [10] (fun i wr=>∃k:Nat,k≤n∧i=.int .i64 (k:Int)∧(∀j,j<k→En.atQ E x y j=false)∧w.grownBy wr none) (fun i _=>40 - (intOf i).toNat)
 case atStart=>exact ⟨0,by omega,rfl,fun j hj=>by omega,World.grownBy.refl _ _⟩
 case round =>
  obtain ⟨k,hk,rfl,hno,hgr⟩:=hrel
  have hno':=hide hno
  have hgr':=hide hgr
  clear hno hgr
  by_cases hlt:k<n
  ·obtain ⟨u0,u1,u2,u3,u4,u5,u6,u7,u8,u9,u10⟩:=((uh hE').on (uh hgr')).row hlt
   have hlt':(k:Int)<(n:Int):=by omega
   have HL:=hide hlt
   clear hlt
   go_wp2_with fail
   refine (isFree_any (E k) _).mono ?_
   rintro e w1 ⟨rfl,hg0⟩
   have hg1:=gtr (uh hgr') (gtr (World.grownBy_alloc _ _ _) hg0)
   have hgr1:=hide hg1
   clear u0 u1 u2 u3 u4 u5 u6 u7 u8 u9 u10 hg0
   by_cases hf:E k 0=0
   ·have hq:Hid (En.atQ E x y k=false):=En.atQ_free hf
    rw [decide_eq_true hf]
    clear hf hg1
    go_wp2
    go_roundw
    case rel=>exact ⟨k+1,by have:=uh HL;omega,by go_num,fun j hj=>by
     by_cases e:j=k
     ·rw [e];exact uh hq
     ·exact uh hno' j (by omega),uh hgr1⟩
    case measure=>simp [intOf];omega
   ·have hq:Hid (En.atQ E x y k=(decide (E k 3=x) && decide (E k 4=y))):=En.atQ_some hf
    have hf0:=hide hf
    rw [decide_eq_false hf]
    have cdk:=hide (uh cd w1 hg1 k (uh HL))
    obtain ⟨r,hr⟩:∃r:Bool,r=(decide (E k 3=x) && decide (E k 4=y)):=⟨_,rfl⟩
    rw [←hr] at cdk hq
    clear hf hg1 hr
    go_wp2_with fail
    refine (uh cdk).mono ?_
    rintro e w2 ⟨rfl,hg2⟩
    have hgr2:=hide (gtr (uh hgr1) hg2)
    clear hg2 cdk
    cases r
    ·go_wp2
     go_roundw
     case rel=>exact ⟨k+1,by have:=uh HL;omega,by go_num,fun j hj=>by
      by_cases e:j=k
      ·rw [e];exact uh hq
      ·exact uh hno' j (by omega),uh hgr2⟩
     case measure=>simp [intOf];omega
    ·have he:=hide (En.first_hit (uh hno') (uh hq) (uh HL))
     go_wp2
     go_ret
     exact ⟨rti (uh he).symm,uh hgr2⟩
  ·have hge:¬(k:Int)<(n:Int):=by omega
   have he:=hide (En.first_none (n:=n) (fun j hj=>uh hno' j (by omega)))
   go_wp2
   go_ret
   exact ⟨rti (uh he).symm,uh hgr'⟩

set_option maxHeartbeats 1600000 in
theorem lowHero_any (b n c p0 p1:Nat) (E:Nat→Nat→Int) (seat:Int) (w:World) (hE:Ents w b n E) (hc:n≤c) (hp0:w.cell? ⟨p0,0,none⟩=some (.slice (some ⟨b,0,none⟩) n c)) (hp1:w.cell? ⟨p1,0,none⟩=some (.int .i64 seat)) (hl0:p0<w.heap.size) (hl1:p1<w.heap.size) :
  Calls Tryz.prog 108 #[.slice (some ⟨b,0,none⟩) n c,.func (.func 109) #[] #[.pointer (some ⟨p0,0,none⟩),.pointer (some ⟨p1,0,none⟩)]] w (Says w (.int .i64 (En.first (En.heroQ E seat) n))):=by
 have hn:=hE.1
 have cd:Hid (∀wx,w.grownBy wx none→∀k:Nat,k<n→Calls Tryz.prog 109 #[.int .i64 (k:Int),.pointer (some ⟨p0,0,none⟩),.pointer (some ⟨p1,0,none⟩)] wx (Says wx (.bool (decide (E k 0=1) && decide (E k 2=seat))))):=fun wx hg k hk =>
  heroC_any b n c p0 p1 k E seat wx (hE.on hg) hk ((gce hg p0 0 hl0 (by simp)).trans hp0) ((gce hg p1 0 hl1 (by simp)).trans hp1)
 have hE':=hide hE
 clear hE hp0 hl0 hp1 hl1
 go_enter Tryz.func108,Tryz.ntmps108
 go_wp2_with (go_at_call 141;refine (rows_any _ _ _ _ hn hc).mono ?_;rintro e w' ⟨rfl,hw⟩;subst w')
 go_loopw [10] (fun i wr=>∃k:Nat,k≤n∧i=.int .i64 (k:Int)∧(∀j,j<k→En.heroQ E seat j=false)∧w.grownBy wr none) (fun i _=>40 - (intOf i).toNat)
 case atStart=>exact ⟨0,by omega,rfl,fun j hj=>by omega,World.grownBy.refl _ _⟩
 case round =>
  obtain ⟨k,hk,rfl,hno,hgr⟩:=hrel
  have hno':=hide hno
  have hgr':=hide hgr
  clear hno hgr
  by_cases hlt:k<n
  ·obtain ⟨u0,u1,u2,u3,u4,u5,u6,u7,u8,u9,u10⟩:=((uh hE').on (uh hgr')).row hlt
   have hlt':(k:Int)<(n:Int):=by omega
   have HL:=hide hlt
   clear hlt
   go_wp2_with fail
   refine (isFree_any (E k) _).mono ?_
   rintro e w1 ⟨rfl,hg0⟩
   have hg1:=gtr (uh hgr') (gtr (World.grownBy_alloc _ _ _) hg0)
   have hgr1:=hide hg1
   clear u0 u1 u2 u3 u4 u5 u6 u7 u8 u9 u10 hg0
   by_cases hf:E k 0=0
   ·have hq:Hid (En.heroQ E seat k=false):=En.heroQ_free hf
    rw [decide_eq_true hf]
    clear hf hg1
    go_wp2
    go_roundw
    case rel=>exact ⟨k+1,by have:=uh HL;omega,by go_num,fun j hj=>by
     by_cases e:j=k
     ·rw [e];exact uh hq
     ·exact uh hno' j (by omega),uh hgr1⟩
    case measure=>simp [intOf];omega
   ·have hq:Hid (En.heroQ E seat k=(decide (E k 0=1) && decide (E k 2=seat))):=En.heroQ_some hf
    have hf0:=hide hf
    rw [decide_eq_false hf]
    have cdk:=hide (uh cd w1 hg1 k (uh HL))
    obtain ⟨r,hr⟩:∃r:Bool,r=(decide (E k 0=1) && decide (E k 2=seat)):=⟨_,rfl⟩
    rw [←hr] at cdk hq
    clear hf hg1 hr
    go_wp2_with fail
    refine (uh cdk).mono ?_
    rintro e w2 ⟨rfl,hg2⟩
    have hgr2:=hide (gtr (uh hgr1) hg2)
    clear hg2 cdk
    cases r
    ·go_wp2
     go_roundw
     case rel=>exact ⟨k+1,by have:=uh HL;omega,by go_num,fun j hj=>by
      by_cases e:j=k
      ·rw [e];exact uh hq
      ·exact uh hno' j (by omega),uh hgr2⟩
     case measure=>simp [intOf];omega
    ·have he:=hide (En.first_hit (uh hno') (uh hq) (uh HL))
     go_wp2
     go_ret
     exact ⟨rti (uh he).symm,uh hgr2⟩
  ·have hge:¬(k:Int)<(n:Int):=by omega
   have he:=hide (En.first_none (n:=n) (fun j hj=>uh hno' j (by omega)))
   go_wp2
   go_ret
   exact ⟨rti (uh he).symm,uh hgr'⟩

theorem entAt_any (b n c:Nat) (E:Nat→Nat→Int) (x y:Int) (w:World) (hE:Ents w b n E) (hc:n≤c) :
  Calls Tryz.prog 102 #[.slice (some ⟨b,0,none⟩) n c,.int .i64 x,.int .i64 y] w (Says w (.int .i64 (En.first (En.atQ E x y) n))):=by
 obtain ⟨W,hW⟩:∃W,W=(((w.alloc (.cells #[.slice (some ⟨b,0,none⟩) n c] 26)).alloc (.cells #[.int .i64 x] 3)).alloc (.cells #[.int .i64 y] 3)):=⟨_,rfl⟩
 have hg:w.grownBy W none:=by
  rw [hW]
  repeat (refine gal ?_ _)
  exact World.grownBy.refl _ _
 have hs:W.heap.size=w.heap.size+3:=by rw [hW];simp
 have q0:W.cell? ⟨w.heap.size,0,none⟩=some (.slice (some ⟨b,0,none⟩) n c):=by rw [hW];exact cell_past _ (by simp;omega) (cell_past _ (by simp) (cell_boxed _ _ _ _ rfl))
 have q1:W.cell? ⟨w.heap.size+1,0,none⟩=some (.int .i64 x):=by rw [hW];exact cell_past _ (by simp) (cell_boxed _ _ _ _ (by simp))
 have q2:W.cell? ⟨w.heap.size+2,0,none⟩=some (.int .i64 y):=by rw [hW];exact cell_boxed _ _ _ _ (by simp)
 have hl:=hide (lowAt_any b n c w.heap.size (w.heap.size+1) (w.heap.size+2) E x y W (hE.on hg) hc q0 q1 q2 (by omega) (by omega) (by omega))
 have hg':=hide hg
 have hW':=hide hW
 clear hE hW hg hs q0 q1 q2
 go_enter Tryz.func102,Tryz.ntmps102
 go_wp2_with fail
 rw [←uh hW']
 refine (uh hl).mono ?_
 rintro e w1 ⟨rfl,hg1⟩
 have hg2:=hide (gtr (uh hg') hg1)
 clear hg1
 go_wp2
 go_ret
 exact ⟨rfl,uh hg2⟩

theorem hero_any (b n c:Nat) (E:Nat→Nat→Int) (seat:Int) (w:World) (hE:Ents w b n E) (hc:n≤c) :
  Calls Tryz.prog 68 #[.slice (some ⟨b,0,none⟩) n c,.int .i64 seat] w (Says w (.int .i64 (En.first (En.heroQ E seat) n))):=by
 obtain ⟨W,hW⟩:∃W,W=((w.alloc (.cells #[.slice (some ⟨b,0,none⟩) n c] 26)).alloc (.cells #[.int .i64 seat] 3)):=⟨_,rfl⟩
 have hg:w.grownBy W none:=by
  rw [hW]
  repeat (refine gal ?_ _)
  exact World.grownBy.refl _ _
 have hs:W.heap.size=w.heap.size+2:=by rw [hW];simp
 have q0:W.cell? ⟨w.heap.size,0,none⟩=some (.slice (some ⟨b,0,none⟩) n c):=by rw [hW];simp
 have q1:W.cell? ⟨w.heap.size+1,0,none⟩=some (.int .i64 seat):=by rw [hW];simp
 have hl:=hide (lowHero_any b n c w.heap.size (w.heap.size+1) E seat W (hE.on hg) hc q0 q1 (by omega) (by omega))
 have hg':=hide hg
 have hW':=hide hW
 clear hE hW hg hs q0 q1
 go_enter Tryz.func68,Tryz.ntmps68
 go_wp2_with fail
 rw [←uh hW']
 refine (uh hl).mono ?_
 rintro e w1 ⟨rfl,hg1⟩
 have hg2:=hide (gtr (uh hg') hg1)
 clear hg1
 go_wp2
 go_ret
 exact ⟨rfl,uh hg2⟩

set_option maxHeartbeats 800000 in
theorem entRefAt_same (b n c:Nat) (E:Nat→Nat→Int) (x y:Int) (w:World) (hE:Ents w b n E) :
  Calls Tryz.prog 24 #[.slice (some ⟨b,0,none⟩) n c,.int .i64 x,.int .i64 y] w fun e w'=>e=.returned (.int .i64 (En.first (En.atQ E x y) n))∧w'=w:=by
 have hn:=hE.1
 have hE':=hide hE
 skip
 clear hE
 go_enter Tryz.func24,Tryz.ntmps24
 go_wp2_with fail
 go_loop [7] (fun i=>∃k:Nat,k≤n∧i=.int .i64 (k:Int)∧∀j,j<k→En.atQ E x y j=false) (fun i=>40 - (intOf i).toNat)
 case atStart=>exact ⟨0,by omega,rfl,fun j hj=>by omega⟩
 case round =>
  obtain ⟨k,hk,rfl,hno⟩:=hrel
  have hno':=hide hno
  clear hno
  by_cases hlt:k<n
  ·obtain ⟨u0,_,_,u3,u4,_⟩:=(uh hE').row hlt
   have hlt':(k:Int)<(n:Int):=by omega
   have HL:=hide hlt
   skip
   clear hlt
   by_cases hf:E k 0=0
   ·have hq:Hid (En.atQ E x y k=false):=En.atQ_free hf
    go_wp2
    go_round
    case rel=>exact ⟨k+1,by have:=uh HL;omega,by go_num,fun j hj=>by
     by_cases e:j=k
     ·rw [e];exact uh hq
     ·exact uh hno' j (by omega)⟩
    case measure=>simp [intOf];omega
   ·have hf':(E k 0 == 0)=false:=by simp [hf]
    by_cases h3:E k 3=x
    ·by_cases h4:E k 4=y
     ·have hq:Hid (En.atQ E x y k=true):=by show En.atQ E x y k=true;rw [En.atQ_some hf];simp [h3,h4]
      have he:=hide (En.first_hit (uh hno') (uh hq) (uh HL))
      go_wp2
      go_ret
      exact ⟨rti (uh he).symm,rfl⟩
     ·have hq:Hid (En.atQ E x y k=false):=by show En.atQ E x y k=false;rw [En.atQ_some hf];simp [h4]
      have h4':(E k 4 == y)=false:=by simp [h4]
      go_wp2
      go_round
      case rel=>exact ⟨k+1,by have:=uh HL;omega,by go_num,fun j hj=>by
       by_cases e:j=k
       ·rw [e];exact uh hq
       ·exact uh hno' j (by omega)⟩
      case measure=>simp [intOf];omega
    ·have hq:Hid (En.atQ E x y k=false):=by show En.atQ E x y k=false;rw [En.atQ_some hf];simp [h3]
     have h3':(E k 3 == x)=false:=by simp [h3]
     go_wp2
     go_round
     case rel=>exact ⟨k+1,by have:=uh HL;omega,by go_num,fun j hj=>by
      by_cases e:j=k
      ·rw [e];exact uh hq
      ·exact uh hno' j (by omega)⟩
     case measure=>simp [intOf];omega
  ·have hge:¬(k:Int)<(n:Int):=by omega
   have he:=hide (En.first_none (n:=n) (fun j hj=>uh hno' j (by omega)))
   go_wp2
   go_ret
   exact ⟨rti (uh he).symm,rfl⟩

end Go.Proofs.YtbanjoflgoiegaaGreat

namespace Go.Proofs.YtbanjoflgoiegaaGreat

namespace Gd

def row (k w a b:Int):Nat→Int
 | 0=>k
 | 1=>w
 | 2=>a
 | 3=>b
 | _=>0

def gone:Nat→Int:=fun _=>0

def inQ (I:Nat→Nat→Int) (w a b:Int):Nat→Bool:=fun i=>decide (I i 1=w) && (decide (I i 2=a) && decide (I i 3=b))

def find (I:Nat→Nat→Int) (n:Nat) (w a b:Int):Int:=En.first (inQ I w a b) n

def slot (I:Nat→Nat→Int) (n:Nat) (seat:Int):Int:=En.first (fun b=>decide (find I n 2 seat (b:Int)<0)) 4

def hasQ (I:Nat→Nat→Int) (n:Nat) (seat lo hi:Int):Nat→Bool:=fun b=>decide (0≤find I n 2 seat (b:Int)) && (decide (lo≤I (find I n 2 seat (b:Int)).toNat 0) && decide (I (find I n 2 seat (b:Int)).toNat 0≤hi))

def has (I:Nat→Nat→Int) (n:Nat) (seat lo hi:Int):Int:=if 0≤En.first (hasQ I n seat lo hi) 4 then find I n 2 seat (En.first (hasQ I n seat lo hi) 4) else -1

def ware (I:Nat→Nat→Int) (n:Nat):Int:=if 0≤En.first (fun k=>decide (0≤find I n 4 (k:Int) 0)) 3 then find I n 4 (En.first (fun k=>decide (0≤find I n 4 (k:Int) 0)) 3) 0 else -1

theorem find_cases (I:Nat→Nat→Int) (n:Nat) (w a b:Int):(find I n w a b=-1∧∀j,j<n→¬(I j 1=w∧I j 2=a∧I j 3=b))∨∃k:Nat,k<n∧find I n w a b=(k:Int)∧I k 1=w∧I k 2=a∧I k 3=b∧∀j,j<k→¬(I j 1=w∧I j 2=a∧I j 3=b):=by
 have conv:∀j,inQ I w a b j=false→¬(I j 1=w∧I j 2=a∧I j 3=b):=fun j h ⟨h1,h2,h3⟩=>by simp [inQ,h1,h2,h3] at h
 rcases En.first_cases (inQ I w a b) n with ⟨h,hno⟩ | ⟨k,hk,h,hq,hno⟩
 ·exact .inl ⟨h,fun j hj=>conv j (hno j hj)⟩
 ·simp only [inQ,Bool.and_eq_true,decide_eq_true_eq] at hq
  exact .inr ⟨k,hk,h,hq.1,hq.2.1,hq.2.2,fun j hj=>conv j (hno j hj)⟩

theorem find_neg {I:Nat→Nat→Int} {n:Nat} {w a b:Int} (h:find I n w a b<0):find I n w a b=-1∧∀j,j<n→¬(I j 1=w∧I j 2=a∧I j 3=b):=by
 rcases find_cases I n w a b with h' | ⟨k,_,h',_⟩
 ·exact h'
 ·omega

theorem find_pos {I:Nat→Nat→Int} {n:Nat} {w a b:Int} (h:0≤find I n w a b):∃k:Nat,k<n∧find I n w a b=(k:Int)∧I k 1=w∧I k 2=a∧I k 3=b:=by
 rcases find_cases I n w a b with ⟨h',_⟩ | ⟨k,hk,h',h1,h2,h3,_⟩
 ·omega
 ·exact ⟨k,hk,h',h1,h2,h3⟩

theorem slot_pos {I:Nat→Nat→Int} {n:Nat} {seat:Int} (h:0≤slot I n seat):slot I n seat<4∧∀j,j<n→¬(I j 1=2∧I j 2=seat∧I j 3=slot I n seat):=by
 unfold slot at *
 rcases En.first_cases (fun b=>decide (find I n 2 seat (b:Int)<0)) 4 with ⟨h',_⟩ | ⟨k,hk,h',hq,_⟩
 ·omega
 ·rw [h']
  exact ⟨by omega,(find_neg (by simpa using hq)).2⟩

theorem has_pos {I:Nat→Nat→Int} {n:Nat} {seat lo hi:Int} (h:0≤has I n seat lo hi):∃k:Nat,k<n∧has I n seat lo hi=(k:Int)∧I k 1=2∧I k 2=seat∧0≤I k 3∧I k 3<4∧lo≤I k 0∧I k 0≤hi:=by
 unfold has at *
 rcases En.first_cases (hasQ I n seat lo hi) 4 with ⟨h',_⟩ | ⟨b,hb,h',hq,_⟩
 ·rw [if_neg (by omega)] at h;omega
 ·rw [if_pos (by omega),h'] at *
  simp only [hasQ,Bool.and_eq_true,decide_eq_true_eq] at hq
  obtain ⟨k,hk,e,h1,h2,h3⟩:=find_pos hq.1
  rw [e,Int.toNat_natCast] at hq
  exact ⟨k,hk,e,h1,h2,by omega,by omega,hq.2.1,hq.2.2⟩

theorem ware_pos {I:Nat→Nat→Int} {n:Nat} (h:0≤ware I n):∃k:Nat,k<n∧ware I n=(k:Int)∧I k 1=4:=by
 unfold ware at *
 rcases En.first_cases (fun k=>decide (0≤find I n 4 (k:Int) 0)) 3 with ⟨h',_⟩ | ⟨b,hb,h',hq,_⟩
 ·rw [if_neg (by omega)] at h;omega
 ·rw [if_pos (by omega)] at h ⊢
  obtain ⟨k,hk,e,h1,_⟩:=find_pos h
  exact ⟨k,hk,e,h1⟩

def Zero (r:Nat→Int):Prop:=r 0=0∧r 1=0∧r 2=0∧r 3=0

def Placed (c:Nat→Int) (r:Nat→Int):Prop:=1≤r 0∧r 0≤4 ∧
  ((r 1 = 1 ∧ Gr.inB (r 2) (r 3) = true ∧ Gr.walkB (Gr.at 384 c (r 2) (r 3)) = true) ∨
   (r 1 = 2 ∧ 0 ≤ r 2 ∧ r 2 < 4 ∧ 0 ≤ r 3 ∧ r 3 < 4 ∧ r 0 ≠ 4) ∨
   (r 1 = 3 ∧ 0 ≤ r 2 ∧ r 2 < 4 ∧ (r 0 = 2 ∧ r 3 = 0 ∨ r 0 = 3 ∧ r 3 = 1)) ∨
   (r 1=4∧0≤r 2∧r 2<3∧r 3=0∧r 0≠4))

def Share (r s:Nat→Int):Prop:=r 1=s 1∧r 2=s 2∧r 3=s 3

structure Ok (c:Nat→Int) (n:Nat) (I:Nat→Nat→Int):Prop where
 each:∀i,i<n→Zero (I i)∨Placed c (I i)
 one:∀i k,i<n→k<n→i≠k→I i 1≠0→¬Share (I k) (I i)

theorem Placed.where_ne {c r:Nat→Int} (h:Placed c r):r 1≠0:=by
 obtain ⟨_,_,h | h | h | h⟩:=h <;> omega

theorem Ok.put {c:Nat→Int} {n:Nat} {I:Nat→Nat→Int} (h:Ok c n I) {i:Nat} {r:Nat→Int} (hr:Zero r∨(Placed c r∧∀k,k<n→k≠i→¬Share (I k) r)):Ok c n (En.put I i r):=by
 refine ⟨fun k hk=>?_,fun j k hj hk hjk hw hs=>?_⟩
 ·by_cases e:k=i
  ·rw [e,En.put_same]
   exact hr.imp id And.left
  ·rw [En.put_other e];exact h.each k hk
 ·by_cases ej:j=i
  ·rw [ej,En.put_same] at hw hs
   rw [En.put_other (by omega)] at hs
   rcases hr with hz | ⟨_,hno⟩
   ·exact hw hz.2.1
   ·exact hno k hk (by omega) hs
  ·rw [En.put_other ej] at hw hs
   by_cases ek:k=i
   ·rw [ek,En.put_same] at hs
    rcases hr with hz | ⟨_,hno⟩
    ·exact hw (by rw [←hs.1];exact hz.2.1)
    ·exact hno j hj ej ⟨hs.1.symm,hs.2.1.symm,hs.2.2.symm⟩
   ·rw [En.put_other ek] at hs
    exact h.one j k hj hk hjk hw hs

theorem Ok.swap {c:Nat→Int} {n:Nat} {I:Nat→Nat→Int} (h:Ok c n I) {i j:Nat} (hij:i≠j) {r s:Nat→Int} (hi:i<n) (hj:j<n) (hwi:I i 1≠0) (hwj:I j 1≠0) (hr:Placed c r) (hs:Placed c s) (ri:Share r (I j)) (sj:Share s (I i)):Ok c n (En.put (En.put I j s) i r):=by
 have at_i:En.put (En.put I j s) i r i=r:=En.put_same _ _ _
 have at_j:En.put (En.put I j s) i r j=s:=by rw [En.put_other (by omega),En.put_same]
 have at_k:∀k,k≠i→k≠j→En.put (En.put I j s) i r k=I k:=fun k h1 h2=>by rw [En.put_other h1,En.put_other h2]
 have tr:∀{a b d:Nat→Int},Share a b→Share b d→Share a d:=fun h1 h2=>⟨h1.1.trans h2.1,h1.2.1.trans h2.2.1,h1.2.2.trans h2.2.2⟩
 have sy:∀{a b:Nat→Int},Share a b→Share b a:=fun h1=>⟨h1.1.symm,h1.2.1.symm,h1.2.2.symm⟩
 have hrs:¬Share r s:=fun e=>h.one i j hi hj hij hwi (tr (sy ri) (tr e sj))
 have hk:∀k,k<n→k≠i→k≠j→¬Share (I k) r∧¬Share (I k) s:=fun k hk h1 h2 =>
  ⟨fun e=>h.one j k hj hk (by omega) hwj (tr e ri),fun e=>h.one i k hi hk (by omega) hwi (tr e sj)⟩
 refine ⟨fun k hk=>?_,fun a b ha hb hab hw he=>?_⟩
 ·by_cases e1:k=i
  ·rw [e1,at_i];exact .inr hr
  ·by_cases e2:k=j
   ·rw [e2,at_j];exact .inr hs
   ·rw [at_k k e1 e2];exact h.each k hk
 ·by_cases a1:a=i
  ·rw [a1,at_i] at he
   by_cases b2:b=j
   ·rw [b2,at_j] at he;exact hrs (sy he)
   ·rw [at_k b (by omega) b2] at he;exact (hk b hb (by omega) b2).1 he
  ·by_cases a2:a=j
   ·rw [a2,at_j] at he
    by_cases b1:b=i
    ·rw [b1,at_i] at he;exact hrs he
    ·rw [at_k b b1 (by omega)] at he;exact (hk b hb b1 (by omega)).2 he
   ·rw [at_k a a1 a2] at he hw
    by_cases b1:b=i
    ·rw [b1,at_i] at he;exact (hk a ha a1 a2).1 (sy he)
    ·by_cases b2:b=j
     ·rw [b2,at_j] at he;exact (hk a ha a1 a2).2 (sy he)
     ·rw [at_k b b1 b2] at he;exact h.one a b ha hb hab hw he

def pick (I:Nat→Nat→Int) (n:Nat) (seat x y:Int):Nat→Nat→Int :=
 if 0≤find I n 1 x y∧I (find I n 1 x y).toNat 0=4 then En.put I (find I n 1 x y).toNat gone
 else if 0≤find I n 1 x y∧0≤slot I n seat then En.put I (find I n 1 x y).toNat (row (I (find I n 1 x y).toNat 0) 2 seat (slot I n seat))
 else I

def use (I:Nat→Nat→Int) (n:Nat) (seat:Int):Nat→Nat→Int:=if 0≤has I n seat 1 1 then En.put I (has I n seat 1 1).toNat gone else I

def wearAt (I:Nat→Nat→Int) (n:Nat) (seat:Int) (i:Nat):Nat→Nat→Int :=
 if 0≤find I n 3 seat (I i 0 - 2) then En.put (En.put I (find I n 3 seat (I i 0 - 2)).toNat (row (I (find I n 3 seat (I i 0 - 2)).toNat 0) 2 (I (find I n 3 seat (I i 0 - 2)).toNat 2) (I i 3))) i (row (I i 0) 3 (I i 2) (I i 0 - 2))
 else En.put I i (row (I i 0) 3 (I i 2) (I i 0 - 2))

def wear (I:Nat→Nat→Int) (n:Nat) (seat:Int):Nat→Nat→Int:=if 0≤has I n seat 2 3 then wearAt I n seat (has I n seat 2 3).toNat else I

def drop (I:Nat→Nat→Int) (n:Nat) (seat x y:Int):Nat→Nat→Int:=if 0≤has I n seat 1 3∧find I n 1 x y<0 then En.put I (has I n seat 1 3).toNat (row (I (has I n seat 1 3).toNat 0) 1 x y) else I

def buys (I:Nat→Nat→Int) (n:Nat) (seat:Int) (shop:Bool) (gold:Int):Bool:=shop && (decide (5≤gold) && (decide (0≤slot I n seat) && decide (0≤ware I n)))

def buy (I:Nat→Nat→Int) (n:Nat) (seat:Int) (shop:Bool) (gold:Int):Nat→Nat→Int:=if buys I n seat shop gold=true then En.put I (ware I n).toNat (row (I (ware I n).toNat 0) 2 seat (slot I n seat)) else I

def act (I:Nat→Nat→Int) (n:Nat) (seat x y:Int) (shop:Bool) (gold input:Int):Nat→Nat→Int :=
 if input=5 then pick I n seat x y else if input=6 then use I n seat else if input=7 then wear I n seat else if input=8 then drop I n seat x y else if input=10 then buy I n seat shop gold else I

theorem Ok.of {c:Nat→Int} {n:Nat} {I:Nat→Nat→Int} (h:Ok c n I) {k:Nat} (hk:k<n) (hw:I k 1≠0):Placed c (I k):=by
 rcases h.each k hk with hz | hp
 ·exact absurd hz.2.1 hw
 ·exact hp

theorem zero_gone:Zero gone:=⟨rfl,rfl,rfl,rfl⟩

theorem Ok.pick {c:Nat→Int} {n:Nat} {I:Nat→Nat→Int} (h:Ok c n I) {seat x y:Int} (s0:0≤seat) (s4:seat<4):Ok c n (pick I n seat x y):=by
 unfold Gd.pick
 split
 ·exact h.put (.inl zero_gone)
 ·rename_i hg
  split
  ·rename_i hf
   obtain ⟨k,hk,e,h1,h2,h3⟩:=find_pos hf.1
   obtain ⟨f4,hno⟩:=slot_pos hf.2
   have hp:=h.of hk (by omega)
   have hg':I k 0≠4:=fun e4=>hg ⟨hf.1,by rw [e,Int.toNat_natCast];exact e4⟩
   rw [e,Int.toNat_natCast]
   refine h.put (.inr ⟨⟨hp.1,hp.2.1,.inr (.inl ⟨rfl,s0,s4,hf.2,f4,hg'⟩)⟩,fun j hj _ hs=>hno j hj ⟨hs.1,hs.2.1,hs.2.2⟩⟩)
  ·exact h

theorem Ok.use {c:Nat→Int} {n:Nat} {I:Nat→Nat→Int} (h:Ok c n I) (seat:Int):Ok c n (use I n seat):=by
 unfold Gd.use
 split
 ·exact h.put (.inl zero_gone)
 ·exact h

theorem Ok.drop {c:Nat→Int} {n:Nat} {I:Nat→Nat→Int} (h:Ok c n I) {seat x y:Int} (hin:Gr.inB x y=true) (hw:Gr.walkB (Gr.at 384 c x y)=true):Ok c n (drop I n seat x y):=by
 unfold Gd.drop
 split
 ·rename_i hf
  obtain ⟨k,hk,e,h1,h2,h3,h4,k1,k3⟩:=has_pos hf.1
  rw [e,Int.toNat_natCast]
  refine h.put (.inr ⟨⟨k1,by show I k 0≤4;omega,.inl ⟨rfl,hin,hw⟩⟩,fun j hj _ hs=>(find_neg hf.2).2 j hj ⟨hs.1,hs.2.1,hs.2.2⟩⟩)
 ·exact h

theorem Ok.buy {c:Nat→Int} {n:Nat} {I:Nat→Nat→Int} (h:Ok c n I) {seat:Int} (s0:0≤seat) (s4:seat<4) (shop:Bool) (gold:Int):Ok c n (buy I n seat shop gold):=by
 unfold Gd.buy
 split
 ·rename_i hb
  simp only [buys,Bool.and_eq_true,decide_eq_true_eq] at hb
  obtain ⟨_,_,hs,hw⟩:=hb
  obtain ⟨k,hk,e,h1⟩:=ware_pos hw
  obtain ⟨f4,hno⟩:=slot_pos hs
  rw [e,Int.toNat_natCast]
  have hp:=h.of hk (by omega)
  have hg:I k 0≠4:=by
   obtain ⟨_,_,h' | h' | h' | h'⟩:=hp <;> omega
  refine h.put (.inr ⟨⟨hp.1,hp.2.1,.inr (.inl ⟨rfl,s0,s4,hs,f4,hg⟩)⟩,fun j hj _ hs=>hno j hj ⟨hs.1,hs.2.1,hs.2.2⟩⟩)
 ·exact h

theorem Ok.wear {c:Nat→Int} {n:Nat} {I:Nat→Nat→Int} (h:Ok c n I) {seat:Int} (s0:0≤seat) (s4:seat<4):Ok c n (wear I n seat):=by
 unfold Gd.wear
 split
 ·rename_i hf
  obtain ⟨k,hk,e,h1,h2,h3,h4,k2,k3⟩:=has_pos hf
  rw [e,Int.toNat_natCast]
  unfold wearAt
  have hr:Placed c (row (I k 0) 3 (I k 2) (I k 0 - 2)):=⟨by show 1≤I k 0;omega,by show I k 0≤4;omega,.inr (.inr (.inl ⟨rfl,by show 0≤I k 2;omega,by show I k 2<4;omega,by
   show I k 0=2∧I k 0 - 2=0∨I k 0=3∧I k 0 - 2=1
   omega⟩))⟩
  split
  ·rename_i hw
   obtain ⟨j,hj,ej,j1,j2,j3⟩:=find_pos hw
   rw [ej,Int.toNat_natCast]
   have hpj:=h.of hj (by omega)
   have hs:Placed c (row (I j 0) 2 (I j 2) (I k 3)):=⟨hpj.1,hpj.2.1,.inr (.inl ⟨rfl,by show 0≤I j 2;omega,by show I j 2<4;omega,h3,h4,by
    show I j 0≠4
    obtain ⟨_,_,h' | h' | h' | h'⟩:=hpj <;> omega⟩)⟩
   exact h.swap (i:=k) (j:=j) (by rintro rfl;omega) hk hj (by omega) (by omega) hr hs ⟨j1.symm,by show I k 2=I j 2;omega,j3.symm⟩ ⟨h1.symm,by show I j 2=I k 2;omega,rfl⟩
  ·rename_i hw
   have hno:=(find_neg (I:=I) (n:=n) (w:=3) (a:=seat) (b:=I k 0 - 2) (by omega)).2
   exact h.put (.inr ⟨hr,fun j hj _ hs=>hno j hj ⟨hs.1,hs.2.1.trans h2,hs.2.2⟩⟩)
 ·exact h

theorem Ok.act {c:Nat→Int} {n:Nat} {I:Nat→Nat→Int} (h:Ok c n I) {seat x y:Int} (s0:0≤seat) (s4:seat<4) (hin:Gr.inB x y=true) (hw:Gr.walkB (Gr.at 384 c x y)=true) (shop:Bool) (gold input:Int):Ok c n (act I n seat x y shop gold input):=by
 unfold Gd.act
 split
 ·exact h.pick s0 s4
 ·split
  ·exact h.use seat
  ·split
   ·exact h.wear s0 s4
   ·split
    ·exact h.drop hin hw
    ·split
     ·exact h.buy s0 s4 shop gold
     ·exact h

def sweep (I:Nat→Nat→Int) (seat:Int):Nat→Nat→Int:=fun i=>if (I i 1=2∨I i 1=3)∧I i 2=seat then gone else I i

theorem Ok.sweep {c:Nat→Int} {n:Nat} {I:Nat→Nat→Int} (h:Ok c n I) (seat:Int):Ok c n (Gd.sweep I seat):=by
 have z:∀{i},((I i 1=2∨I i 1=3)∧I i 2=seat)→Gd.sweep I seat i=gone:=fun h=>if_pos h
 have o:∀{i},¬((I i 1=2∨I i 1=3)∧I i 2=seat)→Gd.sweep I seat i=I i:=fun h=>if_neg h
 refine ⟨fun i hi=>?_,fun i k hi hk hik hw hs=>?_⟩
 ·by_cases e:(I i 1=2∨I i 1=3)∧I i 2=seat
  ·rw [z e];exact .inl zero_gone
  ·rw [o e];exact h.each i hi
 ·by_cases e:(I i 1=2∨I i 1=3)∧I i 2=seat
  ·rw [z e] at hw;exact hw rfl
  ·rw [o e] at hw hs
   by_cases ek:(I k 1=2∨I k 1=3)∧I k 2=seat
   ·rw [z ek] at hs;exact hw hs.1.symm
   ·rw [o ek] at hs;exact h.one i k hi hk hik hw hs

end Gd

end Go.Proofs.YtbanjoflgoiegaaGreat
