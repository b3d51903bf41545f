import Derived.Test.YtldgbkjceildfaaGreatBy25
import Derived.Test.YtldgbkjceildfaaGreatBy32
namespace Go.Proofs.YtldgbkjceildfaaGreat
open Go.RowKit

theorem Sn.num_no {s g:Nat→Int} (h:¬(0≤s 1∧s 1<1073741824∧1≤s 2∧s 2≤3∧0≤s 3∧s 3≤2)):Sn.headB s g=false:=by
 unfold Sn.headB Sn.numB;rw [decide_eq_false h,Bool.and_false]

def Sn.headC (q:Bool) (m n3 n4:Int):Int:=if q=true then (if m≤5 then (if n3=1∧n4=1 then 0 else 2) else 3) else 1

set_option maxRecDepth 16000 in
set_option maxHeartbeats 6400000 in
theorem refHead11_any (s g c:Nat→Int) (E I:Nat→Nat→Int) (gC gE gI cC cE cI:Nat) (w:World) (hL:Gd.Lists w gC gE gI c E I) :
  Calls Tryz.prog 54 #[.agg (Gd.world s gC gE gI cC cE cI g)] w (Says w (.int .i64 (Sn.headC (Sn.headB s g) (Sn.mx c 383) (Sn.cnt c 3 384) (Sn.cnt c 4 384)))):=by
 obtain ⟨w0,hw0⟩:∃w0,w0=w.alloc (.cells (Gd.world s gC gE gI cC cE cI g) 30):=⟨_,rfl⟩;have hg0:w.grownBy w0 none:=by rw [hw0];exact World.grownBy_alloc _ _ _
 have hB:Hid (Lie w0 w.heap.size 30 11 (Gd.box s gC gE gI cC cE cI g)):=by show Lie w0 _ _ _ _;rw [hw0];exact (Arr.world (heap_alloc_new w _)).lie
 have hL0:=hide (hL.on hg0);have hgr:=hide hg0;have hnum:=hide (fun h=>Sn.num_no (s:=s) (g:=g) h);obtain ⟨A,hA⟩:∃A,Sn.headC (Sn.headB s g) (Sn.mx c 383) (Sn.cnt c 3 384) (Sn.cnt c 4 384)=A:=⟨_,rfl⟩;have hA1:Hid (Sn.headB s g=false→1=A):=fun h=>by rw [←hA,h];rfl
 have hA3:Hid (Sn.headB s g=true→5<Sn.mx c 383→3=A):=fun h h3=>by rw [←hA,h];unfold Sn.headC;rw [if_pos rfl,if_neg (Int.not_le.2 h3)]
 have hA2:Hid (Sn.headB s g=true→Sn.mx c 383≤5→¬(Sn.cnt c 3 384=1∧Sn.cnt c 4 384=1)→2=A):=fun h h3 h2=>by rw [←hA,h];unfold Sn.headC;rw [if_pos rfl,if_pos h3,if_neg h2]
 have hA0:Hid (Sn.headB s g=true→Sn.mx c 383≤5→(Sn.cnt c 3 384=1∧Sn.cnt c 4 384=1)→0=A):=fun h h3 h2=>by rw [←hA,h];unfold Sn.headC;rw [if_pos rfl,if_pos h3,if_pos h2]
 rw [hA];clear hL hg0 hA;unfold Gd.world at hw0 ⊢;go_enter Tryz.func54,Tryz.ntmps54;go_upto_region 1 with fail;rw [←hw0];clear hw0;obtain ⟨B,hBe⟩:∃B,w.heap.size=B:=⟨_,rfl⟩;rw [hBe] at hB ⊢;clear hBe;obtain ⟨b0,b1,b2,b3,b4,b5,b6,b7,b8,b9,b10⟩:=(uh hB).eleven;by_cases n0:s 1<0
 ·have hf:=hide (uh hA1 (uh hnum (by omega)));go_wp2;go_ret;exact ⟨rti (uh hf),uh hgr⟩
 by_cases n1:s 1≥1073741824
 ·have hf:=hide (uh hA1 (uh hnum (by omega)));go_wp2;go_ret;exact ⟨rti (uh hf),uh hgr⟩
 by_cases n2:s 2<1
 ·have hf:=hide (uh hA1 (uh hnum (by omega)));go_wp2;go_ret;exact ⟨rti (uh hf),uh hgr⟩
 by_cases n3:s 2 > 3
 ·have hf:=hide (uh hA1 (uh hnum (by omega)));go_wp2;go_ret;exact ⟨rti (uh hf),uh hgr⟩
 by_cases n4:s 3<0
 ·have hf:=hide (uh hA1 (uh hnum (by omega)));go_wp2;go_ret;exact ⟨rti (uh hf),uh hgr⟩
 by_cases n5:s 3 > 2
 ·have hf:=hide (uh hA1 (uh hnum (by omega)));go_wp2;go_ret;exact ⟨rti (uh hf),uh hgr⟩
 have hN:Hid (Sn.numB s=true):=by
  show Sn.numB s=true;unfold Sn.numB;rw [decide_eq_true_eq];omega
 go_wp2_with fail;clear n0 n1 n2 n3 n4 n5
 go_loop [3] (fun v3=>∃t:Nat,t≤4∧v3=.int .i64 (t:Int)∧Hid (∀j,j<t→Sn.goldB g j=true)) (fun v3=>10 - (intOf v3).toNat)
 case atStart=>exact ⟨0,by omega,rfl,fun j hj=>absurd hj (by omega)⟩
 case round =>
  obtain ⟨t,ht,rfl,hall⟩:=hrel;by_cases hlt:t<4
  ·have hlt':(t:Int)<4:=by omega
   have HL:=hide hlt;have bt:w0.cell? ⟨B,7+t,none⟩=some (.int .i64 (g t)):=by
    rw [(uh hB).cell (c:=7+t) (by omega),Gd.box_gold _ _ _ _ _ _ _ _ t hlt]
   have hbad:Hid (¬(0≤g t∧g t≤999)→1=A):=fun h=>uh hA1 (by
    unfold Sn.headB;rw [Sn.goldsB_no (t:=t) (by unfold Sn.goldB;rw [decide_eq_false h]) (uh HL),Bool.false_and])
   clear hlt ht;by_cases k1:g t<0
   ·have hf:=hide (uh hbad (by omega));go_wp2;go_ret;exact ⟨rti (uh hf),uh hgr⟩
   ·by_cases k2:g t > 999
    ·have hf:=hide (uh hbad (by omega));go_wp2;go_ret;exact ⟨rti (uh hf),uh hgr⟩
    ·have hq:Hid (Sn.goldB g t=true):=by
      show Sn.goldB g t=true;unfold Sn.goldB;rw [decide_eq_true_eq];omega
     go_wp2;go_round;case rel=>exact ⟨t+1,by have:=uh HL;omega,by go_num,fun j hj=>by
      by_cases e:j=t
      ·rw [e];exact uh hq
      ·exact uh hall j (by omega)⟩
     case measure=>simp [intOf];have:=uh HL;omega
  ·obtain rfl:t=4:=by omega
   have hge:¬((4:Nat):Int)<4:=by omega
   have hH:Hid (Sn.headB s g=true):=by
    show Sn.headB s g=true;unfold Sn.headB;rw [Sn.goldsB_of (uh hall),uh hN];rfl
   clear hlt ht;go_wp2_with fail
   go_loop [4,5,6] (fun v4 v5 v6=>∃i:Nat,i≤384∧v4=.int .i64 (Sn.cnt c 3 i)∧v5=.int .i64 (Sn.cnt c 4 i)∧v6=.int .i64 (i:Int)∧Hid (∀j,j<i→c j≤5)) (fun _ _ v6=>400 - (intOf v6).toNat)
   case atStart=>exact ⟨0,by omega,rfl,rfl,rfl,fun j hj=>absurd hj (by omega)⟩
   case round =>
    obtain ⟨i,hi,rfl,rfl,rfl,h5⟩:=hrel;by_cases hlt:i<384
    ·have hlt':(i:Int)<384:=by omega
     have HL:=hide hlt;have u0:w0.cell? ⟨gC,i,none⟩=some (.int .u8 (c i)):=(uh hL0).cells.cell hlt;have q3:=Sn.cnt_bound c 3 i;have q4:=Sn.cnt_bound c 4 i;obtain ⟨X,hX⟩:∃X,Sn.cnt c 3 i=X:=⟨_,rfl⟩;obtain ⟨Y,hY⟩:∃Y,Sn.cnt c 4 i=Y:=⟨_,rfl⟩;have hn3:Hid (Sn.cnt c 3 (i+1)=X+if c i=3 then 1 else 0):=by
      show Sn.cnt c 3 (i+1)=_;rw [←hX];rfl
     have hn4:Hid (Sn.cnt c 4 (i+1)=Y+if c i=4 then 1 else 0):=by
      show Sn.cnt c 4 (i+1)=_;rw [←hY];rfl
     rw [hX] at q3 ⊢;rw [hY] at q4 ⊢;clear hlt hi hX hY;by_cases k5:c i > 5
     ·have hf:=hide (uh hA3 (uh hH) (Int.not_le.1 fun h=>by
       have:=Sn.mx_le.1 h i (by have:=uh HL;omega);omega))
      go_wp2;go_ret;exact ⟨rti (uh hf),uh hgr⟩
     ·have h5':Hid (∀j,j<i+1→c j≤5):=fun j hj=>by
       by_cases e:j=i
       ·rw [e];omega
       ·exact uh h5 j (by omega)
      by_cases k3:c i=3
      ·rw [if_pos k3] at hn3;rw [if_neg (by omega)] at hn4;rw [k3] at u0 k5;clear k3;go_wp2;go_round;case rel=>exact ⟨i+1,by have:=uh HL;omega,by rw [uh hn3],by rw [uh hn4];simp,by go_num,h5'⟩
       case measure=>simp [intOf];have:=uh HL;omega
      ·have k3':(c i == 3)=false:=by simp [k3]
       rw [if_neg k3] at hn3;by_cases k4:c i=4
       ·rw [if_pos k4] at hn4;rw [k4] at u0 k5 k3';clear k3 k4;go_wp2;go_round;case rel=>exact ⟨i+1,by have:=uh HL;omega,by rw [uh hn3];simp,by rw [uh hn4],by go_num,h5'⟩
        case measure=>simp [intOf];have:=uh HL;omega
       ·have k4':(c i == 4)=false:=by simp [k4]
        rw [if_neg k4] at hn4;clear k3 k4;go_wp2;go_round;case rel=>exact ⟨i+1,by have:=uh HL;omega,by rw [uh hn3];simp,by rw [uh hn4];simp,by go_num,h5'⟩
        case measure=>simp [intOf];have:=uh HL;omega
    ·have hie:i=384:=by omega
     have hge:¬(i:Int)<384:=by omega
     have hm:Hid (Sn.mx c 383≤5):=Sn.mx_le.2 fun j hj=>uh h5 j (by omega);obtain ⟨X,hX⟩:∃X,Sn.cnt c 3 i=X:=⟨_,rfl⟩;obtain ⟨Y,hY⟩:∃Y,Sn.cnt c 4 i=Y:=⟨_,rfl⟩;have hXY:Hid (Sn.cnt c 3 384=X∧Sn.cnt c 4 384=Y):=by
      rw [←hX,←hY,hie];exact ⟨rfl,rfl⟩
     rw [hX,hY];clear hlt hi hX hY hie;by_cases x1:X=1
     ·by_cases y1:Y=1
      ·have hf:=hide (uh hA0 (uh hH) (uh hm) ⟨(uh hXY).1.trans x1,(uh hXY).2.trans y1⟩);have x1':(X != 1)=false:=by simp [x1]
       have y1':(Y != 1)=false:=by simp [y1]
       clear x1 y1;go_wp2;go_ret;exact ⟨rti (uh hf),uh hgr⟩
      ·have hf:=hide (uh hA2 (uh hH) (uh hm) (fun h=>y1 ((uh hXY).2.symm.trans h.2)));have x1':(X != 1)=false:=by simp [x1]
       have y1':(Y != 1)=true:=by simp [y1]
       clear x1 y1;go_wp2;go_ret;exact ⟨rti (uh hf),uh hgr⟩
     ·have hf:=hide (uh hA2 (uh hH) (uh hm) (fun h=>x1 ((uh hXY).1.symm.trans h.1)));have x1':(X != 1)=true:=by simp [x1]
      clear x1;go_wp2;go_ret;exact ⟨rti (uh hf),uh hgr⟩


open Go.RowKit

set_option maxHeartbeats 800000 in
theorem refHero_still (b n c:Nat) (E:Nat→Nat→Int) (seat:Int) (w:World) (hE:Ents w b n E) :
  Calls Tryz.prog 39 #[.slice (some ⟨b,0,none⟩) n c,.int .i64 seat] w fun e w'=>e=.returned (.int .i64 (En.first (En.heroQ E seat) n))∧w'=w:=by
 have hn:=hE.1;have hE':=hide hE
 skip
 clear hE;go_enter Tryz.func39,Tryz.ntmps39;go_wp2_with fail
 go_loop [5] (fun i=>∃k:Nat,k≤n∧i=.int .i64 (k:Int)∧∀j,j<k→En.heroQ E seat j=false) (fun i=>40 - (intOf i).toNat)
 case atStart=>exact ⟨0,by omega,rfl,fun j hj=>by omega⟩
 case round =>
  obtain ⟨k,hk,rfl,hno⟩:=hrel;have hno':=hide hno;clear hno;by_cases hlt:k<n
  ·obtain ⟨u0,_,u2,_⟩:=(uh hE').row hlt;have hlt':(k:Int)<(n:Int):=by omega
   have HL:=hide hlt
   skip
   clear hlt;by_cases hf:E k 0=1
   ·by_cases h3:E k 2=seat
    ·have hq:Hid (En.heroQ E seat k=true):=by show En.heroQ E seat k=true;simp [En.heroQ,hf,h3]
     have he:=hide (En.first_hit (uh hno') (uh hq) (uh HL));go_wp2;go_ret;exact ⟨rti (uh he).symm,rfl⟩
    ·have hq:Hid (En.heroQ E seat k=false):=by show En.heroQ E seat k=false;simp [En.heroQ,h3]
     have h3':(E k 2 == seat)=false:=by simp [h3]
     go_wp2;go_round;case rel=>exact ⟨k+1,by have:=uh HL;omega,by go_num,fun j hj=>by
      by_cases e:j=k
      ·rw [e];exact uh hq
      ·exact uh hno' j (by omega)⟩
     case measure=>simp [intOf];omega
   ·have hq:Hid (En.heroQ E seat k=false):=by show En.heroQ E seat k=false;simp [En.heroQ,hf]
    have hf':(E k 0 == 1)=false:=by simp [hf]
    go_wp2;go_round;case rel=>exact ⟨k+1,by have:=uh HL;omega,by go_num,fun j hj=>by
     by_cases e:j=k
     ·rw [e];exact uh hq
     ·exact uh hno' j (by omega)⟩
    case measure=>simp [intOf];omega
  ·have hge:¬(k:Int)<(n:Int):=by omega
   have he:=hide (En.first_none (n:=n) (fun j hj=>uh hno' j (by omega)));go_wp2;go_ret;exact ⟨rti (uh he).symm,rfl⟩

theorem Sn.front {w:World} {b n m:Nat} {E:Nat→Nat→Int} (h:Ents w b n E) (hm:m≤n):Ents w b m E:=⟨Nat.le_trans hm h.1,h.2.1,fun i j hi hj=>h.2.2 i j (by omega) hj⟩

theorem Sn.first_least (q:Nat→Bool) (n:Nat):-1≤En.first q n:=by
 rcases En.first_cases q n with ⟨h,_⟩|⟨k,_,h,_⟩ <;> omega

def Sn.fst:Code→Code
 | .seq a _=>a
 | c=>c

def Sn.aft:Nat→Code→Code
 | 0,c=>c
 | n+1,.seq _ b=>Sn.aft n b
 | _+1,c=>c

structure Sn.Looks (w:World) (B D F gC gE gI cC cE cI k:Nat) (s g c:Nat→Int) (E I:Nat→Nat→Int) (st:Nat→Int):Prop where
 box:Lie w B 30 11 (Gd.box s gC gE gI cC cE cI g)
 ent:Lie w D 70 11 (Ints (E k))
 fresh:Lie w F 70 11 (Ints st)
 lists:Gd.Lists w gC gE gI c E I
 cells:∀i,0≤c i∧c i≤255
 row:k<32
 cap:32≤cE

def Sn.Tests (w:World) (B D F k:Nat) (t:Bool):Prop :=
 ∀(Q:Exit→Act→World→Prop) (t0 t3 t4 t7 t8 t9 Aa Ab Ac Ad Ae Af Ag Ah Ai Aj Ak Al Am Ao Ap Aq Ar As Au Av Aw Ax Ay Az AA AB AC AD AE AF AG AH AI AJ AK AL AM AN AO AP AQ AR AS AT AU AV AW AX AY AZ A0 A1 A2 A3 A4 A5 A6 A7 A8 A9 Ba Bb Bc Bd Be Bf Bg Bh Bi Bj Bk Bl Bm Bn Bo Bp Bq Br Bs Bt Bu Bv Bw Bx Bz BA BB BC BD BE BF BG BH BI BJ BK BL BM BN BO BP BQ BR BS BT BU BV BW BX BY BZ B0 B1 B2 B3 B4 B5 B6 B7 B8 B9 Ca Cb Cc Cd Ce Cf Cg Ch Ci Cj Ck Cl Cm Cn Co:Value),(∀(u39 u40 u41 u42 u43 u44 u45 u46 u47 u48 u49 u50 u51 u52 u53 u54 u55 u56 u57 u58 u59 u60 u61 u62 u63 u64 u65 u66 u67 u68 u69 u70 u71 u72 u73 u74 u75 u76 u77 u78 u79 u80 u81 u82 u83 u84 u85 u86 u87 u88 u89 u90 u91 u92 u93 u94 u95 u96 u97 u98 u99 u100 u101 u102 u103 u104 u105 u106 u107 u108 u109 u110 u111:Value) (n:Nat),Q .normal ⟨#[t0,.int .i64 (k:Int),.pointer (some ⟨B,0,none⟩),t3,t4,.pointer (some ⟨D,0,none⟩),.pointer (some ⟨F,0,none⟩),t7,t8,t9,Aa,Ab,Ac,Ad,Ae,Af,Ag,Ah,Ai,Aj,Ak,Al,Am,Ao,Ap,Aq,Ar,As,Au,Av,Aw,Ax,Ay,Az,AA,AB,AC,AD,AE,u39,u40,u41,u42,u43,u44,u45,u46,u47,u48,u49,u50,u51,u52,u53,u54,u55,u56,u57,u58,u59,u60,u61,u62,u63,u64,u65,u66,u67,u68,u69,u70,u71,u72,u73,u74,u75,u76,u77,u78,u79,u80,u81,u82,u83,u84,u85,u86,u87,u88,u89,u90,u91,u92,u93,u94,u95,u96,u97,u98,u99,u100,u101,u102,u103,u104,u105,u106,u107,u108,u109,u110,u111,.bool t,BS,BT,BU,BV,BW,BX,BY,BZ,B0,B1,B2,B3,B4,B5,B6,B7,B8,B9,Ca,Cb,Cc,Cd,Ce,Cf,Cg,Ch,Ci,Cj,Ck,Cl,Cm,Cn,Co],[]⟩ (w.drewN n)) →
  Code.wp Tryz.prog (Sn.fst (Sn.fst (Sn.aft 6 (Tryz.f55.body.getD .skip)))) Q ⟨#[t0,.int .i64 (k:Int),.pointer (some ⟨B,0,none⟩),t3,t4,.pointer (some ⟨D,0,none⟩),.pointer (some ⟨F,0,none⟩),t7,t8,t9,Aa,Ab,Ac,Ad,Ae,Af,Ag,Ah,Ai,Aj,Ak,Al,Am,Ao,Ap,Aq,Ar,As,Au,Av,Aw,Ax,Ay,Az,AA,AB,AC,AD,AE,AF,AG,AH,AI,AJ,AK,AL,AM,AN,AO,AP,AQ,AR,AS,AT,AU,AV,AW,AX,AY,AZ,A0,A1,A2,A3,A4,A5,A6,A7,A8,A9,Ba,Bb,Bc,Bd,Be,Bf,Bg,Bh,Bi,Bj,Bk,Bl,Bm,Bn,Bo,Bp,Bq,Br,Bs,Bt,Bu,Bv,Bw,Bx,Bz,BA,BB,BC,BD,BE,BF,BG,BH,BI,BJ,BK,BL,BM,BN,BO,BP,BQ,BR,BS,BT,BU,BV,BW,BX,BY,BZ,B0,B1,B2,B3,B4,B5,B6,B7,B8,B9,Ca,Cb,Cc,Cd,Ce,Cf,Cg,Ch,Ci,Cj,Ck,Cl,Cm,Cn,Co],[]⟩ w

def Sn.Seated (w:World) (B D F k:Nat) (t:Bool):Prop :=
 ∀(Q:Exit→Act→World→Prop) (t0 t3 t4 t7 t8 t9 Aa Ab Ac Ad Ae Af Ag Ah Ai Aj Ak Al Am Ao Ap Aq Ar As Au Av Aw Ax Ay Az AA AB AC AD AE AF AG AH AI AJ AK AL AM AN AO AP AQ AR AS AT AU AV AW AX AY AZ A0 A1 A2 A3 A4 A5 A6 A7 A8 A9 Ba Bb Bc Bd Be Bf Bg Bh Bi Bj Bk Bl Bm Bn Bo Bp Bq Br Bs Bt Bu Bv Bw Bx Bz BA BB BC BD BE BF BG BH BI BJ BK BL BM BN BO BP BQ BR BS BT BU BV BW BX BY BZ B0 B1 B2 B3 B4 B5 B6 B7 B8 B9 Ca Cb Cc Cd Ce Cf Cg Ch Ci Cj Ck Cl Cm Cn Co:Value),(∀(u113 u114 u115 u116 u117 u118 u119 u120 u121 u122 u123 u124 u125 u126 u127 u128 u129 u130 u131 u132 u133 u134 u135 u136 u137 u138 u139 u140 u141 u142 u143 u144:Value) (n:Nat),Q .normal ⟨#[t0,.int .i64 (k:Int),.pointer (some ⟨B,0,none⟩),t3,t4,.pointer (some ⟨D,0,none⟩),.pointer (some ⟨F,0,none⟩),t7,t8,t9,Aa,Ab,Ac,Ad,Ae,Af,Ag,Ah,Ai,Aj,Ak,Al,Am,Ao,Ap,Aq,Ar,As,Au,Av,Aw,Ax,Ay,Az,AA,AB,AC,AD,AE,AF,AG,AH,AI,AJ,AK,AL,AM,AN,AO,AP,AQ,AR,AS,AT,AU,AV,AW,AX,AY,AZ,A0,A1,A2,A3,A4,A5,A6,A7,A8,A9,Ba,Bb,Bc,Bd,Be,Bf,Bg,Bh,Bi,Bj,Bk,Bl,Bm,Bn,Bo,Bp,Bq,Br,Bs,Bt,Bu,Bv,Bw,Bx,Bz,BA,BB,BC,BD,BE,BF,BG,BH,BI,BJ,BK,BL,BM,BN,BO,BP,BQ,BR,u113,u114,u115,u116,u117,u118,u119,u120,u121,u122,u123,u124,u125,u126,u127,u128,u129,u130,u131,u132,u133,u134,u135,u136,u137,u138,u139,u140,u141,u142,u143,u144,.bool t],[]⟩ (w.drewN n)) →
  Code.wp Tryz.prog (Sn.fst (Sn.fst (Sn.aft 7 (Tryz.f55.body.getD .skip)))) Q ⟨#[t0,.int .i64 (k:Int),.pointer (some ⟨B,0,none⟩),t3,t4,.pointer (some ⟨D,0,none⟩),.pointer (some ⟨F,0,none⟩),t7,t8,t9,Aa,Ab,Ac,Ad,Ae,Af,Ag,Ah,Ai,Aj,Ak,Al,Am,Ao,Ap,Aq,Ar,As,Au,Av,Aw,Ax,Ay,Az,AA,AB,AC,AD,AE,AF,AG,AH,AI,AJ,AK,AL,AM,AN,AO,AP,AQ,AR,AS,AT,AU,AV,AW,AX,AY,AZ,A0,A1,A2,A3,A4,A5,A6,A7,A8,A9,Ba,Bb,Bc,Bd,Be,Bf,Bg,Bh,Bi,Bj,Bk,Bl,Bm,Bn,Bo,Bp,Bq,Br,Bs,Bt,Bu,Bv,Bw,Bx,Bz,BA,BB,BC,BD,BE,BF,BG,BH,BI,BJ,BK,BL,BM,BN,BO,BP,BQ,BR,BS,BT,BU,BV,BW,BX,BY,BZ,B0,B1,B2,B3,B4,B5,B6,B7,B8,B9,Ca,Cb,Cc,Cd,Ce,Cf,Cg,Ch,Ci,Cj,Ck,Cl,Cm,Cn,Co],[]⟩ w


open Go.RowKit

set_option maxRecDepth 16000 in
set_option maxHeartbeats 12800000 in
theorem Sn.tests_walk {w:World} {B D F gC gE gI cC cE cI k:Nat} {s g c:Nat→Int} {E I:Nat→Nat→Int} {st:Nat→Int} (h:Sn.Looks w B D F gC gE gI cC cE cI k s g c E I st) (hw:Gr.walkB (Gr.at 384 c (E k 3) (E k 4))=false):Sn.Tests w B D F k true:=by
 have hL:=hide h.lists;have cA:=hide (fun z (hz:Gd.Lists z gC gE gI c E I)=>refAt_any z.heap.size (some ⟨gC,0,none⟩) 384 cC c (E k 3) (E k 4) z hz.vec h.cells);have cK:=hide (fun z=>refWalk_any (Gr.at 384 c (E k 3) (E k 4)) z);rw [hw] at cK;obtain ⟨at_,hat⟩:∃a,Gr.at 384 c (E k 3) (E k 4)=a:=⟨_,rfl⟩;rw [hat] at cA cK;have b4:=h.box.eleven.2.2.2.2.1;obtain ⟨-,-,-,d3,d4,-,-,-,-,-,-⟩:=Sn.row h.ent;clear hw hat;clear h;unfold Sn.Tests
 intros
 rename_i hQ;have HQ:=hide hQ;clear hQ
 conv=>arg 2;whnf
 dsimp only [List.append];go_quiet (first | (go_at_call 45;refine Calls.quiet_of_same (uh cA _ ?_);exact (uh hL).on (gdw (World.grownBy.refl _ none) _)) | (go_at_call 75;exact Calls.quiet_of_same (uh cK _)) | fail);exact uh HQ _ _ _ _ _ _ _ _ _ _ _ _ _ _ _ _ _ _ _ _ _ _ _ _ _ _ _ _ _ _ _ _ _ _ _ _ _ _ _ _ _ _ _ _ _ _ _ _ _ _ _ _ _ _ _ _ _ _ _ _ _ _ _ _ _ _ _ _ _ _ _ _ _ nq

set_option maxRecDepth 16000 in
set_option maxHeartbeats 12800000 in
theorem Sn.tests_one {w:World} {B D F gC gE gI cC cE cI k:Nat} {s g c:Nat→Int} {E I:Nat→Nat→Int} {st:Nat→Int} (h:Sn.Looks w B D F gC gE gI cC cE cI k s g c E I st) (hw:Gr.walkB (Gr.at 384 c (E k 3) (E k 4))=true) {f:Int} (hf:En.first (En.atQ E (E k 3) (E k 4)) k=f) (f0:f≥0):Sn.Tests w B D F k true:=by
 have hL:=hide h.lists;have cA:=hide (fun z (hz:Gd.Lists z gC gE gI c E I)=>refAt_any z.heap.size (some ⟨gC,0,none⟩) 384 cC c (E k 3) (E k 4) z hz.vec h.cells);have cK:=hide (fun z=>refWalk_any (Gr.at 384 c (E k 3) (E k 4)) z);rw [hw] at cK;obtain ⟨at_,hat⟩:∃a,Gr.at 384 c (E k 3) (E k 4)=a:=⟨_,rfl⟩;rw [hat] at cA cK;have b4:=h.box.eleven.2.2.2.2.1;have cE':=hide (fun z (hz:Gd.Lists z gC gE gI c E I)=>entRefAt_same gE k cE E (E k 3) (E k 4) z (Sn.front hz.own.ents (by have:=h.row;omega)));rw [hf] at cE';have b5:=h.box.eleven.2.2.2.2.2.1;have q7:(k:Int)≤(cE:Int):=by have:=h.cap;have:=h.row;omega
 have q8:¬(k:Int)<0:=by omega
 obtain ⟨-,-,-,d3,d4,-,-,-,-,-,-⟩:=Sn.row h.ent;clear hw hat hf;clear h;unfold Sn.Tests
 intros
 rename_i hQ;have HQ:=hide hQ;clear hQ
 conv=>arg 2;whnf
 dsimp only [List.append];go_quiet (first | (go_at_call 45;refine Calls.quiet_of_same (uh cA _ ?_);exact (uh hL).on (gdw (World.grownBy.refl _ none) _)) | (go_at_call 75;exact Calls.quiet_of_same (uh cK _)) | (go_at_call 50;refine Calls.quiet_of_same (uh cE' _ ?_);exact (uh hL).on (gdw (World.grownBy.refl _ none) _)) | fail);exact uh HQ _ _ _ _ _ _ _ _ _ _ _ _ _ _ _ _ _ _ _ _ _ _ _ _ _ _ _ _ _ _ _ _ _ _ _ _ _ _ _ _ _ _ _ _ _ _ _ _ _ _ _ _ _ _ _ _ _ _ _ _ _ _ _ _ _ _ _ _ _ _ _ _ _ nq

set_option maxRecDepth 16000 in
set_option maxHeartbeats 12800000 in
theorem Sn.tests_hp1 {w:World} {B D F gC gE gI cC cE cI k:Nat} {s g c:Nat→Int} {E I:Nat→Nat→Int} {st:Nat→Int} (h:Sn.Looks w B D F gC gE gI cC cE cI k s g c E I st) (hw:Gr.walkB (Gr.at 384 c (E k 3) (E k 4))=true) {f:Int} (hf:En.first (En.atQ E (E k 3) (E k 4)) k=f) (f0:¬f≥0) (m0:E k 5<1):Sn.Tests w B D F k true:=by
 have hL:=hide h.lists;have cA:=hide (fun z (hz:Gd.Lists z gC gE gI c E I)=>refAt_any z.heap.size (some ⟨gC,0,none⟩) 384 cC c (E k 3) (E k 4) z hz.vec h.cells);have cK:=hide (fun z=>refWalk_any (Gr.at 384 c (E k 3) (E k 4)) z);rw [hw] at cK;obtain ⟨at_,hat⟩:∃a,Gr.at 384 c (E k 3) (E k 4)=a:=⟨_,rfl⟩;rw [hat] at cA cK;have b4:=h.box.eleven.2.2.2.2.1;have cE':=hide (fun z (hz:Gd.Lists z gC gE gI c E I)=>entRefAt_same gE k cE E (E k 3) (E k 4) z (Sn.front hz.own.ents (by have:=h.row;omega)));rw [hf] at cE';have b5:=h.box.eleven.2.2.2.2.2.1;have q7:(k:Int)≤(cE:Int):=by have:=h.cap;have:=h.row;omega
 have q8:¬(k:Int)<0:=by omega
 obtain ⟨-,-,-,d3,d4,d5,-,-,-,-,-⟩:=Sn.row h.ent;clear hw hat hf;clear h;unfold Sn.Tests
 intros
 rename_i hQ;have HQ:=hide hQ;clear hQ
 conv=>arg 2;whnf
 dsimp only [List.append];go_quiet (first | (go_at_call 45;refine Calls.quiet_of_same (uh cA _ ?_);exact (uh hL).on (gdw (World.grownBy.refl _ none) _)) | (go_at_call 75;exact Calls.quiet_of_same (uh cK _)) | (go_at_call 50;refine Calls.quiet_of_same (uh cE' _ ?_);exact (uh hL).on (gdw (World.grownBy.refl _ none) _)) | fail);exact uh HQ _ _ _ _ _ _ _ _ _ _ _ _ _ _ _ _ _ _ _ _ _ _ _ _ _ _ _ _ _ _ _ _ _ _ _ _ _ _ _ _ _ _ _ _ _ _ _ _ _ _ _ _ _ _ _ _ _ _ _ _ _ _ _ _ _ _ _ _ _ _ _ _ _ nq


open Go.RowKit

set_option maxRecDepth 16000 in
set_option maxHeartbeats 12800000 in
theorem Sn.tests_hpm {w:World} {B D F gC gE gI cC cE cI k:Nat} {s g c:Nat→Int} {E I:Nat→Nat→Int} {st:Nat→Int} (h:Sn.Looks w B D F gC gE gI cC cE cI k s g c E I st) (hw:Gr.walkB (Gr.at 384 c (E k 3) (E k 4))=true) {f:Int} (hf:En.first (En.atQ E (E k 3) (E k 4)) k=f) (f0:¬f≥0) (m0:¬E k 5<1) (m1:E k 5 > E k 6):Sn.Tests w B D F k true:=by
 have hL:=hide h.lists;have cA:=hide (fun z (hz:Gd.Lists z gC gE gI c E I)=>refAt_any z.heap.size (some ⟨gC,0,none⟩) 384 cC c (E k 3) (E k 4) z hz.vec h.cells);have cK:=hide (fun z=>refWalk_any (Gr.at 384 c (E k 3) (E k 4)) z);rw [hw] at cK;obtain ⟨at_,hat⟩:∃a,Gr.at 384 c (E k 3) (E k 4)=a:=⟨_,rfl⟩;rw [hat] at cA cK;have b4:=h.box.eleven.2.2.2.2.1;have cE':=hide (fun z (hz:Gd.Lists z gC gE gI c E I)=>entRefAt_same gE k cE E (E k 3) (E k 4) z (Sn.front hz.own.ents (by have:=h.row;omega)));rw [hf] at cE';have b5:=h.box.eleven.2.2.2.2.2.1;have q7:(k:Int)≤(cE:Int):=by have:=h.cap;have:=h.row;omega
 have q8:¬(k:Int)<0:=by omega
 obtain ⟨-,-,-,d3,d4,d5,d6,-,-,-,-⟩:=Sn.row h.ent;clear hw hat hf;clear h;unfold Sn.Tests
 intros
 rename_i hQ;have HQ:=hide hQ;clear hQ
 conv=>arg 2;whnf
 dsimp only [List.append];go_quiet (first | (go_at_call 45;refine Calls.quiet_of_same (uh cA _ ?_);exact (uh hL).on (gdw (World.grownBy.refl _ none) _)) | (go_at_call 75;exact Calls.quiet_of_same (uh cK _)) | (go_at_call 50;refine Calls.quiet_of_same (uh cE' _ ?_);exact (uh hL).on (gdw (World.grownBy.refl _ none) _)) | fail);exact uh HQ _ _ _ _ _ _ _ _ _ _ _ _ _ _ _ _ _ _ _ _ _ _ _ _ _ _ _ _ _ _ _ _ _ _ _ _ _ _ _ _ _ _ _ _ _ _ _ _ _ _ _ _ _ _ _ _ _ _ _ _ _ _ _ _ _ _ _ _ _ _ _ _ _ nq

set_option maxRecDepth 16000 in
set_option maxHeartbeats 12800000 in
theorem Sn.tests_max {w:World} {B D F gC gE gI cC cE cI k:Nat} {s g c:Nat→Int} {E I:Nat→Nat→Int} {st:Nat→Int} (h:Sn.Looks w B D F gC gE gI cC cE cI k s g c E I st) (hw:Gr.walkB (Gr.at 384 c (E k 3) (E k 4))=true) {f:Int} (hf:En.first (En.atQ E (E k 3) (E k 4)) k=f) (f0:¬f≥0) (m0:¬E k 5<1) (m1:¬E k 5 > E k 6) (m2:(E k 6 != st 6)=true):Sn.Tests w B D F k true:=by
 have hL:=hide h.lists;have cA:=hide (fun z (hz:Gd.Lists z gC gE gI c E I)=>refAt_any z.heap.size (some ⟨gC,0,none⟩) 384 cC c (E k 3) (E k 4) z hz.vec h.cells);have cK:=hide (fun z=>refWalk_any (Gr.at 384 c (E k 3) (E k 4)) z);rw [hw] at cK;obtain ⟨at_,hat⟩:∃a,Gr.at 384 c (E k 3) (E k 4)=a:=⟨_,rfl⟩;rw [hat] at cA cK;have b4:=h.box.eleven.2.2.2.2.1;have cE':=hide (fun z (hz:Gd.Lists z gC gE gI c E I)=>entRefAt_same gE k cE E (E k 3) (E k 4) z (Sn.front hz.own.ents (by have:=h.row;omega)));rw [hf] at cE';have b5:=h.box.eleven.2.2.2.2.2.1;have q7:(k:Int)≤(cE:Int):=by have:=h.cap;have:=h.row;omega
 have q8:¬(k:Int)<0:=by omega
 obtain ⟨-,-,-,d3,d4,d5,d6,-,-,-,-⟩:=Sn.row h.ent;obtain ⟨-,-,-,-,-,-,z6,-,-,-,-⟩:=Sn.row h.fresh;clear hw hat hf;clear h;unfold Sn.Tests
 intros
 rename_i hQ;have HQ:=hide hQ;clear hQ
 conv=>arg 2;whnf
 dsimp only [List.append];go_quiet (first | (go_at_call 45;refine Calls.quiet_of_same (uh cA _ ?_);exact (uh hL).on (gdw (World.grownBy.refl _ none) _)) | (go_at_call 75;exact Calls.quiet_of_same (uh cK _)) | (go_at_call 50;refine Calls.quiet_of_same (uh cE' _ ?_);exact (uh hL).on (gdw (World.grownBy.refl _ none) _)) | fail);exact uh HQ _ _ _ _ _ _ _ _ _ _ _ _ _ _ _ _ _ _ _ _ _ _ _ _ _ _ _ _ _ _ _ _ _ _ _ _ _ _ _ _ _ _ _ _ _ _ _ _ _ _ _ _ _ _ _ _ _ _ _ _ _ _ _ _ _ _ _ _ _ _ _ _ _ nq

set_option maxRecDepth 16000 in
set_option maxHeartbeats 12800000 in
theorem Sn.tests_atk {w:World} {B D F gC gE gI cC cE cI k:Nat} {s g c:Nat→Int} {E I:Nat→Nat→Int} {st:Nat→Int} (h:Sn.Looks w B D F gC gE gI cC cE cI k s g c E I st) (hw:Gr.walkB (Gr.at 384 c (E k 3) (E k 4))=true) {f:Int} (hf:En.first (En.atQ E (E k 3) (E k 4)) k=f) (f0:¬f≥0) (m0:¬E k 5<1) (m1:¬E k 5 > E k 6) (m2:(E k 6 != st 6)=false) (m3:(E k 7 != st 7)=true):Sn.Tests w B D F k true:=by
 have hL:=hide h.lists;have cA:=hide (fun z (hz:Gd.Lists z gC gE gI c E I)=>refAt_any z.heap.size (some ⟨gC,0,none⟩) 384 cC c (E k 3) (E k 4) z hz.vec h.cells);have cK:=hide (fun z=>refWalk_any (Gr.at 384 c (E k 3) (E k 4)) z);rw [hw] at cK;obtain ⟨at_,hat⟩:∃a,Gr.at 384 c (E k 3) (E k 4)=a:=⟨_,rfl⟩;rw [hat] at cA cK;have b4:=h.box.eleven.2.2.2.2.1;have cE':=hide (fun z (hz:Gd.Lists z gC gE gI c E I)=>entRefAt_same gE k cE E (E k 3) (E k 4) z (Sn.front hz.own.ents (by have:=h.row;omega)));rw [hf] at cE';have b5:=h.box.eleven.2.2.2.2.2.1;have q7:(k:Int)≤(cE:Int):=by have:=h.cap;have:=h.row;omega
 have q8:¬(k:Int)<0:=by omega
 obtain ⟨-,-,-,d3,d4,d5,d6,d7,-,-,-⟩:=Sn.row h.ent;obtain ⟨-,-,-,-,-,-,z6,z7,-,-,-⟩:=Sn.row h.fresh;clear hw hat hf;clear h;unfold Sn.Tests
 intros
 rename_i hQ;have HQ:=hide hQ;clear hQ
 conv=>arg 2;whnf
 dsimp only [List.append];go_quiet (first | (go_at_call 45;refine Calls.quiet_of_same (uh cA _ ?_);exact (uh hL).on (gdw (World.grownBy.refl _ none) _)) | (go_at_call 75;exact Calls.quiet_of_same (uh cK _)) | (go_at_call 50;refine Calls.quiet_of_same (uh cE' _ ?_);exact (uh hL).on (gdw (World.grownBy.refl _ none) _)) | fail);exact uh HQ _ _ _ _ _ _ _ _ _ _ _ _ _ _ _ _ _ _ _ _ _ _ _ _ _ _ _ _ _ _ _ _ _ _ _ _ _ _ _ _ _ _ _ _ _ _ _ _ _ _ _ _ _ _ _ _ _ _ _ _ _ _ _ _ _ _ _ _ _ _ _ _ _ nq


open Go.RowKit

set_option maxRecDepth 16000 in
set_option maxHeartbeats 12800000 in
theorem Sn.tests_def {w:World} {B D F gC gE gI cC cE cI k:Nat} {s g c:Nat→Int} {E I:Nat→Nat→Int} {st:Nat→Int} (h:Sn.Looks w B D F gC gE gI cC cE cI k s g c E I st) (hw:Gr.walkB (Gr.at 384 c (E k 3) (E k 4))=true) {f:Int} (hf:En.first (En.atQ E (E k 3) (E k 4)) k=f) (f0:¬f≥0) (m0:¬E k 5<1) (m1:¬E k 5 > E k 6) (m2:(E k 6 != st 6)=false) (m3:(E k 7 != st 7)=false) (m4:(E k 8 != st 8)=true):Sn.Tests w B D F k true:=by
 have hL:=hide h.lists;have cA:=hide (fun z (hz:Gd.Lists z gC gE gI c E I)=>refAt_any z.heap.size (some ⟨gC,0,none⟩) 384 cC c (E k 3) (E k 4) z hz.vec h.cells);have cK:=hide (fun z=>refWalk_any (Gr.at 384 c (E k 3) (E k 4)) z);rw [hw] at cK;obtain ⟨at_,hat⟩:∃a,Gr.at 384 c (E k 3) (E k 4)=a:=⟨_,rfl⟩;rw [hat] at cA cK;have b4:=h.box.eleven.2.2.2.2.1;have cE':=hide (fun z (hz:Gd.Lists z gC gE gI c E I)=>entRefAt_same gE k cE E (E k 3) (E k 4) z (Sn.front hz.own.ents (by have:=h.row;omega)));rw [hf] at cE';have b5:=h.box.eleven.2.2.2.2.2.1;have q7:(k:Int)≤(cE:Int):=by have:=h.cap;have:=h.row;omega
 have q8:¬(k:Int)<0:=by omega
 obtain ⟨-,-,-,d3,d4,d5,d6,d7,d8,-,-⟩:=Sn.row h.ent;obtain ⟨-,-,-,-,-,-,z6,z7,z8,-,-⟩:=Sn.row h.fresh;clear hw hat hf;clear h;unfold Sn.Tests
 intros
 rename_i hQ;have HQ:=hide hQ;clear hQ
 conv=>arg 2;whnf
 dsimp only [List.append];go_quiet (first | (go_at_call 45;refine Calls.quiet_of_same (uh cA _ ?_);exact (uh hL).on (gdw (World.grownBy.refl _ none) _)) | (go_at_call 75;exact Calls.quiet_of_same (uh cK _)) | (go_at_call 50;refine Calls.quiet_of_same (uh cE' _ ?_);exact (uh hL).on (gdw (World.grownBy.refl _ none) _)) | fail);exact uh HQ _ _ _ _ _ _ _ _ _ _ _ _ _ _ _ _ _ _ _ _ _ _ _ _ _ _ _ _ _ _ _ _ _ _ _ _ _ _ _ _ _ _ _ _ _ _ _ _ _ _ _ _ _ _ _ _ _ _ _ _ _ _ _ _ _ _ _ _ _ _ _ _ _ nq

set_option maxRecDepth 16000 in
set_option maxHeartbeats 12800000 in
theorem Sn.tests_po0 {w:World} {B D F gC gE gI cC cE cI k:Nat} {s g c:Nat→Int} {E I:Nat→Nat→Int} {st:Nat→Int} (h:Sn.Looks w B D F gC gE gI cC cE cI k s g c E I st) (hw:Gr.walkB (Gr.at 384 c (E k 3) (E k 4))=true) {f:Int} (hf:En.first (En.atQ E (E k 3) (E k 4)) k=f) (f0:¬f≥0) (m0:¬E k 5<1) (m1:¬E k 5 > E k 6) (m2:(E k 6 != st 6)=false) (m3:(E k 7 != st 7)=false) (m4:(E k 8 != st 8)=false) (m5:E k 9<0):Sn.Tests w B D F k true:=by
 have hL:=hide h.lists;have cA:=hide (fun z (hz:Gd.Lists z gC gE gI c E I)=>refAt_any z.heap.size (some ⟨gC,0,none⟩) 384 cC c (E k 3) (E k 4) z hz.vec h.cells);have cK:=hide (fun z=>refWalk_any (Gr.at 384 c (E k 3) (E k 4)) z);rw [hw] at cK;obtain ⟨at_,hat⟩:∃a,Gr.at 384 c (E k 3) (E k 4)=a:=⟨_,rfl⟩;rw [hat] at cA cK;have b4:=h.box.eleven.2.2.2.2.1;have cE':=hide (fun z (hz:Gd.Lists z gC gE gI c E I)=>entRefAt_same gE k cE E (E k 3) (E k 4) z (Sn.front hz.own.ents (by have:=h.row;omega)));rw [hf] at cE';have b5:=h.box.eleven.2.2.2.2.2.1;have q7:(k:Int)≤(cE:Int):=by have:=h.cap;have:=h.row;omega
 have q8:¬(k:Int)<0:=by omega
 obtain ⟨-,-,-,d3,d4,d5,d6,d7,d8,d9,-⟩:=Sn.row h.ent;obtain ⟨-,-,-,-,-,-,z6,z7,z8,-,-⟩:=Sn.row h.fresh;clear hw hat hf;clear h;unfold Sn.Tests
 intros
 rename_i hQ;have HQ:=hide hQ;clear hQ
 conv=>arg 2;whnf
 dsimp only [List.append];go_quiet (first | (go_at_call 45;refine Calls.quiet_of_same (uh cA _ ?_);exact (uh hL).on (gdw (World.grownBy.refl _ none) _)) | (go_at_call 75;exact Calls.quiet_of_same (uh cK _)) | (go_at_call 50;refine Calls.quiet_of_same (uh cE' _ ?_);exact (uh hL).on (gdw (World.grownBy.refl _ none) _)) | fail);exact uh HQ _ _ _ _ _ _ _ _ _ _ _ _ _ _ _ _ _ _ _ _ _ _ _ _ _ _ _ _ _ _ _ _ _ _ _ _ _ _ _ _ _ _ _ _ _ _ _ _ _ _ _ _ _ _ _ _ _ _ _ _ _ _ _ _ _ _ _ _ _ _ _ _ _ nq

set_option maxRecDepth 16000 in
set_option maxHeartbeats 12800000 in
theorem Sn.tests_po9 {w:World} {B D F gC gE gI cC cE cI k:Nat} {s g c:Nat→Int} {E I:Nat→Nat→Int} {st:Nat→Int} (h:Sn.Looks w B D F gC gE gI cC cE cI k s g c E I st) (hw:Gr.walkB (Gr.at 384 c (E k 3) (E k 4))=true) {f:Int} (hf:En.first (En.atQ E (E k 3) (E k 4)) k=f) (f0:¬f≥0) (m0:¬E k 5<1) (m1:¬E k 5 > E k 6) (m2:(E k 6 != st 6)=false) (m3:(E k 7 != st 7)=false) (m4:(E k 8 != st 8)=false) (m5:¬E k 9<0) (m6:E k 9 > 9):Sn.Tests w B D F k true:=by
 have hL:=hide h.lists;have cA:=hide (fun z (hz:Gd.Lists z gC gE gI c E I)=>refAt_any z.heap.size (some ⟨gC,0,none⟩) 384 cC c (E k 3) (E k 4) z hz.vec h.cells);have cK:=hide (fun z=>refWalk_any (Gr.at 384 c (E k 3) (E k 4)) z);rw [hw] at cK;obtain ⟨at_,hat⟩:∃a,Gr.at 384 c (E k 3) (E k 4)=a:=⟨_,rfl⟩;rw [hat] at cA cK;have b4:=h.box.eleven.2.2.2.2.1;have cE':=hide (fun z (hz:Gd.Lists z gC gE gI c E I)=>entRefAt_same gE k cE E (E k 3) (E k 4) z (Sn.front hz.own.ents (by have:=h.row;omega)));rw [hf] at cE';have b5:=h.box.eleven.2.2.2.2.2.1;have q7:(k:Int)≤(cE:Int):=by have:=h.cap;have:=h.row;omega
 have q8:¬(k:Int)<0:=by omega
 obtain ⟨-,-,-,d3,d4,d5,d6,d7,d8,d9,-⟩:=Sn.row h.ent;obtain ⟨-,-,-,-,-,-,z6,z7,z8,-,-⟩:=Sn.row h.fresh;clear hw hat hf;clear h;unfold Sn.Tests
 intros
 rename_i hQ;have HQ:=hide hQ;clear hQ
 conv=>arg 2;whnf
 dsimp only [List.append];go_quiet (first | (go_at_call 45;refine Calls.quiet_of_same (uh cA _ ?_);exact (uh hL).on (gdw (World.grownBy.refl _ none) _)) | (go_at_call 75;exact Calls.quiet_of_same (uh cK _)) | (go_at_call 50;refine Calls.quiet_of_same (uh cE' _ ?_);exact (uh hL).on (gdw (World.grownBy.refl _ none) _)) | fail);exact uh HQ _ _ _ _ _ _ _ _ _ _ _ _ _ _ _ _ _ _ _ _ _ _ _ _ _ _ _ _ _ _ _ _ _ _ _ _ _ _ _ _ _ _ _ _ _ _ _ _ _ _ _ _ _ _ _ _ _ _ _ _ _ _ _ _ _ _ _ _ _ _ _ _ _ nq


open Go.RowKit

set_option maxRecDepth 16000 in
set_option maxHeartbeats 12800000 in
theorem Sn.tests_st0 {w:World} {B D F gC gE gI cC cE cI k:Nat} {s g c:Nat→Int} {E I:Nat→Nat→Int} {st:Nat→Int} (h:Sn.Looks w B D F gC gE gI cC cE cI k s g c E I st) (hw:Gr.walkB (Gr.at 384 c (E k 3) (E k 4))=true) {f:Int} (hf:En.first (En.atQ E (E k 3) (E k 4)) k=f) (f0:¬f≥0) (m0:¬E k 5<1) (m1:¬E k 5 > E k 6) (m2:(E k 6 != st 6)=false) (m3:(E k 7 != st 7)=false) (m4:(E k 8 != st 8)=false) (m5:¬E k 9<0) (m6:¬E k 9 > 9) (m7:E k 10<0):Sn.Tests w B D F k true:=by
 have hL:=hide h.lists;have cA:=hide (fun z (hz:Gd.Lists z gC gE gI c E I)=>refAt_any z.heap.size (some ⟨gC,0,none⟩) 384 cC c (E k 3) (E k 4) z hz.vec h.cells);have cK:=hide (fun z=>refWalk_any (Gr.at 384 c (E k 3) (E k 4)) z);rw [hw] at cK;obtain ⟨at_,hat⟩:∃a,Gr.at 384 c (E k 3) (E k 4)=a:=⟨_,rfl⟩;rw [hat] at cA cK;have b4:=h.box.eleven.2.2.2.2.1;have cE':=hide (fun z (hz:Gd.Lists z gC gE gI c E I)=>entRefAt_same gE k cE E (E k 3) (E k 4) z (Sn.front hz.own.ents (by have:=h.row;omega)));rw [hf] at cE';have b5:=h.box.eleven.2.2.2.2.2.1;have q7:(k:Int)≤(cE:Int):=by have:=h.cap;have:=h.row;omega
 have q8:¬(k:Int)<0:=by omega
 obtain ⟨-,-,-,d3,d4,d5,d6,d7,d8,d9,d10⟩:=Sn.row h.ent;obtain ⟨-,-,-,-,-,-,z6,z7,z8,-,-⟩:=Sn.row h.fresh;clear hw hat hf;clear h;unfold Sn.Tests
 intros
 rename_i hQ;have HQ:=hide hQ;clear hQ
 conv=>arg 2;whnf
 dsimp only [List.append];go_quiet (first | (go_at_call 45;refine Calls.quiet_of_same (uh cA _ ?_);exact (uh hL).on (gdw (World.grownBy.refl _ none) _)) | (go_at_call 75;exact Calls.quiet_of_same (uh cK _)) | (go_at_call 50;refine Calls.quiet_of_same (uh cE' _ ?_);exact (uh hL).on (gdw (World.grownBy.refl _ none) _)) | fail);exact uh HQ _ _ _ _ _ _ _ _ _ _ _ _ _ _ _ _ _ _ _ _ _ _ _ _ _ _ _ _ _ _ _ _ _ _ _ _ _ _ _ _ _ _ _ _ _ _ _ _ _ _ _ _ _ _ _ _ _ _ _ _ _ _ _ _ _ _ _ _ _ _ _ _ _ nq

set_option maxRecDepth 16000 in
set_option maxHeartbeats 12800000 in
theorem Sn.tests_st9 {w:World} {B D F gC gE gI cC cE cI k:Nat} {s g c:Nat→Int} {E I:Nat→Nat→Int} {st:Nat→Int} (h:Sn.Looks w B D F gC gE gI cC cE cI k s g c E I st) (hw:Gr.walkB (Gr.at 384 c (E k 3) (E k 4))=true) {f:Int} (hf:En.first (En.atQ E (E k 3) (E k 4)) k=f) (f0:¬f≥0) (m0:¬E k 5<1) (m1:¬E k 5 > E k 6) (m2:(E k 6 != st 6)=false) (m3:(E k 7 != st 7)=false) (m4:(E k 8 != st 8)=false) (m5:¬E k 9<0) (m6:¬E k 9 > 9) (m7:¬E k 10<0) (m8:E k 10 > 9):Sn.Tests w B D F k true:=by
 have hL:=hide h.lists;have cA:=hide (fun z (hz:Gd.Lists z gC gE gI c E I)=>refAt_any z.heap.size (some ⟨gC,0,none⟩) 384 cC c (E k 3) (E k 4) z hz.vec h.cells);have cK:=hide (fun z=>refWalk_any (Gr.at 384 c (E k 3) (E k 4)) z);rw [hw] at cK;obtain ⟨at_,hat⟩:∃a,Gr.at 384 c (E k 3) (E k 4)=a:=⟨_,rfl⟩;rw [hat] at cA cK;have b4:=h.box.eleven.2.2.2.2.1;have cE':=hide (fun z (hz:Gd.Lists z gC gE gI c E I)=>entRefAt_same gE k cE E (E k 3) (E k 4) z (Sn.front hz.own.ents (by have:=h.row;omega)));rw [hf] at cE';have b5:=h.box.eleven.2.2.2.2.2.1;have q7:(k:Int)≤(cE:Int):=by have:=h.cap;have:=h.row;omega
 have q8:¬(k:Int)<0:=by omega
 obtain ⟨-,-,-,d3,d4,d5,d6,d7,d8,d9,d10⟩:=Sn.row h.ent;obtain ⟨-,-,-,-,-,-,z6,z7,z8,-,-⟩:=Sn.row h.fresh;clear hw hat hf;clear h;unfold Sn.Tests
 intros
 rename_i hQ;have HQ:=hide hQ;clear hQ
 conv=>arg 2;whnf
 dsimp only [List.append];go_quiet (first | (go_at_call 45;refine Calls.quiet_of_same (uh cA _ ?_);exact (uh hL).on (gdw (World.grownBy.refl _ none) _)) | (go_at_call 75;exact Calls.quiet_of_same (uh cK _)) | (go_at_call 50;refine Calls.quiet_of_same (uh cE' _ ?_);exact (uh hL).on (gdw (World.grownBy.refl _ none) _)) | fail);exact uh HQ _ _ _ _ _ _ _ _ _ _ _ _ _ _ _ _ _ _ _ _ _ _ _ _ _ _ _ _ _ _ _ _ _ _ _ _ _ _ _ _ _ _ _ _ _ _ _ _ _ _ _ _ _ _ _ _ _ _ _ _ _ _ _ _ _ _ _ _ _ _ _ _ _ nq

set_option maxRecDepth 16000 in
set_option maxHeartbeats 12800000 in
theorem Sn.tests_none {w:World} {B D F gC gE gI cC cE cI k:Nat} {s g c:Nat→Int} {E I:Nat→Nat→Int} {st:Nat→Int} (h:Sn.Looks w B D F gC gE gI cC cE cI k s g c E I st) (hw:Gr.walkB (Gr.at 384 c (E k 3) (E k 4))=true) {f:Int} (hf:En.first (En.atQ E (E k 3) (E k 4)) k=f) (f0:¬f≥0) (m0:¬E k 5<1) (m1:¬E k 5 > E k 6) (m2:(E k 6 != st 6)=false) (m3:(E k 7 != st 7)=false) (m4:(E k 8 != st 8)=false) (m5:¬E k 9<0) (m6:¬E k 9 > 9) (m7:¬E k 10<0) (m8:¬E k 10 > 9):Sn.Tests w B D F k false:=by
 have hL:=hide h.lists;have cA:=hide (fun z (hz:Gd.Lists z gC gE gI c E I)=>refAt_any z.heap.size (some ⟨gC,0,none⟩) 384 cC c (E k 3) (E k 4) z hz.vec h.cells);have cK:=hide (fun z=>refWalk_any (Gr.at 384 c (E k 3) (E k 4)) z);rw [hw] at cK;obtain ⟨at_,hat⟩:∃a,Gr.at 384 c (E k 3) (E k 4)=a:=⟨_,rfl⟩;rw [hat] at cA cK;have b4:=h.box.eleven.2.2.2.2.1;have cE':=hide (fun z (hz:Gd.Lists z gC gE gI c E I)=>entRefAt_same gE k cE E (E k 3) (E k 4) z (Sn.front hz.own.ents (by have:=h.row;omega)));rw [hf] at cE';have b5:=h.box.eleven.2.2.2.2.2.1;have q7:(k:Int)≤(cE:Int):=by have:=h.cap;have:=h.row;omega
 have q8:¬(k:Int)<0:=by omega
 obtain ⟨-,-,-,d3,d4,d5,d6,d7,d8,d9,d10⟩:=Sn.row h.ent;obtain ⟨-,-,-,-,-,-,z6,z7,z8,-,-⟩:=Sn.row h.fresh;clear hw hat hf;clear h;unfold Sn.Tests
 intros
 rename_i hQ;have HQ:=hide hQ;clear hQ
 conv=>arg 2;whnf
 dsimp only [List.append];go_quiet (first | (go_at_call 45;refine Calls.quiet_of_same (uh cA _ ?_);exact (uh hL).on (gdw (World.grownBy.refl _ none) _)) | (go_at_call 75;exact Calls.quiet_of_same (uh cK _)) | (go_at_call 50;refine Calls.quiet_of_same (uh cE' _ ?_);exact (uh hL).on (gdw (World.grownBy.refl _ none) _)) | fail);exact uh HQ _ _ _ _ _ _ _ _ _ _ _ _ _ _ _ _ _ _ _ _ _ _ _ _ _ _ _ _ _ _ _ _ _ _ _ _ _ _ _ _ _ _ _ _ _ _ _ _ _ _ _ _ _ _ _ _ _ _ _ _ _ _ _ _ _ _ _ _ _ _ _ _ _ nq

end Go.Proofs.YtldgbkjceildfaaGreat
