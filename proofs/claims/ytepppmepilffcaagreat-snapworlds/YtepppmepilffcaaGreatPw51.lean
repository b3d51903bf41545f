import Derived.Test.YtepppmepilffcaaGreatPw29
namespace Go.Proofs.YtepppmepilffcaaGreat
open Go.RowKit

set_option maxHeartbeats 800000 in
theorem refHero_still (b n c:Nat) (E:Nat→Nat→Int) (seat:Int) (w:World) (hE:Ents w b n E) :
  Calls Tryz.prog 45 #[.slice (some ⟨b,0,none⟩) n c,.int .i64 seat] w fun e w'=>e=.returned (.int .i64 (En.first (En.heroQ E seat) n))∧w'=w:=by
 have hn:=hE.1
 have hE':=hide hE
 skip
 clear hE
 go_enter Tryz.func45,Tryz.ntmps45
 go_wp2_with fail
 go_loop [5] (fun i=>∃k:Nat,k≤n∧i=.int .i64 (k:Int)∧∀j,j<k→En.heroQ E seat j=false) (fun i=>40 - (intOf i).toNat)
 case atStart=>exact ⟨0,by omega,rfl,fun j hj=>by omega⟩
 case round =>
  obtain ⟨k,hk,rfl,hno⟩:=hrel
  have hno':=hide hno
  clear hno
  by_cases hlt:k<n
  ·obtain ⟨u0,_,u2,_⟩:=(uh hE').row hlt
   have hlt':(k:Int)<(n:Int):=by omega
   have HL:=hide hlt
   skip
   clear hlt
   by_cases hf:E k 0=1
   ·by_cases h3:E k 2=seat
    ·have hq:Hid (En.heroQ E seat k=true):=by show En.heroQ E seat k=true;simp [En.heroQ,hf,h3]
     have he:=hide (En.first_hit (uh hno') (uh hq) (uh HL))
     go_wp2
     go_ret
     exact ⟨rti (uh he).symm,rfl⟩
    ·have hq:Hid (En.heroQ E seat k=false):=by show En.heroQ E seat k=false;simp [En.heroQ,h3]
     have h3':(E k 2 == seat)=false:=by simp [h3]
     go_wp2
     go_round
     case rel=>exact ⟨k+1,by have:=uh HL;omega,by go_num,fun j hj=>by
      by_cases e:j=k
      ·rw [e];exact uh hq
      ·exact uh hno' j (by omega)⟩
     case measure=>simp [intOf];omega
   ·have hq:Hid (En.heroQ E seat k=false):=by show En.heroQ E seat k=false;simp [En.heroQ,hf]
    have hf':(E k 0 == 1)=false:=by simp [hf]
    go_wp2
    go_round
    case rel=>exact ⟨k+1,by have:=uh HL;omega,by go_num,fun j hj=>by
     by_cases e:j=k
     ·rw [e];exact uh hq
     ·exact uh hno' j (by omega)⟩
    case measure=>simp [intOf];omega
  ·have hge:¬(k:Int)<(n:Int):=by omega
   have he:=hide (En.first_none (n:=n) (fun j hj=>uh hno' j (by omega)))
   go_wp2
   go_ret
   exact ⟨rti (uh he).symm,rfl⟩

theorem Sn.front {w:World} {b n m:Nat} {E:Nat→Nat→Int} (h:Ents w b n E) (hm:m≤n):Ents w b m E:=⟨Nat.le_trans hm h.1,h.2.1,fun i j hi hj=>h.2.2 i j (by omega) hj⟩

theorem Sn.first_least (q:Nat→Bool) (n:Nat):-1≤En.first q n:=by
 rcases En.first_cases q n with ⟨h,_⟩ | ⟨k,_,h,_⟩ <;> omega

def Sn.fst:Code→Code
 | .seq a _=>a
 | c=>c

def Sn.aft:Nat→Code→Code
 | 0,c=>c
 | n+1,.seq _ b=>Sn.aft n b
 | _+1,c=>c

structure Sn.Looks (w:World) (B D F gC gE gI cC cE cI k:Nat) (s g c:Nat→Int) (E I:Nat→Nat→Int) (st:Nat→Int):Prop where
 box:Lie w B 31 11 (Gd.box s gC gE gI cC cE cI g)
 ent:Lie w D 61 11 (Ints (E k))
 fresh:Lie w F 61 11 (Ints st)
 lists:Gd.Lists w gC gE gI c E I
 cells:∀i,0≤c i∧c i≤255
 row:k<32
 cap:32≤cE

def Sn.Tests (w:World) (B D F k:Nat) (t:Bool):Prop :=
 ∀(Q:Exit→Act→World→Prop) (t0 t3 t4 t7 t8 t9 Aa Ab Ac Ad Ae Af Ag Ah Ai Aj Ak Al Am Ao Ap Aq Ar As Au Av Aw Ax Ay Az AA AB AC AD AE AF AG AH AI AJ AK AL AM AN AO AP AQ AR AS AT AU AV AW AX AY AZ A0 A1 A2 A3 A4 A5 A6 A7 A8 A9 Ba Bb Bc Bd Be Bf Bg Bh Bi Bj Bk Bl Bm Bn Bo Bp Bq Br Bs Bt Bu Bv Bw Bx Bz BA BB BC BD BE BF BG BH BI BJ BK BL BM BN BO BP BQ BR BS BT BU BV BW BX BY BZ B0 B1 B2 B3 B4 B5 B6 B7 B8 B9 Ca Cb Cc Cd Ce Cf Cg Ch Ci Cj Ck Cl Cm Cn Co:Value),(∀(u39 u40 u41 u42 u43 u44 u45 u46 u47 u48 u49 u50 u51 u52 u53 u54 u55 u56 u57 u58 u59 u60 u61 u62 u63 u64 u65 u66 u67 u68 u69 u70 u71 u72 u73 u74 u75 u76 u77 u78 u79 u80 u81 u82 u83 u84 u85 u86 u87 u88 u89 u90 u91 u92 u93 u94 u95 u96 u97 u98 u99 u100 u101 u102 u103 u104 u105 u106 u107 u108 u109 u110 u111:Value) (n:Nat),Q .normal ⟨#[t0,.int .i64 (k:Int),.pointer (some ⟨B,0,none⟩),t3,t4,.pointer (some ⟨D,0,none⟩),.pointer (some ⟨F,0,none⟩),t7,t8,t9,Aa,Ab,Ac,Ad,Ae,Af,Ag,Ah,Ai,Aj,Ak,Al,Am,Ao,Ap,Aq,Ar,As,Au,Av,Aw,Ax,Ay,Az,AA,AB,AC,AD,AE,u39,u40,u41,u42,u43,u44,u45,u46,u47,u48,u49,u50,u51,u52,u53,u54,u55,u56,u57,u58,u59,u60,u61,u62,u63,u64,u65,u66,u67,u68,u69,u70,u71,u72,u73,u74,u75,u76,u77,u78,u79,u80,u81,u82,u83,u84,u85,u86,u87,u88,u89,u90,u91,u92,u93,u94,u95,u96,u97,u98,u99,u100,u101,u102,u103,u104,u105,u106,u107,u108,u109,u110,u111,.bool t,BS,BT,BU,BV,BW,BX,BY,BZ,B0,B1,B2,B3,B4,B5,B6,B7,B8,B9,Ca,Cb,Cc,Cd,Ce,Cf,Cg,Ch,Ci,Cj,Ck,Cl,Cm,Cn,Co],[]⟩ (w.drewN n)) →
  Code.wp Tryz.prog (Sn.fst (Sn.fst (Sn.aft 6 (Tryz.f31.body.getD .skip)))) Q ⟨#[t0,.int .i64 (k:Int),.pointer (some ⟨B,0,none⟩),t3,t4,.pointer (some ⟨D,0,none⟩),.pointer (some ⟨F,0,none⟩),t7,t8,t9,Aa,Ab,Ac,Ad,Ae,Af,Ag,Ah,Ai,Aj,Ak,Al,Am,Ao,Ap,Aq,Ar,As,Au,Av,Aw,Ax,Ay,Az,AA,AB,AC,AD,AE,AF,AG,AH,AI,AJ,AK,AL,AM,AN,AO,AP,AQ,AR,AS,AT,AU,AV,AW,AX,AY,AZ,A0,A1,A2,A3,A4,A5,A6,A7,A8,A9,Ba,Bb,Bc,Bd,Be,Bf,Bg,Bh,Bi,Bj,Bk,Bl,Bm,Bn,Bo,Bp,Bq,Br,Bs,Bt,Bu,Bv,Bw,Bx,Bz,BA,BB,BC,BD,BE,BF,BG,BH,BI,BJ,BK,BL,BM,BN,BO,BP,BQ,BR,BS,BT,BU,BV,BW,BX,BY,BZ,B0,B1,B2,B3,B4,B5,B6,B7,B8,B9,Ca,Cb,Cc,Cd,Ce,Cf,Cg,Ch,Ci,Cj,Ck,Cl,Cm,Cn,Co],[]⟩ w

def Sn.Seated (w:World) (B D F k:Nat) (t:Bool):Prop :=
 ∀(Q:Exit→Act→World→Prop) (t0 t3 t4 t7 t8 t9 Aa Ab Ac Ad Ae Af Ag Ah Ai Aj Ak Al Am Ao Ap Aq Ar As Au Av Aw Ax Ay Az AA AB AC AD AE AF AG AH AI AJ AK AL AM AN AO AP AQ AR AS AT AU AV AW AX AY AZ A0 A1 A2 A3 A4 A5 A6 A7 A8 A9 Ba Bb Bc Bd Be Bf Bg Bh Bi Bj Bk Bl Bm Bn Bo Bp Bq Br Bs Bt Bu Bv Bw Bx Bz BA BB BC BD BE BF BG BH BI BJ BK BL BM BN BO BP BQ BR BS BT BU BV BW BX BY BZ B0 B1 B2 B3 B4 B5 B6 B7 B8 B9 Ca Cb Cc Cd Ce Cf Cg Ch Ci Cj Ck Cl Cm Cn Co:Value),(∀(u113 u114 u115 u116 u117 u118 u119 u120 u121 u122 u123 u124 u125 u126 u127 u128 u129 u130 u131 u132 u133 u134 u135 u136 u137 u138 u139 u140 u141 u142 u143 u144:Value) (n:Nat),Q .normal ⟨#[t0,.int .i64 (k:Int),.pointer (some ⟨B,0,none⟩),t3,t4,.pointer (some ⟨D,0,none⟩),.pointer (some ⟨F,0,none⟩),t7,t8,t9,Aa,Ab,Ac,Ad,Ae,Af,Ag,Ah,Ai,Aj,Ak,Al,Am,Ao,Ap,Aq,Ar,As,Au,Av,Aw,Ax,Ay,Az,AA,AB,AC,AD,AE,AF,AG,AH,AI,AJ,AK,AL,AM,AN,AO,AP,AQ,AR,AS,AT,AU,AV,AW,AX,AY,AZ,A0,A1,A2,A3,A4,A5,A6,A7,A8,A9,Ba,Bb,Bc,Bd,Be,Bf,Bg,Bh,Bi,Bj,Bk,Bl,Bm,Bn,Bo,Bp,Bq,Br,Bs,Bt,Bu,Bv,Bw,Bx,Bz,BA,BB,BC,BD,BE,BF,BG,BH,BI,BJ,BK,BL,BM,BN,BO,BP,BQ,BR,u113,u114,u115,u116,u117,u118,u119,u120,u121,u122,u123,u124,u125,u126,u127,u128,u129,u130,u131,u132,u133,u134,u135,u136,u137,u138,u139,u140,u141,u142,u143,u144,.bool t],[]⟩ (w.drewN n)) →
  Code.wp Tryz.prog (Sn.fst (Sn.fst (Sn.aft 7 (Tryz.f31.body.getD .skip)))) Q ⟨#[t0,.int .i64 (k:Int),.pointer (some ⟨B,0,none⟩),t3,t4,.pointer (some ⟨D,0,none⟩),.pointer (some ⟨F,0,none⟩),t7,t8,t9,Aa,Ab,Ac,Ad,Ae,Af,Ag,Ah,Ai,Aj,Ak,Al,Am,Ao,Ap,Aq,Ar,As,Au,Av,Aw,Ax,Ay,Az,AA,AB,AC,AD,AE,AF,AG,AH,AI,AJ,AK,AL,AM,AN,AO,AP,AQ,AR,AS,AT,AU,AV,AW,AX,AY,AZ,A0,A1,A2,A3,A4,A5,A6,A7,A8,A9,Ba,Bb,Bc,Bd,Be,Bf,Bg,Bh,Bi,Bj,Bk,Bl,Bm,Bn,Bo,Bp,Bq,Br,Bs,Bt,Bu,Bv,Bw,Bx,Bz,BA,BB,BC,BD,BE,BF,BG,BH,BI,BJ,BK,BL,BM,BN,BO,BP,BQ,BR,BS,BT,BU,BV,BW,BX,BY,BZ,B0,B1,B2,B3,B4,B5,B6,B7,B8,B9,Ca,Cb,Cc,Cd,Ce,Cf,Cg,Ch,Ci,Cj,Ck,Cl,Cm,Cn,Co],[]⟩ w


open Go.RowKit

set_option maxRecDepth 16000 in
set_option maxHeartbeats 12800000 in
theorem Sn.tests_walk {w:World} {B D F gC gE gI cC cE cI k:Nat} {s g c:Nat→Int} {E I:Nat→Nat→Int} {st:Nat→Int} (h:Sn.Looks w B D F gC gE gI cC cE cI k s g c E I st) (hw:Gr.walkB (Gr.at 384 c (E k 3) (E k 4))=false):Sn.Tests w B D F k true:=by
 have hL:=hide h.lists
 have cA:=hide (fun z (hz:Gd.Lists z gC gE gI c E I)=>refAt_any z.heap.size (some ⟨gC,0,none⟩) 384 cC c (E k 3) (E k 4) z hz.vec h.cells)
 have cK:=hide (fun z=>refWalk_any (Gr.at 384 c (E k 3) (E k 4)) z)
 rw [hw] at cK
 obtain ⟨at_,hat⟩:∃a,Gr.at 384 c (E k 3) (E k 4)=a:=⟨_,rfl⟩
 rw [hat] at cA cK
 have b4:=h.box.eleven.2.2.2.2.1
 obtain ⟨-,-,-,d3,d4,-,-,-,-,-,-⟩:=Sn.row h.ent
 clear hw hat
 clear h
 unfold Sn.Tests
 intros
 rename_i hQ
 have HQ:=hide hQ
 clear hQ
 conv=>arg 2;whnf
 dsimp only [List.append]
 go_quiet (first | (go_at_call 51;refine Calls.quiet_of_same (uh cA _ ?_);exact (uh hL).on (gdw (World.grownBy.refl _ none) _)) | (go_at_call 67;exact Calls.quiet_of_same (uh cK _)) | fail)
 exact uh HQ _ _ _ _ _ _ _ _ _ _ _ _ _ _ _ _ _ _ _ _ _ _ _ _ _ _ _ _ _ _ _ _ _ _ _ _ _ _ _ _ _ _ _ _ _ _ _ _ _ _ _ _ _ _ _ _ _ _ _ _ _ _ _ _ _ _ _ _ _ _ _ _ _ nq

set_option maxRecDepth 16000 in
set_option maxHeartbeats 12800000 in
theorem Sn.tests_one {w:World} {B D F gC gE gI cC cE cI k:Nat} {s g c:Nat→Int} {E I:Nat→Nat→Int} {st:Nat→Int} (h:Sn.Looks w B D F gC gE gI cC cE cI k s g c E I st) (hw:Gr.walkB (Gr.at 384 c (E k 3) (E k 4))=true) {f:Int} (hf:En.first (En.atQ E (E k 3) (E k 4)) k=f) (f0:f≥0):Sn.Tests w B D F k true:=by
 have hL:=hide h.lists
 have cA:=hide (fun z (hz:Gd.Lists z gC gE gI c E I)=>refAt_any z.heap.size (some ⟨gC,0,none⟩) 384 cC c (E k 3) (E k 4) z hz.vec h.cells)
 have cK:=hide (fun z=>refWalk_any (Gr.at 384 c (E k 3) (E k 4)) z)
 rw [hw] at cK
 obtain ⟨at_,hat⟩:∃a,Gr.at 384 c (E k 3) (E k 4)=a:=⟨_,rfl⟩
 rw [hat] at cA cK
 have b4:=h.box.eleven.2.2.2.2.1
 have cE':=hide (fun z (hz:Gd.Lists z gC gE gI c E I)=>entRefAt_same gE k cE E (E k 3) (E k 4) z (Sn.front hz.own.ents (by have:=h.row;omega)))
 rw [hf] at cE'
 have b5:=h.box.eleven.2.2.2.2.2.1
 have q7:(k:Int)≤(cE:Int):=by have:=h.cap;have:=h.row;omega
 have q8:¬(k:Int)<0:=by omega
 obtain ⟨-,-,-,d3,d4,-,-,-,-,-,-⟩:=Sn.row h.ent
 clear hw hat hf
 clear h
 unfold Sn.Tests
 intros
 rename_i hQ
 have HQ:=hide hQ
 clear hQ
 conv=>arg 2;whnf
 dsimp only [List.append]
 go_quiet (first | (go_at_call 51;refine Calls.quiet_of_same (uh cA _ ?_);exact (uh hL).on (gdw (World.grownBy.refl _ none) _)) | (go_at_call 67;exact Calls.quiet_of_same (uh cK _)) | (go_at_call 56;refine Calls.quiet_of_same (uh cE' _ ?_);exact (uh hL).on (gdw (World.grownBy.refl _ none) _)) | fail)
 exact uh HQ _ _ _ _ _ _ _ _ _ _ _ _ _ _ _ _ _ _ _ _ _ _ _ _ _ _ _ _ _ _ _ _ _ _ _ _ _ _ _ _ _ _ _ _ _ _ _ _ _ _ _ _ _ _ _ _ _ _ _ _ _ _ _ _ _ _ _ _ _ _ _ _ _ nq

set_option maxRecDepth 16000 in
set_option maxHeartbeats 12800000 in
theorem Sn.tests_hp1 {w:World} {B D F gC gE gI cC cE cI k:Nat} {s g c:Nat→Int} {E I:Nat→Nat→Int} {st:Nat→Int} (h:Sn.Looks w B D F gC gE gI cC cE cI k s g c E I st) (hw:Gr.walkB (Gr.at 384 c (E k 3) (E k 4))=true) {f:Int} (hf:En.first (En.atQ E (E k 3) (E k 4)) k=f) (f0:¬f≥0) (m0:E k 5<1):Sn.Tests w B D F k true:=by
 have hL:=hide h.lists
 have cA:=hide (fun z (hz:Gd.Lists z gC gE gI c E I)=>refAt_any z.heap.size (some ⟨gC,0,none⟩) 384 cC c (E k 3) (E k 4) z hz.vec h.cells)
 have cK:=hide (fun z=>refWalk_any (Gr.at 384 c (E k 3) (E k 4)) z)
 rw [hw] at cK
 obtain ⟨at_,hat⟩:∃a,Gr.at 384 c (E k 3) (E k 4)=a:=⟨_,rfl⟩
 rw [hat] at cA cK
 have b4:=h.box.eleven.2.2.2.2.1
 have cE':=hide (fun z (hz:Gd.Lists z gC gE gI c E I)=>entRefAt_same gE k cE E (E k 3) (E k 4) z (Sn.front hz.own.ents (by have:=h.row;omega)))
 rw [hf] at cE'
 have b5:=h.box.eleven.2.2.2.2.2.1
 have q7:(k:Int)≤(cE:Int):=by have:=h.cap;have:=h.row;omega
 have q8:¬(k:Int)<0:=by omega
 obtain ⟨-,-,-,d3,d4,d5,-,-,-,-,-⟩:=Sn.row h.ent
 clear hw hat hf
 clear h
 unfold Sn.Tests
 intros
 rename_i hQ
 have HQ:=hide hQ
 clear hQ
 conv=>arg 2;whnf
 dsimp only [List.append]
 go_quiet (first | (go_at_call 51;refine Calls.quiet_of_same (uh cA _ ?_);exact (uh hL).on (gdw (World.grownBy.refl _ none) _)) | (go_at_call 67;exact Calls.quiet_of_same (uh cK _)) | (go_at_call 56;refine Calls.quiet_of_same (uh cE' _ ?_);exact (uh hL).on (gdw (World.grownBy.refl _ none) _)) | fail)
 exact uh HQ _ _ _ _ _ _ _ _ _ _ _ _ _ _ _ _ _ _ _ _ _ _ _ _ _ _ _ _ _ _ _ _ _ _ _ _ _ _ _ _ _ _ _ _ _ _ _ _ _ _ _ _ _ _ _ _ _ _ _ _ _ _ _ _ _ _ _ _ _ _ _ _ _ nq

end Go.Proofs.YtepppmepilffcaaGreat
