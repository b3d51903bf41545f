import Derived.Test.YtepppmepilffcaaGreatPart20
namespace Go.Proofs.YtepppmepilffcaaGreat
open Go.RowKit

set_option maxRecDepth 8000 in
set_option maxHeartbeats 3200000 in
theorem isSound_any (e:Nat→Int) (w:World):Calls Tryz.prog 60 #[.agg (En.cells e)] w (Says w (.bool (Sn.soundB e))):=by
 obtain ⟨w0,hw0⟩:∃w0,w0=w.alloc (.cells (En.cells e) 61):=⟨_,rfl⟩
 have hg0:Hid (w.grownBy w0 none):=by show w.grownBy w0 none;rw [hw0];exact World.grownBy_alloc _ _ _
 have hD:Hid (Lie w0 w.heap.size 61 11 (Ints e)):=by show Lie w0 _ _ _ _;rw [hw0];exact Sn.born w e 61
 obtain ⟨st,hst⟩:∃st,En.stats (e 0)=st:=⟨_,rfl⟩
 have cst:=hide (fun x=>entStats_any (e 0) x)
 rw [hst] at cst
 have hd:Hid (Sn.soundB e=((e 6 == st 6) && ((e 7 == st 7) && ((e 8 == st 8) && (Sn.inB (e 5) 1 (e 6) && (Sn.inB (e 9) 0 9 && Sn.inB (e 10) 0 9)))))):=by
  show Sn.soundB e=_
  unfold Sn.soundB Sn.inB
  rw [hst,Bool.eq_iff_iff]
  simp only [decide_eq_true_eq,Bool.and_eq_true,beq_iff_eq]
  omega
 obtain ⟨k1,h1⟩:∃k,(e 6 == st 6)=k:=⟨_,rfl⟩
 obtain ⟨k2,h2⟩:∃k,(e 7 == st 7)=k:=⟨_,rfl⟩
 obtain ⟨k3,h3⟩:∃k,(e 8 == st 8)=k:=⟨_,rfl⟩
 have c4:=hide (fun x=>snWithin_any (e 5) 1 (e 6) x)
 have c5:=hide (fun x=>snWithin_any (e 9) 0 9 x)
 have c6:=hide (fun x=>snWithin_any (e 10) 0 9 x)
 obtain ⟨k4,h4⟩:∃k,Sn.inB (e 5) 1 (e 6)=k:=⟨_,rfl⟩
 obtain ⟨k5,h5⟩:∃k,Sn.inB (e 9) 0 9=k:=⟨_,rfl⟩
 obtain ⟨k6,h6⟩:∃k,Sn.inB (e 10) 0 9=k:=⟨_,rfl⟩
 rw [h1,h2,h3,h4,h5,h6] at hd
 rw [h4] at c4
 rw [h5] at c5
 rw [h6] at c6
 clear hst h4 h5 h6
 unfold En.cells at hw0 cst ⊢
 go_enter Tryz.func60,Tryz.ntmps60
 go_upto_region 1 with fail
 rw [←hw0]
 clear hw0
 obtain ⟨B,hBe⟩:∃B,w.heap.size=B:=⟨_,rfl⟩
 rw [hBe] at hD ⊢
 clear hBe
 have d0:=(Sn.row (uh hD)).1
 go_wp2_with fail
 refine (uh cst _).mono ?_
 rintro _ w2 ⟨rfl,hg2⟩
 have hF:=hide (Sn.born w2 st 61)
 have hgB:=hide (gtr hg2 (World.grownBy_alloc w2 (.cells (En.cells st) 61) none))
 have hD2:=hide ((uh hD).on (uh hgB))
 have hg3:=hide (gtr (uh hg0) (uh hgB))
 clear hg2 hgB cst d0 hD hg0
 unfold En.cells at hF hD2 hg3
 go_upto_region 2 with fail
 obtain ⟨F,hFe⟩:∃F,w2.heap.size=F:=⟨_,rfl⟩
 rw [hFe] at hF ⊢
 generalize w2.alloc (.cells #[.int .i64 (st 0),.int .i64 (st 1),.int .i64 (st 2),.int .i64 (st 3),.int .i64 (st 4),.int .i64 (st 5),.int .i64 (st 6),.int .i64 (st 7),.int .i64 (st 8),.int .i64 (st 9),.int .i64 (st 10)] 61)=w3 at hF hD2 hg3 ⊢
 clear hFe w2
 obtain ⟨-,-,-,-,-,d5,d6,d7,d8,d9,d10⟩:=Sn.row (uh hD2)
 obtain ⟨-,-,-,-,-,-,z6,z7,z8,-,-⟩:=Sn.row (uh hF)
 clear hF hD2
 cases k1 with
 | false=>go_wp2;go_ret;exact ⟨ret_bool (uh hd).symm,uh hg3⟩
 | true =>
 cases k2 with
 | false=>go_wp2;go_ret;exact ⟨ret_bool (uh hd).symm,uh hg3⟩
 | true =>
 cases k3 with
 | false=>go_wp2;go_ret;exact ⟨ret_bool (uh hd).symm,uh hg3⟩
 | true =>
 go_wp2_with fail
 refine (uh c4 _).mono ?_
 rintro _ w4 ⟨rfl,rfl⟩
 cases k4 with
 | false=>go_wp2;go_ret;exact ⟨ret_bool (uh hd).symm,uh hg3⟩
 | true =>
 go_wp2_with fail
 refine (uh c5 _).mono ?_
 rintro _ w4 ⟨rfl,rfl⟩
 cases k5 with
 | false=>go_wp2;go_ret;exact ⟨ret_bool (uh hd).symm,uh hg3⟩
 | true =>
 go_wp2_with fail
 refine (uh c6 _).mono ?_
 rintro _ w4 ⟨rfl,rfl⟩
 go_wp2
 go_ret
 exact ⟨ret_bool (by rw [uh hd];rfl),uh hg3⟩

theorem Sn.first_row {q:Nat→Bool} {k n:Nat} (hk:k<n) (hq:q k=true):(En.first q n=(k:Int)↔En.first q k=-1):=by
 constructor
 ·intro h
  refine En.first_none fun j hj=>?_
  rcases En.first_cases q n with ⟨h1,_⟩ | ⟨m,_,h1,_,hno⟩
  ·omega
  ·have:m=k:=by omega
   subst this
   exact hno j hj
 ·intro h
  refine En.first_hit (fun j hj=>?_) hq hk
  rcases En.first_cases q k with ⟨_,hno⟩ | ⟨m,_,h1,_,_⟩
  ·exact hno j hj
  ·omega

set_option maxRecDepth 8000 in
set_option maxHeartbeats 3200000 in
theorem standsAlone_any (s g c:Nat→Int) (E I:Nat→Nat→Int) (gC gE gI cC cE cI k:Nat) (w:World) (hL:Gd.Lists w gC gE gI c E I) (hc:∀i,0≤c i∧c i≤255) (hcE:32≤cE) (hk:k<32) (h0:E k 0≠0) :
  Calls Tryz.prog 61 #[.agg (Gd.world s gC gE gI cC cE cI g),.int .i64 (k:Int)] w (Says w (.bool (Sn.aloneB c E k))):=by
 obtain ⟨w0,hw0⟩:∃w0,w0=w.alloc (.cells (Gd.world s gC gE gI cC cE cI g) 31):=⟨_,rfl⟩
 have hg0:w.grownBy w0 none:=by rw [hw0];exact World.grownBy_alloc _ _ _
 have hB:Hid (Lie w0 w.heap.size 31 11 (Gd.box s gC gE gI cC cE cI g)):=by show Lie w0 _ _ _ _;rw [hw0];exact (Arr.world (heap_alloc_new w _)).lie
 have hL0:=hide (hL.on hg0)
 have hgr:=hide hg0
 have HK:=hide hk
 have hk':(k:Int)<32:=by omega
 have ca:=hide (fun z (hz:Gd.Lists z gC gE gI c E I)=>at_any z.heap.size (some ⟨gC,0,none⟩) 384 cC c (E k 3) (E k 4) z hz.vec hc)
 have ck:=hide (fun x=>walk_any (Gr.at 384 c (E k 3) (E k 4)) x)
 have ce:=hide (fun z (hz:Gd.Lists z gC gE gI c E I)=>entAt_any gE 32 cE E (E k 3) (E k 4) z hz.own.ents hcE)
 have hd:Hid (Sn.aloneB c E k=(Gr.walkB (Gr.at 384 c (E k 3) (E k 4)) && (En.first (En.atQ E (E k 3) (E k 4)) 32 == (k:Int)))):=by
  show Sn.aloneB c E k=_
  unfold Sn.aloneB
  have hq:En.atQ E (E k 3) (E k 4) k=true:=by simp [En.atQ,h0]
  rw [Bool.eq_iff_iff]
  simp only [Bool.and_eq_true,decide_eq_true_eq,beq_iff_eq]
  rw [Sn.first_row hk hq]
 obtain ⟨a,ha⟩:∃a,Gr.at 384 c (E k 3) (E k 4)=a:=⟨_,rfl⟩
 rw [ha] at ca ck hd
 obtain ⟨q,hq⟩:∃q,Gr.walkB a=q:=⟨_,rfl⟩
 rw [hq] at ck hd
 obtain ⟨f,hf⟩:∃f,En.first (En.atQ E (E k 3) (E k 4)) 32=f:=⟨_,rfl⟩
 rw [hf] at ce hd
 obtain ⟨p,hp⟩:∃p,(f == (k:Int))=p:=⟨_,rfl⟩
 rw [hp] at hd
 clear hL hc hcE hk h0 hg0 ha hq hf
 unfold Gd.world at hw0 ⊢
 go_enter Tryz.func61,Tryz.ntmps61
 go_upto_region 1 with fail
 rw [←hw0]
 clear hw0
 obtain ⟨B,hBe⟩:∃B,w.heap.size=B:=⟨_,rfl⟩
 rw [hBe] at hB ⊢
 clear hBe
 have b5:=(uh hB).eleven.2.2.2.2.2.1
 obtain ⟨r0,r1,r2,r3,r4,r5,r6,r7,r8,r9,r10⟩:=(uh hL0).own.ents.row (uh HK)
 obtain ⟨w1,hw1⟩:∃w1,w1=w0.alloc (.cells (En.cells (E k)) 61):=⟨_,rfl⟩
 have hgA:w0.grownBy w1 none:=by rw [hw1];exact World.grownBy_alloc _ _ _
 have hD:Hid (Lie w1 w0.heap.size 61 11 (Ints (E k))):=by show Lie w1 _ _ _ _;rw [hw1];exact Sn.born w0 (E k) 61
 have hL1:=hide ((uh hL0).on hgA)
 have hB1:=hide ((uh hB).on hgA)
 have hg1:=hide (gtr (uh hgr) hgA)
 clear hgA hB hL0 hgr
 unfold En.cells at hw1
 go_upto_region 2 with fail
 rw [←hw1]
 clear hw1 b5 r0 r1 r2 r3 r4 r5 r6 r7 r8 r9 r10
 obtain ⟨D,hDe⟩:∃D,w0.heap.size=D:=⟨_,rfl⟩
 rw [hDe] at hD ⊢
 clear hDe w0
 have b4:=(uh hB1).eleven.2.2.2.2.1
 have b5:=(uh hB1).eleven.2.2.2.2.2.1
 obtain ⟨-,-,-,d3,d4,-,-,-,-,-,-⟩:=Sn.row (uh hD)
 go_wp2_with fail
 refine (uh ca _ (uh hL1)).mono ?_
 rintro _ w2 ⟨rfl,rfl⟩
 go_wp2_with fail
 refine (uh ck _).mono ?_
 rintro _ w2 ⟨rfl,rfl⟩
 cases q with
 | false=>go_wp2;go_ret;exact ⟨ret_bool (uh hd).symm,uh hg1⟩
 | true =>
  go_wp2_with fail
  refine (uh ce _ (uh hL1)).mono ?_
  rintro _ w2 ⟨rfl,hg2⟩
  have hgf:=hide (gtr (uh hg1) hg2)
  clear hg2 b4 b5 d3 d4 hL1 hB1 hD hg1
  go_wp2
  go_ret
  exact ⟨ret_bool (by rw [uh hd];rfl),uh hgf⟩

set_option maxRecDepth 8000 in
set_option maxHeartbeats 3200000 in
theorem isSeated_any (gE cE k:Nat) (E:Nat→Nat→Int) (w:World) (hE:Ents w gE 32 E) (hcE:32≤cE) (hk:k<32) :
  Calls Tryz.prog 62 #[.slice (some ⟨gE,0,none⟩) 32 cE,.int .i64 (k:Int)] w (Says w (.bool (Sn.seatedB E k))):=by
 have hk':(k:Int)<32:=by omega
 obtain ⟨r0,-,r2,-,-,-,-,-,-,-,-⟩:=hE.row hk
 have cw:=hide (fun x=>snWithin_any (E k 2) 0 3 x)
 have ch:=hide (hero_any gE 32 cE E (E k 2) w hE hcE)
 by_cases h1:E k 0=1
 ·have hd:Hid (Sn.seatedB E k=(Sn.inB (E k 2) 0 3 && (En.first (En.heroQ E (E k 2)) 32 == (k:Int)))):=by
   show Sn.seatedB E k=_
   unfold Sn.seatedB Sn.inB
   have hq:En.heroQ E (E k 2) k=true:=by simp [En.heroQ,h1]
   rw [if_pos h1,Bool.eq_iff_iff]
   simp only [Bool.and_eq_true,decide_eq_true_eq,beq_iff_eq]
   rw [Sn.first_row hk hq,and_assoc]
  obtain ⟨q,hq⟩:∃q,Sn.inB (E k 2) 0 3=q:=⟨_,rfl⟩
  rw [hq] at cw hd
  obtain ⟨f,hf⟩:∃f,En.first (En.heroQ E (E k 2)) 32=f:=⟨_,rfl⟩
  rw [hf] at ch hd
  obtain ⟨p,hp⟩:∃p,(f == (k:Int))=p:=⟨_,rfl⟩
  rw [hp] at hd
  rw [h1] at r0
  clear hE hcE hk h1 hq hf
  go_enter Tryz.func62,Tryz.ntmps62
  go_wp2_with fail
  refine (uh cw _).mono ?_
  rintro _ w2 ⟨rfl,rfl⟩
  cases q with
  | false=>go_wp2;go_ret;exact ⟨ret_bool (uh hd).symm,World.grownBy.refl _ _⟩
  | true =>
   go_wp2_with fail
   refine (uh ch).mono ?_
   rintro _ w2 ⟨rfl,hg2⟩
   have hgf:=hide hg2
   clear hg2 r0 r2
   go_wp2
   go_ret
   exact ⟨ret_bool (by rw [uh hd];rfl),uh hgf⟩
 ·have h1':(E k 0 != 1)=true:=by simp [h1]
  have hd:Hid (Sn.seatedB E k=(E k 2 == 0)):=by
   show Sn.seatedB E k=_
   unfold Sn.seatedB
   rw [if_neg h1,Bool.eq_iff_iff]
   simp only [decide_eq_true_eq,beq_iff_eq]
  obtain ⟨p,hp⟩:∃p,(E k 2 == 0)=p:=⟨_,rfl⟩
  rw [hp] at hd
  clear hE hcE hk h1 cw ch
  go_enter Tryz.func62,Tryz.ntmps62
  go_wp2
  go_ret
  exact ⟨ret_bool (uh hd).symm,World.grownBy.refl _ _⟩


open Go.RowKit

def Sn.sameE (e f:Nat→Int):Bool:=decide (e 0=f 0) && (decide (e 1=f 1) && (decide (e 2=f 2) && (decide (e 3=f 3) && (decide (e 4=f 4) && (decide (e 5=f 5) && (decide (e 6=f 6) && (decide (e 7=f 7) && (decide (e 8=f 8) && (decide (e 9=f 9) && decide (e 10=f 10))))))))))

theorem Sn.sameE_iff (e f:Nat→Int):Sn.sameE e f=true↔∀j,j<11→e j=f j:=by
 unfold Sn.sameE
 simp only [Bool.and_eq_true,decide_eq_true_eq]
 constructor
 ·rintro ⟨h0,h1,h2,h3,h4,h5,h6,h7,h8,h9,h10⟩ j hj
  rcases (show j=0∨j=1∨j=2∨j=3∨j=4∨j=5∨j=6∨j=7∨j=8∨j=9∨j=10 by omega) with rfl | rfl | rfl | rfl | rfl | rfl | rfl | rfl | rfl | rfl | rfl <;> assumption
 ·intro h
  exact ⟨h 0 (by omega),h 1 (by omega),h 2 (by omega),h 3 (by omega),h 4 (by omega),h 5 (by omega),h 6 (by omega),h 7 (by omega),h 8 (by omega),h 9 (by omega),h 10 (by omega)⟩

set_option maxHeartbeats 1600000 in
theorem run_ne_ent (e f:Nat→Int) (w:World):(binOp .neq 61 (.agg #[.int .i64 (e 0),.int .i64 (e 1),.int .i64 (e 2),.int .i64 (e 3),.int .i64 (e 4),.int .i64 (e 5),.int .i64 (e 6),.int .i64 (e 7),.int .i64 (e 8),.int .i64 (e 9),.int .i64 (e 10)]) (.agg #[.int .i64 (f 0),.int .i64 (f 1),.int .i64 (f 2),.int .i64 (f 3),.int .i64 (f 4),.int .i64 (f 5),.int .i64 (f 6),.int .i64 (f 7),.int .i64 (f 8),.int .i64 (f 9),.int .i64 (f 10)])).run Tryz.prog w=.ok (.bool (!Sn.sameE e f)) w:=by
 unfold Sn.sameE
 by_cases h0:e 0=f 0
 ·by_cases h1:e 1=f 1
  ·by_cases h2:e 2=f 2
   ·by_cases h3:e 3=f 3
    ·by_cases h4:e 4=f 4
     ·by_cases h5:e 5=f 5
      ·by_cases h6:e 6=f 6
       ·by_cases h7:e 7=f 7
        ·by_cases h8:e 8=f 8
         ·by_cases h9:e 9=f 9
          ·by_cases h10:e 10=f 10
           ·simp [go_sem,h0,h1,h2,h3,h4,h5,h6,h7,h8,h9,h10]
           ·simp [go_sem,h0,h1,h2,h3,h4,h5,h6,h7,h8,h9,h10]
          ·simp [go_sem,h0,h1,h2,h3,h4,h5,h6,h7,h8,h9]
         ·simp [go_sem,h0,h1,h2,h3,h4,h5,h6,h7,h8]
        ·simp [go_sem,h0,h1,h2,h3,h4,h5,h6,h7]
       ·simp [go_sem,h0,h1,h2,h3,h4,h5,h6]
      ·simp [go_sem,h0,h1,h2,h3,h4,h5]
     ·simp [go_sem,h0,h1,h2,h3,h4]
    ·simp [go_sem,h0,h1,h2,h3]
   ·simp [go_sem,h0,h1,h2]
  ·simp [go_sem,h0,h1]
 ·simp [go_sem,h0]


open Go.RowKit

set_option maxRecDepth 8000 in
set_option maxHeartbeats 3200000 in
theorem refSpot_any (ca:Option Addr) (cc b n c:Nat) (f:Nat→Int) (E:Nat→Nat→Int) (x y:Int) (w:World)
  (hc:Vec w.heap.size w ca 384 (Byts f)) (hf:∀i,0≤f i∧f i≤255) (hE:Ents w b n E) :
  Calls Tryz.prog 79 #[.slice ca 384 cc,.slice (some ⟨b,0,none⟩) n c,.int .i64 x,.int .i64 y] w (Nv.SaysSpot w f E n x y):=by
 have hc':=hide hc
 have hf':=hide hf
 have hE':=hide hE
 clear hc hf hE
 by_cases hin:Gr.inB x y=true
 case neg =>
  rw [Bool.not_eq_true] at hin
  have he:=hide (Nv.spot_out (f:=f) (E:=E) (n:=n) (show Nv.num x y=-1 from if_neg (by rw [hin];simp)))
  have cI:=hide (fun wq=>refIn_any x y wq)
  rw [hin] at cI
  clear hin
  go_enter Tryz.func79,Tryz.ntmps79
  go_wp2_with fail
  refine (uh cI _).mono ?_
  rintro e w1 ⟨rfl,rfl⟩
  go_wp2
  go_ret
  exact ⟨_,uh he,rfl,World.grownBy.refl _ _⟩
 obtain ⟨b1,b2,b3,b4⟩:=(Gr.inB_iff _ _).1 hin
 obtain ⟨X,rfl⟩:∃X:Nat,x=(X:Int):=⟨x.toNat,by omega⟩
 obtain ⟨Y,rfl⟩:∃Y:Nat,y=(Y:Int):=⟨y.toNat,by omega⟩
 have hX:X<24:=by omega
 have hY:Y<16:=by omega
 have hme:Nv.num (X:Int) (Y:Int)=(Y:Int)*24+X:=by unfold Nv.num;rw [if_pos hin]
 have hs0:Hid (∀F,Gr.IsField (fun i=>Gr.openB f 0 (fun _=>false) i=true) (Gr.tgt f (fun _=>(Y:Int)*24+X) 1) F→Nv.IsSpot f E n X Y (Nv.best F (Nv.st E n) 384)):=fun F h=>⟨F,by rw [hme];exact h,rfl⟩
 have cI:=hide (fun wq=>refIn_any (X:Int) (Y:Int) wq)
 rw [hin] at cI
 clear hin b1 b2 b3 b4 hme
 go_enter Tryz.func79,Tryz.ntmps79
 go_wp2_with fail
 refine (uh cI _).mono ?_
 rintro e w1 ⟨rfl,rfl⟩
 go_wp2_with fail
 obtain ⟨w3,hw3⟩:∃w3,w3=w1.alloc (.cells #[.int .i64 ((Y:Int)*24+X)] 3):=⟨_,rfl⟩
 have hB3:Below w1.heap.size w1 w3:=by rw [hw3];exact (Below.refl _ _).alloc (Nat.le_refl _) _
 have hV:Vec w3.heap.size w3 (some ⟨w1.heap.size,0,none⟩) 1 (Ints fun _=>(Y:Int)*24+X):=by rw [hw3];exact Nv.one_row w1 _ _
 rw [←hw3]
 refine (refField_any ca none (some ⟨w1.heap.size,0,none⟩) 0 1 cc 0 1 f (fun _=>(Y:Int)*24+X) (fun _=>false) w3 (((uh hc').kept hB3).mono hB3.size) (uh hf') ⟨by unfold maxLen;omega,.inl rfl⟩ hV (fun _=>⟨by omega,by omega⟩)).mono ?_
 rintro e w4 ⟨F,⟨g2,rfl,hg2,hA4,hB4⟩,hF⟩
 have hspot:=hide (uh hs0 F hF)
 have hgw:=below_grown (hB3.trans (hB4.mono hB3.size))
 have hgw':=hide hgw
 have hEw:=hide ((uh hE').on hgw)
 have hA4':=hide hA4
 clear hA4 hB4 hV hB3 hw3 hF hs0 hg2 hgw cI hE' hc'
 go_wp2_with fail
 go_loopw [10,11] (fun s i wr=>∃k:Nat,k≤384∧s=.int .i64 (Nv.best F (Nv.st E n) k)∧i=.int .i64 (k:Int)∧w4.grownBy wr none) (fun _ i _=>384 - (intOf i).toNat)
 case atStart=>exact ⟨0,by omega,rfl,rfl,World.grownBy.refl _ _⟩
 case round =>
  obtain ⟨k,hk,rfl,rfl,hgr⟩:=hrel
  by_cases hlt:k<384
  ·have hlt':(k:Int)<384:=by omega
   have HL:=hide hlt
   have hck:wr.cell? ⟨g2,k,none⟩=some (.int .i64 (F k)):=((uh hA4').grown hgr (by simp)).cell hlt
   have cA:∀q,Calls Tryz.prog 56 #[.slice (some ⟨b,0,none⟩) n c,.int .i64 ((k % 24:Nat):Int),.int .i64 ((k / 24:Nat):Int)] (wr.drewN q) fun e w'=>e=.returned (.int .i64 (En.first (En.atQ E ((k % 24:Nat):Int) ((k / 24:Nat):Int)) n))∧w'=wr.drewN q:=fun q=>entRefAt_same b n c E _ _ _ ((uh hEw).on (gdw hgr q))
   have hgd:Hid (∀q,w4.grownBy (wr.drewN q) none):=fun q=>gdw hgr q
   have hst:Nv.st E n k=decide (0≤En.first (En.atQ E ((k % 24:Nat):Int) ((k / 24:Nat):Int)) n):=rfl
   generalize En.first (En.atQ E ((k % 24:Nat):Int) ((k / 24:Nat):Int)) n=r at cA hst
   have hcp:Hid (∀p,p<k→wr.cell? ⟨g2,p,none⟩=some (.int .i64 (F p))):=fun p hp=>((uh hA4').grown hgr (by simp)).cell (by omega)
   clear hlt hk hgr
   by_cases h1:F k<0
   ·have hb:=hide (Nv.best_skip (F:=F) (st:=Nv.st E n) (k:=k) (.inl h1))
    generalize Nv.best F (Nv.st E n) k=B at hb
    have h1':decide (F k≥0)=false:=decide_eq_false (by omega)
    clear hst
    go_wp2_with fail
    go_quiet ((go_at_call 56;exact Calls.quiet_of_same (cA _)))
    go_wp2
    go_roundw
    case rel=>exact ⟨k+1,by have:=uh HL;omega,by rw [uh hb],by go_num,uh hgd _⟩
    case measure=>have:=uh HL;simp [intOf];omega
   have h1':decide (F k≥0)=true:=decide_eq_true (by omega)
   by_cases h2:0≤r
   ·have hb:=hide (Nv.best_skip (F:=F) (st:=Nv.st E n) (k:=k) (.inr (by rw [hst];exact decide_eq_true h2)))
    generalize Nv.best F (Nv.st E n) k=B at hb
    have h2':decide (r<0)=false:=decide_eq_false (by omega)
    clear hst
    go_wp2_with fail
    go_quiet ((go_at_call 56;exact Calls.quiet_of_same (cA _)))
    go_wp2
    go_roundw
    case rel=>exact ⟨k+1,by have:=uh HL;omega,by rw [uh hb],by go_num,uh hgd _⟩
    case measure=>have:=uh HL;simp [intOf];omega
   have hsf:Nv.st E n k=false:=by rw [hst];exact decide_eq_false h2
   have h2':decide (r<0)=true:=decide_eq_true (by omega)
   rcases Nv.best_cases F (Nv.st E n) k with e | ⟨p,hp,e⟩
   ·have hb:=hide (Nv.best_first (by omega) hsf e)
    rw [e]
    clear hst hsf e
    go_wp2_with fail
    go_quiet ((go_at_call 56;exact Calls.quiet_of_same (cA _)))
    go_wp2
    go_roundw
    case rel=>exact ⟨k+1,by have:=uh HL;omega,by rw [uh hb],by go_num,uh hgd _⟩
    case measure=>have:=uh HL;simp [intOf];omega
   have hcp':=uh hcp p hp
   have hp':(p:Int)<384:=by have:=uh HL;omega
   have hp0:decide ((p:Int)<0)=false:=decide_eq_false (by omega)
   by_cases h3:F k<F p
   ·have hb:=hide (Nv.best_less (by omega) hsf e h3)
    have h3':decide (F k<F p)=true:=decide_eq_true h3
    rw [e]
    clear hst hsf e hp h3
    go_wp2_with fail
    go_quiet ((go_at_call 56;exact Calls.quiet_of_same (cA _)))
    go_wp2
    go_roundw
    case rel=>exact ⟨k+1,by have:=uh HL;omega,by rw [uh hb],by go_num,uh hgd _⟩
    case measure=>have:=uh HL;simp [intOf];omega
   ·have hb:=hide ((Nv.best_more (st:=Nv.st E n) e h3).trans e)
    have h3':decide (F k<F p)=false:=decide_eq_false h3
    rw [e]
    clear hst hsf e hp h3
    go_wp2_with fail
    go_quiet ((go_at_call 56;exact Calls.quiet_of_same (cA _)))
    go_wp2
    go_roundw
    case rel=>exact ⟨k+1,by have:=uh HL;omega,by rw [uh hb],by go_num,uh hgd _⟩
    case measure=>have:=uh HL;simp [intOf];omega
  ·have hge:¬(k:Int)<384:=by omega
   obtain rfl:k=384:=by omega
   have hgr':=hide hgr
   generalize Nv.best F (Nv.st E n) 384=r at hspot
   clear hgr
   go_wp2
   go_ret
   exact ⟨_,uh hspot,rfl,gtr (uh hgw') (uh hgr')⟩


open Go.RowKit

set_option maxHeartbeats 6400000 in
theorem refLay_any (b cp n cm:Nat) (a:Option Addr) (I M:Nat→Nat→Int) (w:World) (hL:Lie w b 63 160 (Gd.flat I)) (hM:Gd.Some w a n M) :
  Calls Tryz.prog 78 #[.slice (some ⟨b,0,none⟩) 40 cp,.slice a n cm] w (Gd.Gives40 w (Gd.lay I M n)):=by
 have hn:=hM.1
 have hL':=hide hL
 have hM':=hide hM
 obtain ⟨iI,hiI,hzI0,hzI1,hzI2⟩:=info_parts info_item
 clear hL hM
 go_enter Tryz.func78,Tryz.ntmps78
 go_wp2_with (at_builtin;refine wpList_append_own _ rfl _ _ 28 rfl w.heap.size 63 iI (.agg #[.int .i64 0,.int .i64 0,.int .i64 0,.int .i64 0]) 4 32 Tryz.underlying28 hiI hzI0 hzI1 hzI2 rfl (by decide) _ 0 [] rfl (World.ownsRow_made _ _ _ (Nat.le_refl _) (by decide) (by simp)) ⟨b,0,none⟩ 40 cp (Gd.list 160 (Gd.flat I)) rfl (Gd.list_len _ _) (Gd.list_src fun q hq=>(gce (World.grownBy_alloc _ _ none) b q (uh hL').lt (by simp)).trans ((uh hL').cell hq)) (Gd.list_one fun _=>rfl) ?c4 ?c5 ?c6 ?_)
 case c4=>unfold maxLen;omega
 case c5=>omega
 case c6=>simp
 intro v' w1 hown hgrow hnil
 obtain ⟨g,cap,rfl,hlo,hnc,hlie⟩:=Lie.of_append (n:=40) (z:=4) (F:=Gd.flat I) hown (by simpa using hnil)
 have hg1:=hide (gow (World.grownBy_alloc w _ none) hgrow (fun k e=>by cases e;exact Nat.le_refl _))
 have hl1:=hide hlie
 have hlo':=hide hlo
 clear hown hgrow hnil hlie hlo hnc hiI hzI0 hzI1 hzI2
 go_wp2_with fail
 go_loopw [6] (fun i wr=>∃m:Nat,m≤n∧i=.int .i64 (m:Int)∧Lie wr g 63 160 (Gd.flat (Gd.lay I M m))∧w.grownBy wr none) (fun i _=>200 - (intOf i).toNat)
 case atStart=>exact ⟨0,by omega,rfl,uh hl1,uh hg1⟩
 case round =>
  obtain ⟨m,hm,rfl,hJ,hgr⟩:=hrel
  have hJ':=hide hJ
  have hgr':=hide hgr
  clear hJ hgr
  by_cases hlt:m<n
  ·have hlt':(m:Int)<(n:Int):=by omega
   have HL:=hide hlt
   obtain ⟨bm,om,rfl,lbm,v0,v1,v2,v3⟩:=((uh hM').on (uh hgr')).row hlt
   have hbg:bm≠g:=by
    have h1:=uh hlo'
    obtain ⟨_,h0 | ⟨b',o',e,h3⟩⟩:=uh hM'
    ·omega
    ·simp only [Option.some.injEq,Addr.mk.injEq] at e
     have:=h3.2.1
     omega
   have hbg':=hbg.symm
   clear hlt
   go_wp2_with fail
   go_loop [7] (fun i=>∃r:Nat,r≤40∧i=.int .i64 (r:Int)∧∀j,j<r→Gd.goneQ (Gd.lay I M m) j=false) (fun i=>200 - (intOf i).toNat)
   case atStart=>exact ⟨0,by omega,rfl,fun j hj=>by omega⟩
   case round =>
    obtain ⟨r,hr,rfl,hno⟩:=hrel
    have hno':=hide hno
    clear hno
    by_cases hr40:r<40
    ·have hr':(r:Int)<40:=by omega
     have HR:=hide hr40
     obtain ⟨u0,u1,u2,u3⟩:=((uh hJ').its (n:=40) (by omega) (by omega)).row hr40
     have fI:=(uh hJ').free
     have hgq:=hide (show Gd.goneQ (Gd.lay I M m) r=Gd.zeroB (Gd.lay I M m r 0) (Gd.lay I M m r 1) (Gd.lay I M m r 2) (Gd.lay I M m r 3) from rfl)
     by_cases hz:Gd.zeroB (Gd.lay I M m r 0) (Gd.lay I M m r 1) (Gd.lay I M m r 2) (Gd.lay I M m r 3)=true
     ·have hs:=hide (Gd.lay_some (uh hno') ((uh hgq).trans hz) hr40)
      obtain ⟨e0,e1,e2,e3⟩:=(of_decide_eq_true hz:_∧_∧_∧_)
      rw [e0] at u0
      rw [e1] at u1
      rw [e2] at u2
      rw [e3] at u3
      have hJn:=hide ((uh hJ').put r (M m 0) (M m 1) (M m 2) (M m 3))
      have hgn:=hide (gow (uh hgr') (grown_put4 (World.grownBy.refl _ (some g)) r (.int .i64 (M m 0)) (.int .i64 (M m 1)) (.int .i64 (M m 2)) (.int .i64 (M m 3))) (fun k e=>by cases e;exact uh hlo'))
      clear hz e0 e1 e2 e3 hgq hr40
      go_wp2
      go_roundw
      case rel=>exact ⟨m+1,by have:=uh HL;omega,by go_num,by rw [uh hs];exact uh hJn,uh hgn⟩
      case measure=>simp [intOf];omega
     ·have hz':Gd.zeroB (Gd.lay I M m r 0) (Gd.lay I M m r 1) (Gd.lay I M m r 2) (Gd.lay I M m r 3)=false:=by simpa using hz
      have hq:=hide ((uh hgq).trans hz')
      have hcmp:∀wx:World,(binOp .eql 63 (.agg #[.int .i64 (Gd.lay I M m r 0),.int .i64 (Gd.lay I M m r 1),.int .i64 (Gd.lay I M m r 2),.int .i64 (Gd.lay I M m r 3)]) (.agg #[.int .i64 0,.int .i64 0,.int .i64 0,.int .i64 0])).run Tryz.prog wx=.ok (.bool false) wx:=fun wx=>by
       rw [run_eq_item]
       refine congrArg (fun z=>Result.ok (Value.bool z) wx) ?_
       have h:=of_decide_eq_false hz'
       rw [←Bool.not_eq_true]
       simp only [Bool.and_eq_true,decide_eq_true_eq]
       exact h
      clear hz hz' hgq hr40
      go_wp2
      go_round
      case rel=>exact ⟨r+1,by have:=uh HR;omega,by go_num,fun j hj=>by
       by_cases e:j=r
       ·rw [e];exact uh hq
       ·exact uh hno' j (by omega)⟩
      case measure=>simp [intOf];omega
    ·have hge:¬(r:Int)<40:=by omega
     have hs:=hide (Gd.lay_none (I:=I) (M:=M) (m:=m) (fun j hj=>uh hno' j (by omega)))
     go_wp2
     go_roundw
     case rel=>exact ⟨m+1,by have:=uh HL;omega,by go_num,by rw [uh hs];exact uh hJ',uh hgr'⟩
     case measure=>simp [intOf];omega
  ·have hge:¬(m:Int)<(n:Int):=by omega
   obtain rfl:m=n:=by omega
   go_wp2
   go_ret
   exact ⟨g,cap,rfl,uh hlo',uh hJ',uh hgr'⟩

end Go.Proofs.YtepppmepilffcaaGreat
