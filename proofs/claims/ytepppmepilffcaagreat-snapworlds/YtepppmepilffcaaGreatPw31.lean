import Derived.Test.YtepppmepilffcaaGreatPw23
import Derived.Test.YtepppmepilffcaaGreatPw30
import Derived.Test.YtepppmepilffcaaGreatPw27
import Derived.Test.YtepppmepilffcaaGreatPw29
namespace Go.Proofs.YtepppmepilffcaaGreat
open Go.RowKit

def Sn.Li (x:World) (T:TypeId) (z:Nat) (v:Value) (n:Nat) (F:Nat→Value):Prop :=
 (v=.slice none 0 0∧n=0)∨∃g cap,v=.slice (some ⟨g,0,none⟩) n cap∧Lie x g T (n*z) F

theorem Sn.Li.on {x y:World} {T:TypeId} {z n:Nat} {v:Value} {F:Nat→Value} (h:Sn.Li x T z v n F) (hg:x.grownBy y none):Sn.Li y T z v n F:=by
 rcases h with h | ⟨g,cap,h1,h4⟩
 ·exact .inl h
 ·exact .inr ⟨g,cap,h1,h4.on hg⟩

theorem Sn.Li.is {x:World} {T:TypeId} {z n:Nat} {v:Value} {F:Nat→Value} (h:Sn.Li x T z v n F):∃a cap,v=.slice a n cap:=by
 rcases h with ⟨rfl,rfl⟩ | ⟨g,cap,h1,h4⟩
 ·exact ⟨none,0,rfl⟩
 ·exact ⟨_,cap,h1⟩

theorem Sn.Li.lie {x:World} {T:TypeId} {z n:Nat} {a:Option Addr} {c:Nat} {F:Nat→Value} (h:Sn.Li x T z (.slice a n c) n F) (h0:0<n):∃g,a=some ⟨g,0,none⟩∧Lie x g T (n*z) F:=by
 rcases h with ⟨_,h1⟩ | ⟨g,cap,h1,h4⟩
 ·omega
 ·simp only [Value.slice.injEq] at h1
  exact ⟨g,h1.1,h4⟩

theorem Sn.Li.src {x:World} {n:Nat} {v:Value} {c:Nat→Int} (h:Sn.Li x 5 1 v n (Byts c)):Ck.Src x v ((List.range n).map c):=by
 rcases h with ⟨rfl,rfl⟩ | ⟨g,cap,rfl,h4⟩
 ·exact .inl ⟨rfl,rfl⟩
 ·refine .inr ⟨⟨g,0,none⟩,cap,by simp,fun j u hj=>?_⟩
  unfold Ck.bys at hj
  rw [List.getElem?_map,List.getElem?_map] at hj
  by_cases hjn:j<n
  ·rw [List.getElem?_range hjn] at hj
   simp only [Option.map_some,Option.some.injEq] at hj
   rw [Go.WideShapes.add_plain,Nat.zero_add,h4.cell (by omega),←hj]
   rfl
  ·rw [List.getElem?_eq_none (by simpa using hjn)] at hj
   cases hj

def Sn.wide (s g:Nat→Int) (vC vE vI:Value):Array Value :=
 #[.int .i64 (s 0),.int .i64 (s 1),.int .i64 (s 2),.int .i64 (s 3),vC,vE,vI,.int .i64 (g 0),.int .i64 (g 1),.int .i64 (g 2),.int .i64 (g 3)]

structure Sn.Lis (x:World) (vC vE vI:Value) (nC nE nI:Nat) (c:Nat→Int) (E I:Nat→Nat→Int):Prop where
 cells:Sn.Li x 5 1 vC nC (Byts c)
 ents:Sn.Li x 61 11 vE nE (En.flat E)
 items:Sn.Li x 63 4 vI nI (Gd.flat I)
 capE:∀a m cap,vE=.slice a m cap→m≤cap

theorem Sn.Lis.on {x y:World} {vC vE vI:Value} {nC nE nI:Nat} {c:Nat→Int} {E I:Nat→Nat→Int} (h:Sn.Lis x vC vE vI nC nE nI c E I) (hg:x.grownBy y none):Sn.Lis y vC vE vI nC nE nI c E I :=
 ⟨h.cells.on hg,h.ents.on hg,h.items.on hg,h.capE⟩

theorem Sn.sameE_refl (e:Nat→Int):Sn.sameE e e=true:=(Sn.sameE_iff e e).2 fun _ _=>rfl

theorem Sn.sameG_refl (g:Nat→Int):Sn.sameG g g=true:=(Sn.sameG_iff g g).2 (fun _ _=>rfl)

set_option maxRecDepth 16000 in
set_option maxHeartbeats 12800000 in
theorem same7_alike (s g c:Nat→Int) (E I:Nat→Nat→Int) (vC vE vI uC uE uI:Value) (nC nE nI:Nat) (w:World) (hL:Sn.Lis w vC vE vI nC nE nI c E I) (hL2:Sn.Lis w uC uE uI nC nE nI c E I) (hE:nE≤32) (hI:nI≤60) :
  Calls Tryz.prog 14 #[.agg (Sn.wide s g vC vE vI),.agg (Sn.wide s g uC uE uI)] w (Says w (.bool true)):=by
 have q1:=hL.cells.src.text
 have q2:=hL2.cells.src.text
 obtain ⟨aC,kC,rfl⟩:=hL.cells.is
 obtain ⟨aE,kE,rfl⟩:=hL.ents.is
 obtain ⟨aI,kI,rfl⟩:=hL.items.is
 obtain ⟨bC,jC,rfl⟩:=hL2.cells.is
 obtain ⟨bE,jE,rfl⟩:=hL2.ents.is
 obtain ⟨bI,jI,rfl⟩:=hL2.items.is
 obtain ⟨W0,hW⟩:∃W,W=(w.alloc (.cells (Sn.wide s g (.slice aC nC kC) (.slice aE nE kE) (.slice aI nI kI)) 31)).alloc (.cells (Sn.wide s g (.slice bC nC jC) (.slice bE nE jE) (.slice bI nI jI)) 31):=⟨_,rfl⟩
 have hg:w.grownBy W0 none:=by rw [hW];exact gal (World.grownBy_alloc _ _ _) _
 have t1:=(hL.on hg).cells.src.text
 have t2:=(hL2.on hg).cells.src.text
 clear q1 q2
 have x1:Lie W0 w.heap.size 31 11 (fun j=>(Sn.wide s g (.slice aC nC kC) (.slice aE nE kE) (.slice aI nI kI))[j]?.getD undef):=by
  rw [hW]
  exact ((Arr.lit (heap_alloc_new w _)).alloc _).lie
 have x2:Lie W0 (w.heap.size+1) 31 11 (fun j=>(Sn.wide s g (.slice bC nC jC) (.slice bE nE jE) (.slice bI nI jI))[j]?.getD undef):=by
  rw [hW]
  have hh:=heap_alloc_new (w.alloc (.cells (Sn.wide s g (.slice aC nC kC) (.slice aE nE kE) (.slice aI nI kI)) 31)) (.cells (Sn.wide s g (.slice bC nC jC) (.slice bE nE jE) (.slice bI nI jI)) 31)
  rw [show (w.alloc (.cells (Sn.wide s g (.slice aC nC kC) (.slice aE nE kE) (.slice aI nI kI)) 31)).heap.size=w.heap.size+1 by simp] at hh
  exact (Arr.lit hh).lie
 obtain ⟨B,hB⟩:∃B,w.heap.size=B:=⟨_,rfl⟩
 rw [hB] at x1 x2
 have x1':=hide x1
 have x2':=hide x2
 have hL':=hide (hL.on hg)
 have hL2':=hide (hL2.on hg)
 have hg':=hide hg
 obtain ⟨X,hX⟩:∃T,strOfNums ((List.range nC).map c)=T:=⟨_,rfl⟩
 rw [hX] at t1 t2
 have row:∀{z:World} {p:Nat} {K:Nat→Value},Lie z p 31 11 K→z.cell? ⟨p,0,none⟩=some (K 0)∧z.cell? ⟨p,1,none⟩=some (K 1)∧z.cell? ⟨p,2,none⟩=some (K 2)∧z.cell? ⟨p,3,none⟩=some (K 3)∧z.cell? ⟨p,4,none⟩=some (K 4)∧z.cell? ⟨p,5,none⟩=some (K 5)∧z.cell? ⟨p,6,none⟩=some (K 6)∧z.cell? ⟨p,7,none⟩=some (K 7)∧z.cell? ⟨p,8,none⟩=some (K 8)∧z.cell? ⟨p,9,none⟩=some (K 9)∧z.cell? ⟨p,10,none⟩=some (K 10):=fun h=>⟨h.cell (by omega),h.cell (by omega),h.cell (by omega),h.cell (by omega),h.cell (by omega),h.cell (by omega),h.cell (by omega),h.cell (by omega),h.cell (by omega),h.cell (by omega),h.cell (by omega)⟩
 have keep:Hid (∀x,W0.grownBy x none→(x.cell? ⟨B,5,none⟩=some (.slice aE nE kE)∧x.cell? ⟨B,6,none⟩=some (.slice aI nI kI)∧x.cell? ⟨B+1,5,none⟩=some (.slice bE nE jE)∧x.cell? ⟨B+1,6,none⟩=some (.slice bI nI jI))):=fun x h =>
  ⟨((uh x1').on h).cell (c:=5) (by omega),((uh x1').on h).cell (c:=6) (by omega),((uh x2').on h).cell (c:=5) (by omega),((uh x2').on h).cell (c:=6) (by omega)⟩
 obtain ⟨a0,a1,a2,a3,a4,a5,a6,a7,a8,a9,a10⟩:=row x1
 obtain ⟨b0,b1,b2,b3,b4,b5,b6,b7,b8,b9,b10⟩:=row x2
 clear row
 have hgold:=fun wx=>run_ne_gold g g wx
 rw [Sn.sameG_refl] at hgold
 obtain ⟨D,hD⟩:∃D,Says w (.bool true)=D:=⟨_,rfl⟩
 have hyes:Hid (∀x,W0.grownBy x none→D (.returned (.bool true)) x):=fun x hx=>by
  rw [←hD]
  exact ⟨rfl,gtr (uh hg') hx⟩
 rw [hD]
 have HE:=hide hE
 have HI:=hide hI
 have c1:(nE:Int)≤32:=by omega
 have c2:(nI:Int)≤60:=by omega
 clear hL hL2 hg hX x1 x2 hD hE hI
 unfold Sn.wide at hW a0 a1 a2 a3 a4 a5 a6 a7 a8 a9 a10 b0 b1 b2 b3 b4 b5 b6 b7 b8 b9 b10 ⊢
 simp only [List.getElem?_toArray,List.getElem?_cons_zero,List.getElem?_cons_succ,Option.getD_some] at a0 a1 a2 a3 a4 a5 a6 a7 a8 a9 a10 b0 b1 b2 b3 b4 b5 b6 b7 b8 b9 b10
 go_enter Tryz.func14,Tryz.ntmps14
 go_upto_region 1 with fail
 rw [←hW]
 clear hW hB
 go_wp2_with fail
 go_loopw [5] (fun vi wr=>∃k:Nat,k≤nE∧vi=.int .i64 (k:Int)∧W0.grownBy wr none) (fun vi _=>200 - (intOf vi).toNat)
 case atStart=>exact ⟨0,by omega,rfl,World.grownBy.refl _ _⟩
 case round =>
  clear hgold t1 t2 a0 a1 a2 a3 a4 a5 a6 a7 a8 a9 a10 b0 b1 b2 b3 b4 b5 b6 b7 b8 b9 b10
  obtain ⟨k,hk,rfl,hgr⟩:=hrel
  have hgr':=hide hgr
  obtain ⟨k1,k2,k3,k4⟩:=uh keep wr hgr
  clear hgr
  by_cases hlt:k<nE
  ·have hlt':(k:Int)<(nE:Int):=by omega
   obtain ⟨gE,rfl,hGE⟩:=((uh hL').on (uh hgr')).ents.lie (by omega)
   obtain ⟨pE,rfl,hPE⟩:=((uh hL2').on (uh hgr')).ents.lie (by omega)
   obtain ⟨u0,u1,u2,u3,u4,u5,u6,u7,u8,u9,u10⟩:=(hGE.own (n:=nE) rfl (uh HE)).ents.row hlt
   obtain ⟨s0,s1,s2,s3,s4,s5,s6,s7,s8,s9,s10⟩:=(hPE.own (n:=nE) rfl (uh HE)).ents.row hlt
   have hdr:Hid (∀m,W0.grownBy (wr.drewN m) none):=fun m=>gdw (uh hgr') m
   have hcmp:∀wx:World,(binOp .neq 61 (.agg #[.int .i64 (E k 0),.int .i64 (E k 1),.int .i64 (E k 2),.int .i64 (E k 3),.int .i64 (E k 4),.int .i64 (E k 5),.int .i64 (E k 6),.int .i64 (E k 7),.int .i64 (E k 8),.int .i64 (E k 9),.int .i64 (E k 10)]) (.agg #[.int .i64 (E k 0),.int .i64 (E k 1),.int .i64 (E k 2),.int .i64 (E k 3),.int .i64 (E k 4),.int .i64 (E k 5),.int .i64 (E k 6),.int .i64 (E k 7),.int .i64 (E k 8),.int .i64 (E k 9),.int .i64 (E k 10)])).run Tryz.prog wx=.ok (.bool (!Sn.sameE (E k) (E k))) wx:=fun wx=>run_ne_ent (E k) (E k) wx
   rw [Sn.sameE_refl] at hcmp
   have HL:=hide hlt
   clear hlt hGE hPE hk
   go_wp2_with fail
   go_quiet (fail)
   go_wp2
   go_roundw
   case rel=>exact ⟨k+1,by have:=uh HL;omega,by go_num,uh hdr _⟩
   case measure=>simp [intOf];have:=uh HL;omega
  ·have hge:¬(k:Int)<(nE:Int):=by omega
   clear hlt hk
   go_wp2_with fail
   go_loopw [6] (fun vi wr=>∃k:Nat,k≤nI∧vi=.int .i64 (k:Int)∧W0.grownBy wr none) (fun vi _=>200 - (intOf vi).toNat)
   case atStart=>exact ⟨0,by omega,rfl,uh hgr'⟩
   case round =>
    clear k1 k2 k3 k4 hge hgr'
    obtain ⟨k,hk,rfl,hgr⟩:=hrel
    have hgr':=hide hgr
    obtain ⟨k1,k2,k3,k4⟩:=uh keep wr hgr
    clear hgr
    by_cases hlt:k<nI
    ·have hlt':(k:Int)<(nI:Int):=by omega
     obtain ⟨gI,rfl,hGI⟩:=((uh hL').on (uh hgr')).items.lie (by omega)
     obtain ⟨pI,rfl,hPI⟩:=((uh hL2').on (uh hgr')).items.lie (by omega)
     obtain ⟨u0,u1,u2,u3⟩:=(hGI.its (n:=nI) rfl (by have:=uh HI;omega)).row hlt
     obtain ⟨s0,s1,s2,s3⟩:=(hPI.its (n:=nI) rfl (by have:=uh HI;omega)).row hlt
     have hdr:Hid (∀m,W0.grownBy (wr.drewN m) none):=fun m=>gdw (uh hgr') m
     have hcmp:∀wx:World,(binOp .neq 63 (.agg #[.int .i64 (I k 0),.int .i64 (I k 1),.int .i64 (I k 2),.int .i64 (I k 3)]) (.agg #[.int .i64 (I k 0),.int .i64 (I k 1),.int .i64 (I k 2),.int .i64 (I k 3)])).run Tryz.prog wx=.ok (.bool false) wx:=fun wx=>by
      have h:=run_ne_item (I k 0) (I k 1) (I k 2) (I k 3) (I k 0) (I k 1) (I k 2) (I k 3) wx
      simpa using h
     have HL:=hide hlt
     clear hlt hGI hPI hk
     go_wp2_with fail
     go_quiet (fail)
     go_wp2
     go_roundw
     case rel=>exact ⟨k+1,by have:=uh HL;omega,by go_num,uh hdr _⟩
     case measure=>simp [intOf];have:=uh HL;omega
    ·have hge:¬(k:Int)<(nI:Int):=by omega
     have hfin:=hide (uh hyes _ (uh hgr'))
     clear hlt hk
     go_wp2
     exact uh hfin


open Go.RowKit

def Sn.void:Array Value:=#[.int .i64 0,.int .i64 0,.int .i64 0,.int .i64 0,.slice none 0 0,.slice none 0 0,.slice none 0 0,.int .i64 0,.int .i64 0,.int .i64 0,Value.int .i64 0]

theorem Sn.worlds_congr {w w':World} {e:Ending} {s s' g g' c c':Nat→Int} {E E' I I':Nat→Nat→Int} (h:Gd.Worlds w s g c E I e w') (hs:∀k,k<4→s k=s' k) (hg:∀k,k<4→g k=g' k) (hc:∀k,k<384→c k=c' k) (hE:∀i j,i<32→j<11→E i j=E' i j) (hI:∀i j,i<40→j<4→I i j=I' i j):Gd.Worlds w s' g' c' E' I' e w':=by
 obtain ⟨gC,gE,gI,cC,cE,cI,rfl,h1,h2,h3,h4,h5,h6,h7,hL,hg2⟩:=h
 refine ⟨gC,gE,gI,cC,cE,cI,?_,h1,h2,h3,h4,h5,h6,h7,⟨hL.cells.congr fun k hk=>?_,hL.ents.congr fun k hk=>?_,hL.items.congr fun k hk=>?_⟩,hg2⟩
 ·unfold Gd.world
  rw [hs 0 (by omega),hs 1 (by omega),hs 2 (by omega),hs 3 (by omega),hg 0 (by omega),hg 1 (by omega),hg 2 (by omega),hg 3 (by omega)]
 ·show Value.int .u8 (c k)=.int .u8 (c' k)
  rw [hc k hk]
 ·show Value.int .i64 (E (k / 11) (k % 11))=.int .i64 (E' (k / 11) (k % 11))
  rw [hE _ _ (by omega) (by omega)]
 ·show Value.int .i64 (I (k / 4) (k % 4))=.int .i64 (I' (k / 4) (k % 4))
  rw [hI _ _ (by omega) (by omega)]

def Sn.Decodes (w:World) (s g c:Nat→Int) (E I:Nat→Nat→Int) (e:Ending) (w':World):Prop :=
 ∃r,Sn.Chk s g c E I r∧((r≠0∧e=.returned (.tuple #[.agg Sn.void,.int .i64 r])∧w.grownBy w' none) ∨
  (r=0∧∃v,e=.returned (.tuple #[v,.int .i64 0])∧Gd.Worlds w s g c E I (.returned v) w'))

set_option maxRecDepth 8000 in
set_option maxHeartbeats 6400000 in
theorem decode_any (G cap:Nat) (F sF gF cF:Nat→Int) (eF iF:Nat→Nat→Int) (w:World) (hS:Sn.Src w G F) (hc:918≤cap) (hm:cap≤9223372036854775807) (qs:∀k,k<4→Sn.rs F k=sF k) (qg:∀k,k<4→Sn.rg F k=gF k) (qc:∀k,k<384→Sn.rc F k=cF k) (qE:∀i j,i<32→j<11→Sn.rE F i j=eF i j) (qI:∀i j,i<40→j<4→Sn.rI F i j=iF i j) (hby':∀i,0≤cF i∧cF i≤255) :
  Calls Tryz.prog 17 #[.slice (some ⟨G,0,none⟩) 918 cap] w (Sn.Decodes w sF gF cF eF iF):=by
 obtain ⟨w0,hw0⟩:∃w0,w0=w.alloc (.cells #[.int .i64 0,.int .i64 0,.int .i64 0,.int .i64 0,.slice none 0 0,.slice none 0 0,.slice none 0 0,.int .i64 0,.int .i64 0,.int .i64 0,.int .i64 0] 31):=⟨_,rfl⟩
 have hg0:w.grownBy w0 none:=by rw [hw0];exact World.grownBy_alloc _ _ _
 obtain ⟨P,hP⟩:∃P,w.heap.size=P:=⟨_,rfl⟩
 have hR:Lie w0 P 31 11 (fun j=>#[.int .i64 0,.int .i64 0,.int .i64 0,.int .i64 0,.slice none 0 0,.slice none 0 0,.slice none 0 0,.int .i64 0,.int .i64 0,.int .i64 0,Value.int .i64 0][j]?.getD undef):=by
  rw [hw0,←hP]
  exact (Arr.lit (heap_alloc_new w _)).lie
 have hby:=hide hby'
 have cr:=hide ((snReads_any G cap F w0 (hS.on hg0 (by simp)) hc hm).mono fun e x h=>Sn.worlds_congr h qs qg qc qE qI)
 obtain ⟨D,hD⟩:∃D,Sn.Decodes w sF gF cF eF iF=D:=⟨_,rfl⟩
 have hD1:Hid (∀r x,Sn.Chk sF gF cF eF iF r→r≠0→w.grownBy x none→D (.returned (.tuple #[.agg Sn.void,.int .i64 r])) x):=fun r x h1 h2 h3=>by
  rw [←hD]
  exact ⟨r,h1,.inl ⟨h2,rfl,h3⟩⟩
 have hD0:Hid (∀v x,Sn.Chk sF gF cF eF iF 0→Gd.Worlds w sF gF cF eF iF (.returned v) x→D (.returned (.tuple #[v,.int .i64 0])) x):=fun v x h1 h2=>by
  rw [←hD]
  exact ⟨0,h1,.inr ⟨rfl,v,rfl,h2⟩⟩
 rw [hD]
 have HP:=hide hP
 have HR:=hide hR
 have HG:=hide hg0
 clear hg0 hR hP hS hc hm hD qs qg qc qE qI hby'
 go_enter Tryz.func17,Tryz.ntmps17
 go_upto_region 1 with fail
 rw [←hw0,uh HP]
 clear hw0
 go_wp2_with fail
 refine (uh cr).mono ?_
 rintro e w1 ⟨gC,gE,gI,cC,cE,cI,rfl,hcE,l1,l2,l3,n1,n2,n3,hL,hg1⟩
 have hW0:Hid (Gd.Worlds w0 sF gF cF eF iF (.returned (.agg (Gd.world sF gC gE gI cC cE cI gF))) w1):=⟨gC,gE,gI,cC,cE,cI,rfl,hcE,l1,l2,l3,n1,n2,n3,hL,hg1⟩
 obtain ⟨w2,hw2⟩:∃w2,w2=w1.alloc (.cells (Gd.world sF gC gE gI cC cE cI gF) 31):=⟨_,rfl⟩
 have hg2:w1.grownBy w2 none:=by rw [hw2];exact World.grownBy_alloc _ _ _
 have hB:Hid (Lie w2 w1.heap.size 31 11 (Gd.box sF gC gE gI cC cE cI gF)):=by show Lie w2 _ _ _ _;rw [hw2];exact (Arr.world (heap_alloc_new w1 _)).lie
 have HR2:=hide ((uh HR).on (gtr hg1 hg2))
 have HG2:=hide (gtr (uh HG) (gtr hg1 hg2))
 have HL2:=hide (hL.on hg2)
 have cc:=hide (snCheck_any sF gF cF eF iF gC gE gI cC cE cI w2 (uh HL2) (uh hby) hcE)
 have HX:Hid (32≤cE∧w0.heap.size≤gC∧w0.heap.size≤gE∧w0.heap.size≤gI∧gC≠gE∧gC≠gI∧gE≠gI):=⟨hcE,l1,l2,l3,n1,n2,n3⟩
 clear hcE l1 l2 l3 n1 n2 n3 hL hg1 hg2 cr HR hW0
 unfold Gd.world at hw2 cc ⊢
 go_upto_region 6 with fail
 rw [←hw2]
 clear hw2
 obtain ⟨B,hBe⟩:∃B,w1.heap.size=B:=⟨_,rfl⟩
 rw [hBe] at hB ⊢
 clear hBe w1
 obtain ⟨b0,b1,b2,b3,b4,b5,b6,b7,b8,b9,b10⟩:=(uh hB).eleven
 go_wp2_with fail
 refine (uh cc).mono ?_
 rintro e w3 ⟨r,rfl,hr,hg3⟩
 have HR3:=hide ((uh HR2).on hg3)
 have HG3:=hide (gtr (uh HG2) hg3)
 have HL3:=hide ((uh HL2).on hg3)
 have hB3:=hide ((uh hB).on hg3)
 have hr':=hide hr
 clear hg3 hr cc HR2 HG2 HL2 hB b0 b1 b2 b3 b4 b5 b6 b7 b8 b9 b10
 have fz:=(uh HR3).free
 obtain ⟨z0,z1,z2,z3,z4,z5,z6,z7,z8,z9,z10⟩:=Gd.res_cells (uh HR3)
 by_cases h0:r=0
 ·subst h0
  have hPl:Hid (w.heap.size≤P):=(show w.heap.size≤P by have:=uh HP;omega)
  have hfo:Hid (∀vs,D (.returned (.tuple #[.agg (Gd.world sF gC gE gI cC cE cI gF),.int .i64 0])) (w3.setCells P 0 vs)):=fun vs=>by
   obtain ⟨x1,x2,x3,x4,x5,x6,x7⟩:=uh HX
   have hs:=(uh HG).size
   have h:=uh HL3
   have hr:=uh HR3
   refine uh hD0 _ _ (uh hr') ⟨gC,gE,gI,cC,cE,cI,rfl,x1,by omega,by omega,by omega,x5,x6,x7,⟨h.cells.others (hr.type_ne h.cells (by decide)) _ _,h.ents.others (hr.type_ne h.ents (by decide)) _ _,h.items.others (hr.type_ne h.items (by decide)) _ _⟩,own_sets (uh hPl) vs 0 w3 (uh HG3)⟩
  obtain ⟨b0,b1,b2,b3,b4,b5,b6,b7,b8,b9,b10⟩:=(uh hB3).eleven
  clear HX HL3 HR3 HG3 hB3 hD0 hD1 hr' hby
  go_wp2
  refine bodyPost_ret (v:=.tuple #[.agg (Gd.world sF gC gE gI cC cE cI gF),.int .i64 0]) (by simp [results,Tryz.results17,go_sem,Gd.world,z0,z1,z2,z3,z4,z5,z6,z7,z8,z9,z10]) rfl ?_
  exact uh hfo [_,_,_,_,_,_,_,_,_,_,_]
 ·have h0':(r != 0)=true:=by simp [h0]
  have hPl:Hid (w.heap.size≤P):=(show w.heap.size≤P by have:=uh HP;omega)
  have hfo:Hid (∀vs,D (.returned (.tuple #[.agg Sn.void,.int .i64 r])) (w3.setCells P 0 vs)):=fun vs=>uh hD1 r _ (uh hr') h0 (own_sets (uh hPl) vs 0 w3 (uh HG3))
  clear HX HL3 HR3 HG3 hB3 hD0 hD1 hr' h0 hby
  go_wp2
  refine bodyPost_ret (v:=.tuple #[.agg Sn.void,.int .i64 r]) (by simp [results,Tryz.results17,go_sem,Sn.void,z0,z1,z2,z3,z4,z5,z6,z7,z8,z9,z10]) rfl ?_
  exact uh hfo [_,_,_,_,_,_,_,_,_,_,_]


open Go.RowKit

theorem Sn.placed_small {c r:Nat→Int} (h:Gd.Placed c r):(0≤r 0∧r 0≤255)∧(0≤r 1∧r 1≤255)∧(0≤r 2∧r 2≤255)∧0≤r 3∧r 3≤255:=by
 obtain ⟨h1,h2,h | h | h | h⟩:=h
 ·have:=(Gr.inB_iff _ _).1 h.2.1
  omega
 ·omega
 ·omega
 ·omega

theorem Sn.small {c:Nat→Int} {E I:Nat→Nat→Int} (hS:Cr.Sane c E I):(∀i j,i<32→j<11→0≤E i j∧E i j≤255)∧(∀i j,i<40→j<4→0≤I i j∧I i j≤255):=by
 refine ⟨fun i j hi hj=>?_,fun i j hi hj=>?_⟩
 ·have hr:=hS.fit.rows i hi
  by_cases h0:E i 0=0
  ·by_cases h1:j=1
   ·subst h1
    exact ⟨hr.1,hr.2.1⟩
   ·rcases hr.2.2 with hz | ht
    ·rw [hz j hj h1]
     omega
    ·omega
  ·have ht:=hr.taken h0
   obtain ⟨p1,p2,p3,p4,-⟩:=hS.set.stands.on i hi h0
   have hs:0≤E i 2∧E i 2≤3:=by
    by_cases k1:E i 0=1
    ·have:=hS.seats.seat i hi k1
     omega
    ·have:=hS.seats.none i hi h0 k1
     omega
   have g0:=hr.1
   have g1:=hr.2.1
   rcases (show j=0∨j=1∨j=2∨j=3∨j=4∨j=5∨j=6∨j=7∨j=8∨j=9∨j=10 by omega) with rfl | rfl | rfl | rfl | rfl | rfl | rfl | rfl | rfl | rfl | rfl <;> omega
 ·rcases hS.fit.ok.each i hi with hz | hp
  ·obtain ⟨z0,z1,z2,z3⟩:=hz
   rcases (show j=0∨j=1∨j=2∨j=3 by omega) with rfl | rfl | rfl | rfl <;> omega
  ·obtain ⟨q1,q2,q3,q4⟩:=Sn.placed_small hp
   rcases (show j=0∨j=1∨j=2∨j=3 by omega) with rfl | rfl | rfl | rfl <;> omega

theorem Sn.Bytes.src {w:World} {base:Nat} {v:Value} {l:List Int} (h:Sn.Bytes w base v l) (hl:l.length=918) (hb:∀b∈l,0≤b∧b≤255):∃G cap,v=.slice (some ⟨G,0,none⟩) 918 cap∧918≤cap∧cap≤9223372036854775807∧Sn.Src w G (Sn.fn l):=by
 have h':=h
 unfold Sn.Bytes at h
 rw [hl] at h
 rcases h.2 with ⟨_,h0⟩ | ⟨G,cap,cur,rfl,_,hg,h1,h2,h3,h4⟩
 ·omega
 ·refine ⟨G,cap,rfl,h1,h2,⟨lt_of_block hg,fun i hi=>?_,fun i=>?_⟩⟩
  ·rw [h.cellAt i (by omega),List.getElem?_map,Sn.fn_at (by omega)]
   rfl
  ·unfold Sn.fn
   by_cases hi:i<l.length
   ·rw [List.getElem?_eq_getElem hi]
    exact hb _ (List.getElem_mem hi)
   ·rw [List.getElem?_eq_none (by omega)]
    exact ⟨by decide,by decide⟩


open Go.RowKit

def Sn.dig (l:List Int):Int:=l.foldl (fun x b=>IntKind.u64.wrap (bits BinOp.xor IntKind.u64 x b*1099511628211)) 14695981039346656037

theorem Sn.dig_more (l:List Int) (k:Nat) (hk:k<l.length):Sn.dig (l.take (k+1))=IntKind.u64.wrap (bits BinOp.xor IntKind.u64 (Sn.dig (l.take k)) (Sn.fn l k)*1099511628211):=by
 unfold Sn.dig Sn.fn
 rw [List.take_add_one,List.getElem?_eq_getElem hk,List.foldl_append]
 rfl

def Sn.Digs (w:World) (s g c:Nat→Int) (E I:Nat→Nat→Int) (e:Ending) (w':World):Prop :=
 ∃r:Int,e=.returned (.int .u64 (if r=0 then Sn.dig (Sn.bytes s g c E I) else 0))∧Sn.Chk s g c E I r∧w.grownBy w' none

set_option maxRecDepth 8000 in
set_option maxHeartbeats 3200000 in
theorem snDigest_any (s g c:Nat→Int) (E I:Nat→Nat→Int) (gC gE gI cC cE cI:Nat) (w:World) (hL:Gd.Lists w gC gE gI c E I) (hc:∀i,0≤c i∧c i≤255) (hcE:32≤cE) :
  Calls Tryz.prog 12 #[.agg (Gd.world s gC gE gI cC cE cI g)] w (Sn.Digs w s g c E I):=by
 obtain ⟨w0,hw0⟩:∃w0,w0=w.alloc (.cells (Gd.world s gC gE gI cC cE cI g) 31):=⟨_,rfl⟩
 have hg0:w.grownBy w0 none:=by rw [hw0];exact World.grownBy_alloc _ _ _
 have hO:Hid (Sn.Shown w w0 w.heap.size gC gE gI cC cE cI s g c E I):=by
  refine ⟨?_,hL.on hg0,hg0⟩
  rw [hw0]
  exact (Arr.world (heap_alloc_new w _)).lie
 have cc:=hide (fun x (hx:Gd.Lists x gC gE gI c E I)=>encode_any s g c E I gC gE gI cC cE cI x hx hc hcE)
 have hby:=hide (Sn.bytes_byte s g c E I hc)
 have hbl:=hide (Sn.bytes_len s g c E I)
 have hpost:Hid (∀r x,Sn.Chk s g c E I r→w.grownBy x none→Sn.Digs w s g c E I (.returned (.int .u64 (if r=0 then Sn.dig (Sn.bytes s g c E I) else 0))) x):=fun r x h1 h2=>⟨r,rfl,h1,h2⟩
 obtain ⟨P,hP⟩:∃P,Sn.Digs w s g c E I=P:=⟨_,rfl⟩
 rw [hP] at hpost ⊢
 obtain ⟨l,hl⟩:∃l,Sn.bytes s g c E I=l:=⟨_,rfl⟩
 have hl':=hide hl
 rw [hl] at hby hbl hpost
 clear hL hg0 hc hP hl
 unfold Gd.world at hw0 cc ⊢
 go_enter Tryz.func12,Tryz.ntmps12
 go_upto_region 1 with fail
 rw [←hw0]
 clear hw0
 obtain ⟨B,hBe⟩:∃B,w.heap.size=B:=⟨_,rfl⟩
 rw [hBe] at hO ⊢
 clear hBe
 obtain ⟨b0,b1,b2,b3,b4,b5,b6,b7,b8,b9,b10⟩:=(uh hO).box.eleven
 go_wp2_with fail
 refine (uh cc _ (uh hO).lists).mono ?_
 rintro e w1 ⟨v,r,rfl,hr,-,hown,hg1⟩
 have hgr:=hide (gtr (uh hO).grown hg1)
 have HR:=hide hr
 have HO:=hide hown
 clear hr hown hg1 hO cc b0 b1 b2 b3 b4 b5 b6 b7 b8 b9 b10
 by_cases h0:r=0
 case neg =>
  have h0':(r != 0)=true:=by simp [h0]
  have hf:Hid (P (.returned (.int .u64 0)) w1):=by
   have h:=uh hpost r w1 (uh HR) (uh hgr)
   rw [if_neg h0] at h
   exact h
  clear h0
  go_wp2
  exact uh hf
 have h0':(r != 0)=false:=by simp [h0]
 obtain ⟨G,cap,rfl,-,-,hS⟩:=((uh HO) h0).src (by rw [uh hl'];exact uh hbl) (by rw [uh hl'];exact uh hby)
 rw [uh hl'] at hS
 have hS':=hide hS
 have hf:Hid (P (.returned (.int .u64 (Sn.dig l))) w1):=by
  have h:=uh hpost r w1 (uh HR) (uh hgr)
  rw [if_pos h0] at h
  exact h
 clear hS h0 HO hpost
 go_wp2_with fail
 go_loop [5,17,7] (fun v5 v17 _v7=>∃k:Nat,k≤918∧v5=.int .u64 (Sn.dig (l.take k))∧v17=.int .i64 (k:Int)) (fun _ v17 _=>1000 - (intOf v17).toNat)
 case atStart=>exact ⟨0,by omega,rfl,rfl⟩
 case round =>
  obtain ⟨k,hk,rfl,rfl⟩:=hrel
  by_cases hlt:k<918
  ·have hlt':(k:Int)<918:=by omega
   have HL:=hide hlt
   have u0:w1.cell? ⟨G,k,none⟩=some (.int .u8 (Sn.fn l k)):=(uh hS').cell k hlt
   have hw:IntKind.u64.wrap (Sn.fn l k)=Sn.fn l k:=by
    rw [Sn.wrap64]
    have:=(uh hS').byte k
    omega
   have hn:=hide (Sn.dig_more l k (by rw [uh hbl];exact hlt))
   obtain ⟨X,hX⟩:∃X,Sn.dig (l.take k)=X:=⟨_,rfl⟩
   obtain ⟨y,hy⟩:∃y,Sn.fn l k=y:=⟨_,rfl⟩
   rw [hX,hy] at hn
   rw [hy] at u0 hw
   rw [hX]
   clear hlt hk hX hy
   go_wp2
   go_round
   case rel=>exact ⟨k+1,by have:=uh HL;omega,by rw [uh hn],by go_num⟩
   case measure=>simp [intOf];have:=uh HL;omega
  ·have hge:¬(k:Int)<918:=by omega
   have he:l.take k=l:=List.take_of_length_le (by rw [uh hbl];omega)
   rw [he]
   clear hlt hk he
   go_wp2
   exact uh hf

set_option maxRecDepth 8000 in
set_option maxHeartbeats 3200000 in
theorem refDigest_any (s g c:Nat→Int) (E I:Nat→Nat→Int) (gC gE gI cC cE cI:Nat) (w:World) (hL:Gd.Lists w gC gE gI c E I) (hc:∀i,0≤c i∧c i≤255) (hck:∀x,Gd.Lists x gC gE gI c E I→Calls Tryz.prog 11 #[.agg (Gd.world s gC gE gI cC cE cI g)] x (Sn.Told x s g c E I)) :
  Calls Tryz.prog 13 #[.agg (Gd.world s gC gE gI cC cE cI g)] w (Sn.Digs w s g c E I):=by
 obtain ⟨w0,hw0⟩:∃w0,w0=w.alloc (.cells (Gd.world s gC gE gI cC cE cI g) 31):=⟨_,rfl⟩
 have hg0:w.grownBy w0 none:=by rw [hw0];exact World.grownBy_alloc _ _ _
 have hO:Hid (Sn.Shown w w0 w.heap.size gC gE gI cC cE cI s g c E I):=by
  refine ⟨?_,hL.on hg0,hg0⟩
  rw [hw0]
  exact (Arr.world (heap_alloc_new w _)).lie
 have cc:=hide (fun x (hx:Gd.Lists x gC gE gI c E I)=>refEncode_any s g c E I gC gE gI cC cE cI x hx hck)
 have hby:=hide (Sn.bytes_byte s g c E I hc)
 have hbl:=hide (Sn.bytes_len s g c E I)
 have hpost:Hid (∀r x,Sn.Chk s g c E I r→w.grownBy x none→Sn.Digs w s g c E I (.returned (.int .u64 (if r=0 then Sn.dig (Sn.bytes s g c E I) else 0))) x):=fun r x h1 h2=>⟨r,rfl,h1,h2⟩
 obtain ⟨P,hP⟩:∃P,Sn.Digs w s g c E I=P:=⟨_,rfl⟩
 rw [hP] at hpost ⊢
 obtain ⟨l,hl⟩:∃l,Sn.bytes s g c E I=l:=⟨_,rfl⟩
 have hl':=hide hl
 rw [hl] at hby hbl hpost
 clear hL hg0 hc hP hl
 unfold Gd.world at hw0 cc ⊢
 go_enter Tryz.func13,Tryz.ntmps13
 go_upto_region 1 with fail
 rw [←hw0]
 clear hw0
 obtain ⟨B,hBe⟩:∃B,w.heap.size=B:=⟨_,rfl⟩
 rw [hBe] at hO ⊢
 clear hBe
 obtain ⟨b0,b1,b2,b3,b4,b5,b6,b7,b8,b9,b10⟩:=(uh hO).box.eleven
 go_wp2_with fail
 refine (uh cc _ (uh hO).lists).mono ?_
 rintro e w1 ⟨v,r,rfl,hr,-,hown,hg1⟩
 have hgr:=hide (gtr (uh hO).grown hg1)
 have HR:=hide hr
 have HO:=hide hown
 clear hr hown hg1 hO cc b0 b1 b2 b3 b4 b5 b6 b7 b8 b9 b10
 by_cases h0:r=0
 case neg =>
  have h0':(r != 0)=true:=by simp [h0]
  have hf:Hid (P (.returned (.int .u64 0)) w1):=by
   have h:=uh hpost r w1 (uh HR) (uh hgr)
   rw [if_neg h0] at h
   exact h
  clear h0
  go_wp2
  exact uh hf
 have h0':(r != 0)=false:=by simp [h0]
 obtain ⟨G,cap,rfl,-,-,hS⟩:=((uh HO) h0).src (by rw [uh hl'];exact uh hbl) (by rw [uh hl'];exact uh hby)
 rw [uh hl'] at hS
 have hS':=hide hS
 have hf:Hid (P (.returned (.int .u64 (Sn.dig l))) w1):=by
  have h:=uh hpost r w1 (uh HR) (uh hgr)
  rw [if_pos h0] at h
  exact h
 clear hS h0 HO hpost
 go_wp2_with fail
 go_loop [5,6] (fun v5 v17=>∃k:Nat,k≤918∧v5=.int .u64 (Sn.dig (l.take k))∧v17=.int .i64 (k:Int)) (fun _ v17=>1000 - (intOf v17).toNat)
 case atStart=>exact ⟨0,by omega,rfl,rfl⟩
 case round =>
  obtain ⟨k,hk,rfl,rfl⟩:=hrel
  by_cases hlt:k<918
  ·have hlt':(k:Int)<918:=by omega
   have HL:=hide hlt
   have u0:w1.cell? ⟨G,k,none⟩=some (.int .u8 (Sn.fn l k)):=(uh hS').cell k hlt
   have hw:IntKind.u64.wrap (Sn.fn l k)=Sn.fn l k:=by
    rw [Sn.wrap64]
    have:=(uh hS').byte k
    omega
   have hn:=hide (Sn.dig_more l k (by rw [uh hbl];exact hlt))
   obtain ⟨X,hX⟩:∃X,Sn.dig (l.take k)=X:=⟨_,rfl⟩
   obtain ⟨y,hy⟩:∃y,Sn.fn l k=y:=⟨_,rfl⟩
   rw [hX,hy] at hn
   rw [hy] at u0 hw
   rw [hX]
   clear hlt hk hX hy
   go_wp2
   go_round
   case rel=>exact ⟨k+1,by have:=uh HL;omega,by rw [uh hn],by go_num⟩
   case measure=>simp [intOf];have:=uh HL;omega
  ·have hge:¬(k:Int)<918:=by omega
   have he:l.take k=l:=List.take_of_length_le (by rw [uh hbl];omega)
   rw [he]
   clear hlt hk he
   go_wp2
   exact uh hf

end Go.Proofs.YtepppmepilffcaaGreat
