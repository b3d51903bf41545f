import Derived.Test.YtepppmepilffcaaGreatPart37
import Derived.Test.YtepppmepilffcaaGreatPart34
namespace Go.Proofs.YtepppmepilffcaaGreat
open Go.RowKit

def Sn.Li (x:World) (T:TypeId) (z:Nat) (v:Value) (n:Nat) (F:Nat→Value):Prop :=
 (v=.slice none 0 0∧n=0)∨∃g cap,v=.slice (some ⟨g,0,none⟩) n cap∧n≤cap∧cap≤maxLen∧Lie x g T (n*z) F

theorem Sn.Li.on {x y:World} {T:TypeId} {z n:Nat} {v:Value} {F:Nat→Value} (h:Sn.Li x T z v n F) (hg:x.grownBy y none):Sn.Li y T z v n F:=by
 rcases h with h | ⟨g,cap,h1,h2,h3,h4⟩
 ·exact .inl h
 ·exact .inr ⟨g,cap,h1,h2,h3,h4.on hg⟩

theorem Sn.Li.is {x:World} {T:TypeId} {z n:Nat} {v:Value} {F:Nat→Value} (h:Sn.Li x T z v n F):∃a cap,v=.slice a n cap∧n≤cap∧cap≤maxLen:=by
 rcases h with ⟨rfl,rfl⟩ | ⟨g,cap,h1,h2,h3,h4⟩
 ·exact ⟨none,0,rfl,Nat.le_refl _,Nat.zero_le _⟩
 ·exact ⟨_,cap,h1,h2,h3⟩

theorem Sn.Li.lie {x:World} {T:TypeId} {z n:Nat} {a:Option Addr} {c:Nat} {F:Nat→Value} (h:Sn.Li x T z (.slice a n c) n F) (h0:0<n):∃g,a=some ⟨g,0,none⟩∧Lie x g T (n*z) F:=by
 rcases h with ⟨_,h1⟩ | ⟨g,cap,h1,h2,h3,h4⟩
 ·omega
 ·simp only [Value.slice.injEq] at h1
  exact ⟨g,h1.1,h4⟩

theorem Sn.Li.src {x:World} {n:Nat} {v:Value} {c:Nat→Int} (h:Sn.Li x 5 1 v n (Byts c)):Ck.Src x v ((List.range n).map c):=by
 rcases h with ⟨rfl,rfl⟩ | ⟨g,cap,rfl,h2,h3,h4⟩
 ·exact .inl ⟨rfl,rfl⟩
 ·refine .inr ⟨⟨g,0,none⟩,cap,by simp,fun j u hj=>?_⟩
  unfold Ck.bys at hj
  rw [List.getElem?_map,List.getElem?_map] at hj
  by_cases hjn:j<n
  ·rw [List.getElem?_range hjn] at hj
   simp only [Option.map_some,Option.some.injEq] at hj
   rw [Go.WideShapes.add_plain,Nat.zero_add,h4.cell (by omega),←hj]
   rfl
  ·rw [List.getElem?_eq_none (by simpa using hjn)] at hj
   cases hj

def Sn.wide (s g:Nat→Int) (vC vE vI:Value):Array Value :=
 #[.int .i64 (s 0),.int .i64 (s 1),.int .i64 (s 2),.int .i64 (s 3),vC,vE,vI,.int .i64 (g 0),.int .i64 (g 1),.int .i64 (g 2),.int .i64 (g 3)]

structure Sn.Lis (x:World) (vC vE vI:Value) (nC nE nI:Nat) (c:Nat→Int) (E I:Nat→Nat→Int):Prop where
 cells:Sn.Li x 5 1 vC nC (Byts c)
 ents:Sn.Li x 61 11 vE nE (En.flat E)
 items:Sn.Li x 63 4 vI nI (Gd.flat I)

theorem Sn.Lis.on {x y:World} {vC vE vI:Value} {nC nE nI:Nat} {c:Nat→Int} {E I:Nat→Nat→Int} (h:Sn.Lis x vC vE vI nC nE nI c E I) (hg:x.grownBy y none):Sn.Lis y vC vE vI nC nE nI c E I :=
 ⟨h.cells.on hg,h.ents.on hg,h.items.on hg⟩

theorem Sn.sameE_refl (e:Nat→Int):Sn.sameE e e=true:=(Sn.sameE_iff e e).2 fun _ _=>rfl

theorem Sn.sameG_refl (g:Nat→Int):Sn.sameG g g=true:=(Sn.sameG_iff g g).2 (fun _ _=>rfl)

set_option maxRecDepth 16000 in
set_option maxHeartbeats 12800000 in
theorem same7_alike (s g c:Nat→Int) (E I:Nat→Nat→Int) (vC vE vI uC uE uI:Value) (nC nE nI:Nat) (w:World) (hL:Sn.Lis w vC vE vI nC nE nI c E I) (hL2:Sn.Lis w uC uE uI nC nE nI c E I) (hE:nE≤32) (hI:nI≤60) :
  Calls Tryz.prog 14 #[.agg (Sn.wide s g vC vE vI),.agg (Sn.wide s g uC uE uI)] w (Says w (.bool true)):=by
 have q1:=hL.cells.src.text
 have q2:=hL2.cells.src.text
 obtain ⟨aC,kC,rfl,-,-⟩:=hL.cells.is
 obtain ⟨aE,kE,rfl,hkE,-⟩:=hL.ents.is
 obtain ⟨aI,kI,rfl,hkI,-⟩:=hL.items.is
 obtain ⟨bC,jC,rfl,-,-⟩:=hL2.cells.is
 obtain ⟨bE,jE,rfl,hjE,-⟩:=hL2.ents.is
 obtain ⟨bI,jI,rfl,hjI,-⟩:=hL2.items.is
 obtain ⟨W0,hW⟩:∃W,W=(w.alloc (.cells (Sn.wide s g (.slice aC nC kC) (.slice aE nE kE) (.slice aI nI kI)) 31)).alloc (.cells (Sn.wide s g (.slice bC nC jC) (.slice bE nE jE) (.slice bI nI jI)) 31):=⟨_,rfl⟩
 have hg:w.grownBy W0 none:=by rw [hW];exact gal (World.grownBy_alloc _ _ _) _
 have t1:=(hL.on hg).cells.src.text
 have t2:=(hL2.on hg).cells.src.text
 clear q1 q2
 have x1:Lie W0 w.heap.size 31 11 (fun j=>(Sn.wide s g (.slice aC nC kC) (.slice aE nE kE) (.slice aI nI kI))[j]?.getD undef):=by
  rw [hW]
  exact ((Arr.lit (heap_alloc_new w _)).alloc _).lie
 have x2:Lie W0 (w.heap.size+1) 31 11 (fun j=>(Sn.wide s g (.slice bC nC jC) (.slice bE nE jE) (.slice bI nI jI))[j]?.getD undef):=by
  rw [hW]
  have hh:=heap_alloc_new (w.alloc (.cells (Sn.wide s g (.slice aC nC kC) (.slice aE nE kE) (.slice aI nI kI)) 31)) (.cells (Sn.wide s g (.slice bC nC jC) (.slice bE nE jE) (.slice bI nI jI)) 31)
  rw [show (w.alloc (.cells (Sn.wide s g (.slice aC nC kC) (.slice aE nE kE) (.slice aI nI kI)) 31)).heap.size=w.heap.size+1 by simp] at hh
  exact (Arr.lit hh).lie
 obtain ⟨B,hB⟩:∃B,w.heap.size=B:=⟨_,rfl⟩
 rw [hB] at x1 x2
 have x1':=hide x1
 have x2':=hide x2
 have hL':=hide (hL.on hg)
 have hL2':=hide (hL2.on hg)
 have hg':=hide hg
 obtain ⟨X,hX⟩:∃T,strOfNums ((List.range nC).map c)=T:=⟨_,rfl⟩
 rw [hX] at t1 t2
 have row:∀{z:World} {p:Nat} {K:Nat→Value},Lie z p 31 11 K→z.cell? ⟨p,0,none⟩=some (K 0)∧z.cell? ⟨p,1,none⟩=some (K 1)∧z.cell? ⟨p,2,none⟩=some (K 2)∧z.cell? ⟨p,3,none⟩=some (K 3)∧z.cell? ⟨p,4,none⟩=some (K 4)∧z.cell? ⟨p,5,none⟩=some (K 5)∧z.cell? ⟨p,6,none⟩=some (K 6)∧z.cell? ⟨p,7,none⟩=some (K 7)∧z.cell? ⟨p,8,none⟩=some (K 8)∧z.cell? ⟨p,9,none⟩=some (K 9)∧z.cell? ⟨p,10,none⟩=some (K 10):=fun h=>⟨h.cell (by omega),h.cell (by omega),h.cell (by omega),h.cell (by omega),h.cell (by omega),h.cell (by omega),h.cell (by omega),h.cell (by omega),h.cell (by omega),h.cell (by omega),h.cell (by omega)⟩
 have keep:Hid (∀x,W0.grownBy x none→(x.cell? ⟨B,5,none⟩=some (.slice aE nE kE)∧x.cell? ⟨B,6,none⟩=some (.slice aI nI kI)∧x.cell? ⟨B+1,5,none⟩=some (.slice bE nE jE)∧x.cell? ⟨B+1,6,none⟩=some (.slice bI nI jI))):=fun x h =>
  ⟨((uh x1').on h).cell (c:=5) (by omega),((uh x1').on h).cell (c:=6) (by omega),((uh x2').on h).cell (c:=5) (by omega),((uh x2').on h).cell (c:=6) (by omega)⟩
 obtain ⟨a0,a1,a2,a3,a4,a5,a6,a7,a8,a9,a10⟩:=row x1
 obtain ⟨b0,b1,b2,b3,b4,b5,b6,b7,b8,b9,b10⟩:=row x2
 clear row
 have hgold:=fun wx=>run_ne_gold g g wx
 rw [Sn.sameG_refl] at hgold
 obtain ⟨D,hD⟩:∃D,Says w (.bool true)=D:=⟨_,rfl⟩
 have hyes:Hid (∀x,W0.grownBy x none→D (.returned (.bool true)) x):=fun x hx=>by
  rw [←hD]
  exact ⟨rfl,gtr (uh hg') hx⟩
 rw [hD]
 have HE:=hide hE
 have HI:=hide hI
 have c1:(nE:Int)≤32:=by omega
 have c2:(nI:Int)≤60:=by omega
 clear hL hL2 hg hX x1 x2 hD hE hI hkE hkI hjE hjI
 unfold Sn.wide at hW a0 a1 a2 a3 a4 a5 a6 a7 a8 a9 a10 b0 b1 b2 b3 b4 b5 b6 b7 b8 b9 b10 ⊢
 simp only [List.getElem?_toArray,List.getElem?_cons_zero,List.getElem?_cons_succ,Option.getD_some] at a0 a1 a2 a3 a4 a5 a6 a7 a8 a9 a10 b0 b1 b2 b3 b4 b5 b6 b7 b8 b9 b10
 go_enter Tryz.func14,Tryz.ntmps14
 go_upto_region 1 with fail
 rw [←hW]
 clear hW hB
 go_wp2_with fail
 go_loopw [5] (fun vi wr=>∃k:Nat,k≤nE∧vi=.int .i64 (k:Int)∧W0.grownBy wr none) (fun vi _=>200 - (intOf vi).toNat)
 case atStart=>exact ⟨0,by omega,rfl,World.grownBy.refl _ _⟩
 case round =>
  clear hgold t1 t2 a0 a1 a2 a3 a4 a5 a6 a7 a8 a9 a10 b0 b1 b2 b3 b4 b5 b6 b7 b8 b9 b10
  obtain ⟨k,hk,rfl,hgr⟩:=hrel
  have hgr':=hide hgr
  obtain ⟨k1,k2,k3,k4⟩:=uh keep wr hgr
  clear hgr
  by_cases hlt:k<nE
  ·have hlt':(k:Int)<(nE:Int):=by omega
   obtain ⟨gE,rfl,hGE⟩:=((uh hL').on (uh hgr')).ents.lie (by omega)
   obtain ⟨pE,rfl,hPE⟩:=((uh hL2').on (uh hgr')).ents.lie (by omega)
   obtain ⟨u0,u1,u2,u3,u4,u5,u6,u7,u8,u9,u10⟩:=(hGE.own (n:=nE) rfl (uh HE)).ents.row hlt
   obtain ⟨s0,s1,s2,s3,s4,s5,s6,s7,s8,s9,s10⟩:=(hPE.own (n:=nE) rfl (uh HE)).ents.row hlt
   have hdr:Hid (∀m,W0.grownBy (wr.drewN m) none):=fun m=>gdw (uh hgr') m
   have hcmp:∀wx:World,(binOp .neq 61 (.agg #[.int .i64 (E k 0),.int .i64 (E k 1),.int .i64 (E k 2),.int .i64 (E k 3),.int .i64 (E k 4),.int .i64 (E k 5),.int .i64 (E k 6),.int .i64 (E k 7),.int .i64 (E k 8),.int .i64 (E k 9),.int .i64 (E k 10)]) (.agg #[.int .i64 (E k 0),.int .i64 (E k 1),.int .i64 (E k 2),.int .i64 (E k 3),.int .i64 (E k 4),.int .i64 (E k 5),.int .i64 (E k 6),.int .i64 (E k 7),.int .i64 (E k 8),.int .i64 (E k 9),.int .i64 (E k 10)])).run Tryz.prog wx=.ok (.bool (!Sn.sameE (E k) (E k))) wx:=fun wx=>run_ne_ent (E k) (E k) wx
   rw [Sn.sameE_refl] at hcmp
   have HL:=hide hlt
   clear hlt hGE hPE hk
   go_wp2_with fail
   go_quiet (fail)
   go_wp2
   go_roundw
   case rel=>exact ⟨k+1,by have:=uh HL;omega,by go_num,uh hdr _⟩
   case measure=>simp [intOf];have:=uh HL;omega
  ·have hge:¬(k:Int)<(nE:Int):=by omega
   clear hlt hk
   go_wp2_with fail
   go_loopw [6] (fun vi wr=>∃k:Nat,k≤nI∧vi=.int .i64 (k:Int)∧W0.grownBy wr none) (fun vi _=>200 - (intOf vi).toNat)
   case atStart=>exact ⟨0,by omega,rfl,uh hgr'⟩
   case round =>
    clear k1 k2 k3 k4 hge hgr'
    obtain ⟨k,hk,rfl,hgr⟩:=hrel
    have hgr':=hide hgr
    obtain ⟨k1,k2,k3,k4⟩:=uh keep wr hgr
    clear hgr
    by_cases hlt:k<nI
    ·have hlt':(k:Int)<(nI:Int):=by omega
     obtain ⟨gI,rfl,hGI⟩:=((uh hL').on (uh hgr')).items.lie (by omega)
     obtain ⟨pI,rfl,hPI⟩:=((uh hL2').on (uh hgr')).items.lie (by omega)
     obtain ⟨u0,u1,u2,u3⟩:=(hGI.its (n:=nI) rfl (by have:=uh HI;omega)).row hlt
     obtain ⟨s0,s1,s2,s3⟩:=(hPI.its (n:=nI) rfl (by have:=uh HI;omega)).row hlt
     have hdr:Hid (∀m,W0.grownBy (wr.drewN m) none):=fun m=>gdw (uh hgr') m
     have hcmp:∀wx:World,(binOp .neq 63 (.agg #[.int .i64 (I k 0),.int .i64 (I k 1),.int .i64 (I k 2),.int .i64 (I k 3)]) (.agg #[.int .i64 (I k 0),.int .i64 (I k 1),.int .i64 (I k 2),.int .i64 (I k 3)])).run Tryz.prog wx=.ok (.bool false) wx:=fun wx=>by
      have h:=run_ne_item (I k 0) (I k 1) (I k 2) (I k 3) (I k 0) (I k 1) (I k 2) (I k 3) wx
      simpa using h
     have HL:=hide hlt
     clear hlt hGI hPI hk
     go_wp2_with fail
     go_quiet (fail)
     go_wp2
     go_roundw
     case rel=>exact ⟨k+1,by have:=uh HL;omega,by go_num,uh hdr _⟩
     case measure=>simp [intOf];have:=uh HL;omega
    ·have hge:¬(k:Int)<(nI:Int):=by omega
     have hfin:=hide (uh hyes _ (uh hgr'))
     clear hlt hk
     go_wp2
     exact uh hfin


open Go.RowKit

set_option maxRecDepth 8000 in
set_option maxHeartbeats 1600000 in
theorem refGet_any (G cap k n:Nat) (F:Nat→Int) (w:World) (hS:Sn.Src w G F) (h8:n≤8) (hn:k+n≤918) :
  Calls Tryz.prog 41 #[.slice (some ⟨G,0,none⟩) 918 cap,.int .i64 (k:Int),.int .i64 (n:Int)] w fun e w'=>e=.returned (.int .u64 (Sn.be (Sn.cut F k n)))∧w'=w:=by
 have hS':=hide hS
 have H8:=hide h8
 have HN:=hide hn
 clear hS h8 hn
 go_enter Tryz.func41,Tryz.ntmps41
 go_wp2_with fail
 go_loop [7,8] (fun v7 v8=>∃i:Nat,i≤n∧v7=.int .u64 (Sn.be (Sn.cut F k i))∧v8=.int .i64 (i:Int)) (fun _ v8=>20 - (intOf v8).toNat)
 case atStart=>exact ⟨0,by omega,rfl,rfl⟩
 case round =>
  obtain ⟨i,hi,rfl,rfl⟩:=hrel
  by_cases hlt:i<n
  ·have hlt':(i:Int)<(n:Int):=by omega
   have HL:=hide hlt
   have hi8:(i:Int)<8:=by have:=uh H8;omega
   have hk9:(k:Int)+(i:Int)<918:=by have:=uh HN;omega
   have hk0:¬(k:Int)+(i:Int)<0:=by omega
   have u0:w.cell? ⟨G,k+i,none⟩=some (.int .u8 (F (k+i))):=(uh hS').cell (k+i) (by have:=uh HN;omega)
   obtain ⟨v0,v1⟩:=Sn.be_bound i F k (fun j _=>(uh hS').byte _)
   have v2:Sn.be (Sn.cut F k i)<72057594037927936:=by
    have h7:i≤7:=by have:=uh H8;omega
    have:(256:Int) ^ i≤256 ^ 7:=by
     rcases (show i=0∨i=1∨i=2∨i=3∨i=4∨i=5∨i=6∨i=7 by omega) with rfl | rfl | rfl | rfl | rfl | rfl | rfl | rfl <;> decide
    omega
   have hor:=Sn.or_byte (Sn.be (Sn.cut F k i)) (F (k+i)) v0 v2 ((uh hS').byte _).1 ((uh hS').byte _).2
   have hmo:=hide (Sn.be_more (Sn.cut F k i) (F (k+i)))
   rw [←Sn.cut_more] at hmo
   rw [←uh hmo] at hor
   have hw:IntKind.u64.wrap (F (k+i))=F (k+i):=by
    rw [Sn.wrap64]
    have:=(uh hS').byte (k+i)
    omega
   obtain ⟨X,hX⟩:∃X,Sn.be (Sn.cut F k i)=X:=⟨_,rfl⟩
   rw [hX] at hor ⊢
   clear hlt hi hX v0 v1 v2 hmo
   go_wp2
   go_round
   case rel=>exact ⟨i+1,by have:=uh HL;omega,rfl,by go_num⟩
   case measure=>simp [intOf];have:=uh HL;have:=uh H8;omega
  ·obtain rfl:i=n:=by omega
   have hge:¬(i:Int)<(i:Int):=by omega
   clear hlt hi
   go_wp2
   go_ret
   exact ⟨rfl,rfl⟩

end Go.Proofs.YtepppmepilffcaaGreat
