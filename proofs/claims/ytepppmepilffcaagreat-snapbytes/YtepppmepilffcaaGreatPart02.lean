import Derived.Test.YtepppmepilffcaaGreatPart01
import Derived.Handy
namespace Go.Proofs.YtepppmepilffcaaGreat
open Go.RowKit

theorem Gr.within_neg (a n:Int) (hn:0<n) (h:a.tmod n<0):a.tmod n+n=a % n:=by
 have:=Int.emod_nonneg a (b:=n) (by omega)
 have:=Int.emod_lt_of_pos a hn
 have e:=Int.emod_eq_tmod (a:=a) (b:=n)
 by_cases hc:0≤a∨n ∣ a
 ·rw [if_pos hc] at e;omega
 ·rw [if_neg hc] at e;omega

theorem Gr.within_pos (a n:Int) (hn:0<n) (h:¬a.tmod n<0):a.tmod n=a % n:=by
 have:=Int.emod_lt_of_pos a hn
 have e:=Int.emod_eq_tmod (a:=a) (b:=n)
 by_cases hc:0≤a∨n ∣ a
 ·rw [if_pos hc] at e;omega
 ·rw [if_neg hc] at e;omega

def Made (w:World) (T:TypeId) (n:Nat) (F:Nat→Value) (e:Ending) (w':World):Prop :=
 ∃g,e=.returned (.slice (some ⟨g,0,none⟩) n n)∧w.heap.size≤g∧Arr w' g T n F∧Below w.heap.size w w'

theorem info_byte:(Tryz.prog.info? 5).map (fun i=>(i.zero,i.size,i.bytes))=some (some (.int .u8 0),1,1):=by kernel_rfl

def Gr.Sees (len:Nat) (f:Nat→Int) (x0 y0 x1 y1:Int):Prop :=
 Gr.inB x0 y0=true∧Gr.inB x1 y1=true∧∀k,0<k→k<Gr.span x0 y0 x1 y1→Gr.clearB (Gr.kind len f (Gr.ln x0 y0 x1 y1 k))=true

def Tells (w:World) (p:Prop) (e:Ending) (w':World):Prop:=∃b,e=.returned (.bool b)∧(b=true↔p)∧Below w.heap.size w w'

theorem Gr.sees_no {len:Nat} {f:Nat→Int} {x0 y0 x1 y1:Int} (h:Gr.inB x0 y0=true→Gr.inB x1 y1=false):¬Gr.Sees len f x0 y0 x1 y1:=by
 rintro ⟨h0,h1,_⟩
 rw [h h0] at h1
 cases h1

set_option maxHeartbeats 800000 in
theorem refSees_any (a:Option Addr) (len cap:Nat) (f:Nat→Int) (x0 y0 x1 y1:Int) (w:World) (h:Vec w.heap.size w a len (Byts f)) (hf:∀i,0≤f i∧f i≤255) :
  Calls Tryz.prog 90 #[.slice a len cap,.int .i64 x0,.int .i64 y0,.int .i64 x1,.int .i64 y1] w (Tells w (Gr.Sees len f x0 y0 x1 y1)):=by
 have hv:=hide h
 have hf':=hide hf
 clear h hf
 by_cases hin:Gr.inB x0 y0=true∧Gr.inB x1 y1=true
 ·obtain ⟨h0,h1⟩:=hin
  have hn23:=Gr.span_bd x0 y0 x1 y1 h0 h1
  go_enter Tryz.func90,Tryz.ntmps90
  go_wp2_with fail
  refine (refLine_some _ _ _ _ _ h0 h1).mono ?_
  rintro e w1 ⟨a1,cap1,rfl,hv1,_,hb1⟩
  have hl:=hide hv1
  have hv2:=hide ((uh hv).kept hb1)
  obtain ⟨n,hn⟩:∃n:Nat,n=Gr.span x0 y0 x1 y1:=⟨_,rfl⟩
  rw [←hn] at hn23 hl ⊢
  have hn':=hide hn
  obtain ⟨B1,hB1⟩:∃B,B=w1.heap.size:=⟨_,rfl⟩
  rw [←hB1] at hl
  have hwB:w.heap.size≤B1:=by rw [hB1];exact hb1.size
  clear hv hv1 hn hB1
  go_wp2_with fail
  go_loopw [12] (fun i wr=>∃k:Nat,1≤k∧k≤n+1∧i=.int .i64 k∧(∀j,0<j→j<k→j<n→Gr.clearB (Gr.kind len f (Gr.ln x0 y0 x1 y1 j))=true)∧Vec B1 wr a1 (n+1) (Ints (Gr.ln x0 y0 x1 y1))∧Vec w.heap.size wr a len (Byts f)∧Below w.heap.size w wr) (fun i _=>n+1 - (intOf i).toNat)
  case atStart=>exact ⟨1,by omega,by omega,rfl,fun j h1 h2 _=>by omega,uh hl,uh hv2,hb1⟩
  case round =>
   obtain ⟨k,hk0,hk,rfl,hall,hl1,hv1,hbr⟩:=hrel
   have hall':=hide hall
   have hl2:=hide hl1
   have hv3:=hide hv1
   clear hall hl1 hv1 hv2 hl hb1
   by_cases hlt:k<n
   ·obtain ⟨b,off,rfl,_,hc⟩:=(uh hl2).at (k:=k) (by omega)
    have hc':wr.cell? ⟨b,off+k,none⟩=some (.int .i64 (Gr.ln x0 y0 x1 y1 k)):=hc
    obtain ⟨l1,l2⟩:=Gr.ln_bd x0 y0 x1 y1 h0 h1 k (by have:=uh hn';omega)
    obtain ⟨c,hcc⟩:∃c,c=Gr.ln x0 y0 x1 y1 k:=⟨_,rfl⟩
    rw [←hcc] at hc' l1 l2
    have hkd:=hide (Gr.kind_at len f c l1)
    have hc24:c.tmod 24=c % 24:=Int.tmod_eq_emod_of_nonneg l1
    have hq24:IntKind.i64.wrap (c.tdiv 24)=c / 24:=by rw [Int.tdiv_eq_ediv_of_nonneg l1];rw [IntKind.wrap_i64];omega
    have hC:=hide hcc
    clear hc hcc
    have hlt':(k:Int)+1<(n:Int)+1:=by omega
    have hlt2:(k:Int)<(n:Int)+1:=by omega
    by_cases hcl:Gr.clearB (Gr.kind len f c)=true
    ·have hcl2:Gr.clearB (Gr.at len f (c % 24) (c / 24))=true:=by rw [uh hkd];exact hcl
     go_wp2_with fail
     go_quiet (first | (go_at_call 51;refine Calls.quiet_of_same (refAt_any w.heap.size _ _ _ f _ _ _ ?_ (uh hf'));exact (uh hv3).drew _) | (go_at_call 108;refine Calls.quiet_of_same (refClear_any _ _)))
     go_wp2
     go_roundw
     case rel =>
      refine ⟨k+1,by omega,by omega,by go_num,fun j g1 g2 g3=>?_,(uh hl2).drew _,(uh hv3).drew _,below_drewN hbr _⟩
      by_cases hjk:j=k
      ·rw [hjk,←uh hC];exact hcl
      ·exact (uh hall') j g1 (by omega) g3
     case measure=>simp [intOf];omega
    ·have hcl':Gr.clearB (Gr.at len f (c % 24) (c / 24))=false:=by rw [uh hkd];simpa using hcl
     have hno:Hid (¬Gr.Sees len f x0 y0 x1 y1):=by
      show ¬Gr.Sees len f x0 y0 x1 y1
      rintro ⟨_,_,h⟩
      exact hcl (by rw [uh hC];exact h k (by omega) (by have:=uh hn';omega))
     clear hcl
     go_wp2_with fail
     go_quiet (first | (go_at_call 51;refine Calls.quiet_of_same (refAt_any w.heap.size _ _ _ f _ _ _ ?_ (uh hf'));exact (uh hv3).drew _) | (go_at_call 108;refine Calls.quiet_of_same (refClear_any _ _)))
     go_wp2
     go_ret
     exact ⟨false,rfl,⟨fun h=>(by cases h),fun h=>absurd h (uh hno)⟩,below_drewN hbr _⟩
   ·have hge:¬(k:Int)+1<(n:Int)+1:=by omega
    have hyes:Hid (Gr.Sees len f x0 y0 x1 y1):=⟨h0,h1,fun j g1 g2=>(uh hall') j g1 (by have:=uh hn';omega) (by have:=uh hn';omega)⟩
    have hpos:(0:Int)<(n:Int)+1:=by omega
    go_wp2
    go_ret
    exact ⟨true,rfl,⟨fun _=>uh hyes,fun _=>rfl⟩,hbr⟩
 ·have hno:Gr.inB x0 y0=true→Gr.inB x1 y1=false:=fun h0=>by simpa using fun h1=>hin ⟨h0,h1⟩
  have hns:=hide (Gr.sees_no (len:=len) (f:=f) hno)
  clear hin
  go_enter Tryz.func90,Tryz.ntmps90
  go_wp2_with fail
  refine (refLine_none _ _ _ _ _ hno).mono ?_
  rintro e w' ⟨rfl,hw⟩
  subst w'
  go_wp2_with fail
  refine wp_loop_rounds 1 ?_
  rw [rounds_succ]
  go_wp2
  go_ret
  exact ⟨false,rfl,⟨fun h=>(by cases h),fun h=>absurd h (uh hns)⟩,Below.refl _ _⟩


open Go.RowKit

def Gr.openB (f:Nat→Int) (blen:Nat) (g:Nat→Bool) (i:Nat):Bool:=Gr.walkB (f i) && !(decide (i<blen) && g i)

theorem Gr.open_no {f:Nat→Int} {blen:Nat} {g:Nat→Bool} {i:Nat} (h:Gr.walkB (f i)=false):Gr.openB f blen g i=false:=by simp [Gr.openB,h]
theorem Gr.open_past {f:Nat→Int} {blen:Nat} {g:Nat→Bool} {i:Nat} (h:Gr.walkB (f i)=true) (hi:¬i<blen):Gr.openB f blen g i=true:=by simp [Gr.openB,h,hi]
theorem Gr.open_in {f:Nat→Int} {blen:Nat} {g:Nat→Bool} {i:Nat} (h:Gr.walkB (f i)=true) (hi:i<blen):Gr.openB f blen g i=!(g i):=by simp [Gr.openB,h,hi]

theorem Gr.at_in {f:Nat→Int} {x y:Int} {k:Nat} (h:Gr.inB x y=true) (hk:y*24+x=(k:Int)):Gr.at 384 f x y=f k:=by
 have:=(Gr.inB_iff x y).1 h
 unfold Gr.at
 rw [if_pos ⟨h,by omega⟩,hk,Int.toNat_natCast]

theorem gtr {a b c:World} {r:Option Nat} (h:a.grownBy b r) (k:b.grownBy c r):a.grownBy c r :=
 ⟨k.os.trans h.os,k.tape.trans h.tape,k.output.trans h.output,Nat.le_trans h.size k.size,fun i hi hr=>(k.block i (Nat.lt_of_lt_of_le hi h.size) hr).trans (h.block i hi hr)⟩

theorem gow {a b c:World} {r s:Option Nat} (h:a.grownBy b r) (k:b.grownBy c s) (hs:∀n,s=some n→a.heap.size≤n):a.grownBy c r :=
 ⟨k.os.trans h.os,k.tape.trans h.tape,k.output.trans h.output,Nat.le_trans h.size k.size,fun i hi hr=>(k.block i (Nat.lt_of_lt_of_le hi h.size) (fun e=>by have:=hs i e.symm;omega)).trans (h.block i hi hr)⟩

theorem gst {a b:World} {g:Nat} (h:a.grownBy b (some g)) (i:Nat) (u:Value):a.grownBy (b.setCell ⟨g,i,none⟩ u) (some g) :=
 gtr h ⟨rfl,rfl,rfl,by simp,fun k _ hk=>heap_setCell_other b ⟨g,i,none⟩ k u (fun e=>hk (by rw [e]))⟩

theorem gal {a b:World} {r:Option Nat} (h:a.grownBy b r) (o:Obj):a.grownBy (b.alloc o) r:=gtr h (World.grownBy_alloc b o r)

theorem gdw {a b:World} {r:Option Nat} (h:a.grownBy b r) (n:Nat):a.grownBy (b.drewN n) r:=by
 have k:=below_drewN (Below.refl b.heap.size b) n
 exact gtr h ⟨k.os,k.tape,k.output,k.size,fun i hi _=>k.block i hi⟩

def Vex (G:Nat) (w:World) (a:Option Addr) (len:Nat) (F:Nat→Value):Prop :=
 len≤maxLen∧(len=0∨∃b off,a=some ⟨b,off,none⟩∧b<w.heap.size∧b≠G∧∀i,i<len→w.cell? ⟨b,off+i,none⟩=some (F i))

theorem Vex.at {G:Nat} {w wr:World} {a:Option Addr} {len:Nat} {F:Nat→Value} (h:Vex G w a len F) (hg:w.grownBy wr (some G)) {k:Nat} (hk:k<len) :
  ∃b off,a=some ⟨b,off,none⟩∧wr.cell? ⟨b,off+k,none⟩=some (F k):=by
 obtain ⟨_,h0 | ⟨b,off,ha,hlt,hne,hc⟩⟩:=h
 ·omega
 ·exact ⟨b,off,ha,(World.cell?_of_block (a:=⟨b,off+k,none⟩) (hg.block b hlt (fun e=>hne (by cases e;rfl)))).trans (hc k hk)⟩

theorem one_at (w:World) (x:Value) (t:TypeId) (B:Nat) (hB:B=w.heap.size):∀j u,[x][j]?=some u→(w.alloc (.cells #[x] t)).cell? ((⟨B,0,none⟩:Addr).add j)=some u:=by
 subst hB
 exact cell_one_new w x t

def natInts (l:List Nat):List Int:=l.map Int.ofNat

theorem natInts_more (l:List Nat) (b:Nat):(natInts l).map (Value.int .i64) ++ [.int .i64 (b:Int)]=(natInts (l ++ [b])).map (Value.int .i64):=by
 simp [natInts]

theorem natInts_len (l:List Nat):(natInts l).length=l.length:=by simp [natInts]

theorem natInts_at (l:List Nat) (i:Nat):(natInts l)[i]?.getD 0=((l[i]?.getD 0:Nat):Int):=by
 unfold natInts
 rw [List.getElem?_map]
 cases l[i]? <;> rfl

theorem own_vex {w:World} {base G:Nat} {v:Value} {l:List Nat} (h:w.ownsRow base 3 1 v l.length ((natInts l).map (Value.int .i64))) (hG:G<base) (hm:l.length≤maxLen) :
  ∃a cap,v=.slice a l.length cap∧Vex G w a l.length (Ints fun i=>((l[i]?.getD 0:Nat):Int)):=by
 rcases h.2 with ⟨rfl,h0⟩ | ⟨g,cap,cur,rfl,hb,hg,_,_,_,_⟩
 ·exact ⟨none,0,by rw [h0],hm,.inl h0⟩
 ·refine ⟨_,cap,rfl,hm,.inr ⟨g,0,rfl,lt_of_block hg,by omega,fun i hi=>?_⟩⟩
  rw [Nat.zero_add,h.cellAt i (by omega),List.getElem?_map]
  show _=some (Value.int .i64 ((l[i]?.getD 0:Nat):Int))
  rw [←natInts_at,List.getElem?_eq_getElem (by rw [natInts_len];exact hi)]
  rfl

theorem Arr.grown {w w':World} {g:Nat} {T:TypeId} {n:Nat} {F:Nat→Value} {r:Option Nat} (h:Arr w g T n F) (hg:w.grownBy w' r) (hr:r≠some g):Arr w' g T n F:=by
 have hlt:=h.lt
 obtain ⟨cur,h1,hs,hc⟩:=h
 exact ⟨cur,(hg.block g hlt (fun e=>hr e.symm)).trans h1,hs,hc⟩

theorem Arr.alloc {w:World} {g:Nat} {T:TypeId} {n:Nat} {F:Nat→Value} (h:Arr w g T n F) (o:Obj):Arr (w.alloc o) g T n F:=h.grown (World.grownBy_alloc w o none) (by simp)

theorem Arr.upd {w:World} {g n i:Nat} {T:TypeId} {F:Nat→Int} (h:Arr w g T n (Ints F)) (v:Int):Arr (w.setCell ⟨g,i,none⟩ (.int .i64 v)) g T n (Ints (Gr.upd F i v)):=by
 refine (h.store i _).congr fun j _=>?_
 show (if j=i then Value.int .i64 v else .int .i64 (F j))=.int .i64 (if j=i then v else F j)
 split <;> rfl


open Go.RowKit

def Gn.D (s f a b n:Int):Int:=Dc.die n s [f,a,b]

theorem Gn.D_bd (s f a b n:Int) (h:1≤n):0≤Gn.D s f a b n∧Gn.D s f a b n<n:=Dc.die_bd n s [f,a,b] h

def Says (w:World) (v:Value) (e:Ending) (w':World):Prop:=e=.returned v∧w.grownBy w' none

theorem Row.three (w:World) (x y z:Int) (T:TypeId):Row (w.alloc (.cells #[.int .i64 x,.int .i64 y,.int .i64 z] T)) (some ⟨w.heap.size,0,none⟩) 3 [x,y,z]:=by
 refine ⟨rfl,by decide,.inr ⟨_,_,rfl,fun i hi=>?_⟩⟩
 rcases (show i=0∨i=1∨i=2 by omega) with rfl | rfl | rfl <;> simp

theorem gsr {a b:World} (h:a.grownBy b none) (p:Addr) (hp:a.heap.size≤p.block) (u:Value):a.grownBy (b.setCell p u) none :=
 ⟨h.os,h.tape,h.output,by simpa using h.size,fun k hk hr=>(heap_setCell_other b p k u (by omega)).trans (h.block k hk hr)⟩

theorem refD_any (s f a b n:Int) (w:World) (hn:n≤9223372036854775807) :
  Calls Tryz.prog 73 #[.int .i64 s,.int .i64 f,.int .i64 a,.int .i64 b,.int .i64 n] w (Says w (.int .i64 (Gn.D s f a b n))):=by
 have c:∀(w':World) (B:Nat),B=w'.heap.size→Calls Tryz.prog 92 #[.int .i64 n,.int .i64 s,.slice (some ⟨B,0,none⟩) 3 3] (w'.alloc (.cells #[.int .i64 f,.int .i64 a,.int .i64 b] 3)) fun e w1=>e=.returned (.int .i64 (Gn.D s f a b n))∧w1=w'.alloc (.cells #[.int .i64 f,.int .i64 a,.int .i64 b] 3):=by
  rintro w' B rfl
  exact refDie_row n s _ 3 3 [f,a,b] _ (Row.three w' f a b 3) hn
 go_enter Tryz.func73,Tryz.ntmps73
 go_wp2_with fail
 refine (c _ _ (by simp)).mono ?_
 rintro e w1 ⟨rfl,rfl⟩
 go_wp2
 go_ret
 exact ⟨rfl,World.grownBy_alloc _ _ _⟩

def Gn.to1 (a b:Int):Int:=if a<b then a+1 else if b<a then a - 1 else a

theorem toward_any (a b:Int) (w:World) (h:a≠b) (h1:-1000≤a) (h2:a≤1000):Calls Tryz.prog 75 #[.int .i64 a,.int .i64 b] w fun e w'=>e=.returned (.int .i64 (Gn.to1 a b))∧w'=w:=by
 by_cases h3:a<b
 ·have hd:=hide (show Gn.to1 a b=a+1 from if_pos h3)
  go_enter Tryz.func75,Tryz.ntmps75
  go_wp2
  go_ret
  exact ⟨rti (uh hd).symm,rfl⟩
 ·have hd:=hide (show Gn.to1 a b=a - 1 by unfold Gn.to1;rw [if_neg h3,if_pos (by omega)])
  go_enter Tryz.func75,Tryz.ntmps75
  go_wp2
  go_ret
  exact ⟨rti (uh hd).symm,rfl⟩

def Gn.hp (k:Int):Int:=if k=2 then 4 else if k=3 then 9 else 6
def Gn.atk (k:Int):Int:=if k=2 then 2 else if k=3 then 4 else 3
def Gn.df (k:Int):Int:=if k=3 then 1 else 0
def Gn.ent (k x y:Int):Array Value:=#[.int .i64 k,.int .i64 0,.int .i64 0,.int .i64 x,.int .i64 y,.int .i64 (Gn.hp k),.int .i64 (Gn.hp k),.int .i64 (Gn.atk k),.int .i64 (Gn.df k),.int .i64 0,.int .i64 0]

theorem refStats_any (k:Int) (w:World) (h1:2≤k) (h2:k≤4):Calls Tryz.prog 46 #[.int .i64 k] w (Says w (.agg (Gn.ent k 0 0))):=by
 rcases (show k=2∨k=3∨k=4 by omega) with rfl | rfl | rfl
 all_goals
  go_enter Tryz.func46,Tryz.ntmps46
  go_wp2
  go_returns
  exact ⟨rfl,World.grownBy_alloc _ _ _⟩

end Go.Proofs.YtepppmepilffcaaGreat
