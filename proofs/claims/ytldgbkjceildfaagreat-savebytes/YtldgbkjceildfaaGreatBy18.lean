import Derived.Test.YtldgbkjceildfaaGreatBy17
import Derived.ChangeKeysEq
namespace Go.Proofs.YtldgbkjceildfaaGreat

def Sn.goldB (g:Nat→Int) (t:Nat):Bool:=decide (0≤g t∧g t≤999)
def Sn.numB (s:Nat→Int):Bool:=decide (0≤s 1∧s 1<1073741824∧1≤s 2∧s 2≤3∧0≤s 3∧s 3≤2)
def Sn.goldsB (g:Nat→Int):Nat→Bool
 | 0=>true
 | n+1=>Sn.goldsB g n && Sn.goldB g n
def Sn.headB (s g:Nat→Int):Bool:=Sn.goldsB g 4 && Sn.numB s

theorem Sn.goldsB_of {g:Nat→Int}:∀{n:Nat},(∀t,t<n→Sn.goldB g t=true)→Sn.goldsB g n=true
 | 0,_=>rfl
 | n+1,h=>by
  show (Sn.goldsB g n && Sn.goldB g n)=true;rw [Sn.goldsB_of (fun t ht=>h t (by omega)),h n (by omega)];rfl

theorem Sn.goldsB_no {g:Nat→Int} {t:Nat} (ht:Sn.goldB g t=false):∀{n:Nat},t<n→Sn.goldsB g n=false
 | 0,h=>absurd h (by omega)
 | n+1,h=>by
  show (Sn.goldsB g n && Sn.goldB g n)=false;by_cases e:t=n
  ·rw [←e,ht,Bool.and_false]
  ·rw [Sn.goldsB_no ht (by omega),Bool.false_and]

def Sn.cnt (c:Nat→Int) (kind:Int):Nat→Int
 | 0=>0
 | n+1=>Sn.cnt c kind n+if c n=kind then 1 else 0

theorem Sn.cnt_bound (c:Nat→Int) (kind:Int):∀n,0≤Sn.cnt c kind n∧Sn.cnt c kind n≤(n:Int)
 | 0=>⟨Int.le_refl _,Int.le_refl _⟩
 | n+1=>by
  have:=Sn.cnt_bound c kind n;unfold Sn.cnt;split <;> omega

theorem Sn.cnt_none {c:Nat→Int} {kind:Int}:∀{n:Nat},(∀i,i<n→c i≠kind)→Sn.cnt c kind n=0
 | 0,_=>rfl
 | n+1,h=>by
  unfold Sn.cnt;rw [Sn.cnt_none (fun i hi=>h i (by omega)),if_neg (h n (by omega))];rfl

theorem Sn.cnt_one {c:Nat→Int} {kind:Int} {u:Nat} (hu:c u=kind):∀{n:Nat},u<n→(∀i,i<n→c i=kind→i=u)→Sn.cnt c kind n=1
 | 0,h,_=>absurd h (by omega)
 | n+1,h,h1=>by
  unfold Sn.cnt;by_cases e:u=n
  ·subst e;rw [Sn.cnt_none (fun i hi e'=>by have:=h1 i (by omega) e';omega),if_pos hu];rfl
  ·rw [Sn.cnt_one hu (by omega) (fun i hi=>h1 i (by omega)),if_neg (fun e'=>e (h1 n (by omega) e').symm)];rfl

def Sn.mx (c:Nat→Int):Nat→Int
 | 0=>c 0
 | n+1=>max (Sn.mx c n) (c (n+1))

theorem Sn.mx_le {c:Nat→Int} {m:Int}:∀{n:Nat},Sn.mx c n≤m↔∀i,i≤n→c i≤m
  | 0 => ⟨fun h i hi => by obtain rfl : i = 0 := by omega
                           exact h, fun h => h 0 (by omega)⟩
  | n+1=>by
    unfold Sn.mx
    rw [Int.max_le,Sn.mx_le]
    constructor
    · rintro ⟨h1,h2⟩ i hi
      by_cases e:i=n+1
      · rw [e];exact h2
      · exact h1 i (by omega)
    · intro h
      exact ⟨fun i hi=>h i (by omega),h (n+1) (by omega)⟩

def Sn.freeB (e:Nat→Int):Bool:=decide (e 2=0∧e 3=0∧e 4=0∧e 5=0∧e 6=0∧e 7=0∧e 8=0∧e 9=0∧e 10=0)
def Sn.soundB (e:Nat→Int):Bool:=decide (e 6=En.stats (e 0) 6∧e 7=En.stats (e 0) 7∧e 8=En.stats (e 0) 8∧1≤e 5∧e 5≤e 6∧0≤e 9∧e 9≤9∧0≤e 10∧e 10≤9)
def Sn.aloneB (c:Nat→Int) (E:Nat→Nat→Int) (k:Nat):Bool:=Gr.walkB (Gr.at 384 c (E k 3) (E k 4)) && decide (En.first (En.atQ E (E k 3) (E k 4)) k=-1)
def Sn.seatedB (E:Nat→Nat→Int) (k:Nat):Bool:=if E k 0=1 then decide (0≤E k 2∧E k 2≤3∧En.first (En.heroQ E (E k 2)) k=-1) else decide (E k 2=0)

def Sn.entC (c:Nat→Int) (E:Nat→Nat→Int) (k:Nat):Int :=
 if 0≤E k 0∧E k 0≤4 then
  if 0≤E k 1∧E k 1≤255 then
   if E k 0=0 then (if Sn.freeB (E k)=true then 0 else 9)
   else if Sn.soundB (E k)=true∧Sn.aloneB c E k=true∧Sn.seatedB E k=true then 0 else 9
  else 9
 else 3

def Sn.rowC (c:Nat→Int) (E:Nat→Nat→Int):Nat→Int
 | 0=>0
 | n+1=>if Sn.rowC c E n=0 then Sn.entC c E n else Sn.rowC c E n

theorem Sn.rowC_stays {c:Nat→Int} {E:Nat→Nat→Int} {n:Nat} {v:Int} (h:Sn.rowC c E n=v) (hv:v≠0):∀m,n≤m→Sn.rowC c E m=v:=by
  intro m hm
  induction m with
  | zero => obtain rfl : n = 0 := by omega
            exact h
  | succ m ih =>
    by_cases e:n=m+1
    · rw [←e];exact h
    · have:=ih (by omega)
      unfold Sn.rowC
      rw [this,if_neg hv]

theorem Sn.rowC_zero {c:Nat→Int} {E:Nat→Nat→Int}:∀{n:Nat},(∀k,k<n→Sn.entC c E k=0)→Sn.rowC c E n=0
 | 0,_=>rfl
 | n+1,h=>by
  unfold Sn.rowC;rw [Sn.rowC_zero (fun k hk=>h k (by omega)),if_pos rfl];exact h n (by omega)

def Sn.Chk (s g c:Nat→Int) (E I:Nat→Nat→Int) (v:Int):Prop :=
 if Sn.headB s g=true then
  if Sn.mx c 383≤5 then
   if Sn.cnt c 3 384=1∧Sn.cnt c 4 384=1 then
    if Sn.rowC c E 32=0 then (v=0∧Gd.Ok c 40 I)∨(v=9∧¬Gd.Ok c 40 I)
    else v=Sn.rowC c E 32
   else v=2
  else v=3
 else v=1

theorem Sn.Chk.one {s g c:Nat→Int} {E I:Nat→Nat→Int} {v u:Int} (h:Sn.Chk s g c E I v) (h':Sn.Chk s g c E I u):u=v:=by
 unfold Sn.Chk at h h';split at h
 ·rename_i h1;rw [if_pos h1] at h';split at h
  ·rename_i h2;rw [if_pos h2] at h';split at h
   ·rename_i h3;rw [if_pos h3] at h';split at h
    ·rename_i h4;rw [if_pos h4] at h';rcases h with ⟨rfl,a⟩|⟨rfl,a⟩ <;> rcases h' with ⟨rfl,b⟩|⟨rfl,b⟩
     ·rfl
     ·exact absurd a b
     ·exact absurd b a
     ·rfl
    ·rename_i h4;rw [if_neg h4] at h';rw [h,h']
   ·rename_i h3;rw [if_neg h3] at h';rw [h,h']
  ·rename_i h2;rw [if_neg h2] at h';rw [h,h']
 ·rename_i h1;rw [if_neg h1] at h';rw [h,h']


open Go.RowKit

def Sn.sameE (e f:Nat→Int):Bool:=decide (e 0=f 0) && (decide (e 1=f 1) && (decide (e 2=f 2) && (decide (e 3=f 3) && (decide (e 4=f 4) && (decide (e 5=f 5) && (decide (e 6=f 6) && (decide (e 7=f 7) && (decide (e 8=f 8) && (decide (e 9=f 9) && decide (e 10=f 10))))))))))

def Sn.sameI (e f:Nat→Int):Bool:=decide (e 0=f 0) && (decide (e 1=f 1) && (decide (e 2=f 2) && decide (e 3=f 3)))

theorem Sn.sameE_iff (e f:Nat→Int):Sn.sameE e f=true↔∀j,j<11→e j=f j:=by
 unfold Sn.sameE;simp only [Bool.and_eq_true,decide_eq_true_eq];constructor
 ·rintro ⟨h0,h1,h2,h3,h4,h5,h6,h7,h8,h9,h10⟩ j hj;rcases (show j=0∨j=1∨j=2∨j=3∨j=4∨j=5∨j=6∨j=7∨j=8∨j=9∨j=10 by omega) with rfl|rfl|rfl|rfl|rfl|rfl|rfl|rfl|rfl|rfl|rfl <;> assumption
 ·intro h;exact ⟨h 0 (by omega),h 1 (by omega),h 2 (by omega),h 3 (by omega),h 4 (by omega),h 5 (by omega),h 6 (by omega),h 7 (by omega),h 8 (by omega),h 9 (by omega),h 10 (by omega)⟩

theorem Sn.sameI_iff (e f:Nat→Int):Sn.sameI e f=true↔∀j,j<4→e j=f j:=by
 unfold Sn.sameI;simp only [Bool.and_eq_true,decide_eq_true_eq];constructor
 ·rintro ⟨h0,h1,h2,h3⟩ j hj;rcases (show j=0∨j=1∨j=2∨j=3 by omega) with rfl|rfl|rfl|rfl <;> assumption
 ·intro h;exact ⟨h 0 (by omega),h 1 (by omega),h 2 (by omega),h 3 (by omega)⟩

set_option maxHeartbeats 1600000 in
theorem run_ne_ent (e f:Nat→Int) (w:World):(binOp .neq 70 (.agg #[.int .i64 (e 0),.int .i64 (e 1),.int .i64 (e 2),.int .i64 (e 3),.int .i64 (e 4),.int .i64 (e 5),.int .i64 (e 6),.int .i64 (e 7),.int .i64 (e 8),.int .i64 (e 9),.int .i64 (e 10)]) (.agg #[.int .i64 (f 0),.int .i64 (f 1),.int .i64 (f 2),.int .i64 (f 3),.int .i64 (f 4),.int .i64 (f 5),.int .i64 (f 6),.int .i64 (f 7),.int .i64 (f 8),.int .i64 (f 9),.int .i64 (f 10)])).run Tryz.prog w=.ok (.bool (!Sn.sameE e f)) w:=by
 unfold Sn.sameE;by_cases h0:e 0=f 0
 ·by_cases h1:e 1=f 1
  ·by_cases h2:e 2=f 2
   ·by_cases h3:e 3=f 3
    ·by_cases h4:e 4=f 4
     ·by_cases h5:e 5=f 5
      ·by_cases h6:e 6=f 6
       ·by_cases h7:e 7=f 7
        ·by_cases h8:e 8=f 8
         ·by_cases h9:e 9=f 9
          ·by_cases h10:e 10=f 10
           ·simp [go_sem,h0,h1,h2,h3,h4,h5,h6,h7,h8,h9,h10]
           ·simp [go_sem,h0,h1,h2,h3,h4,h5,h6,h7,h8,h9,h10]
          ·simp [go_sem,h0,h1,h2,h3,h4,h5,h6,h7,h8,h9]
         ·simp [go_sem,h0,h1,h2,h3,h4,h5,h6,h7,h8]
        ·simp [go_sem,h0,h1,h2,h3,h4,h5,h6,h7]
       ·simp [go_sem,h0,h1,h2,h3,h4,h5,h6]
      ·simp [go_sem,h0,h1,h2,h3,h4,h5]
     ·simp [go_sem,h0,h1,h2,h3,h4]
    ·simp [go_sem,h0,h1,h2,h3]
   ·simp [go_sem,h0,h1,h2]
  ·simp [go_sem,h0,h1]
 ·simp [go_sem,h0]


open Go.RowKit

def Gd.text (c:Nat→Int):ByteArray:=strOfNums ((List.range 384).map c)

theorem Lie.text {w:World} {G cap:Nat} {c:Nat→Int} (h:Lie w G 5 384 (Byts c)):(convert 24 9 (.slice (some ⟨G,0,none⟩) 384 cap)).run Tryz.prog w=.ok (.string (Gd.text c)) w:=by
 refine run_convert_bytes_arg w 24 5 Tryz.underlying24 Tryz.underlying5 G 0 384 cap ((List.range 384).map c) (by simp) (fun i hi=>?_) 9 Tryz.underlying9;rw [Nat.zero_add,h.cell hi];show some (Value.int .u8 (c i))=_;simp [List.getD,List.getElem?_map,List.getElem?_range hi]

theorem run_eq_gold (a b c d:Int) (w:World):(Op.equalIn 10000 28 (.agg #[.int .i64 a,.int .i64 b,.int .i64 c,.int .i64 d]) (.agg #[.int .i64 a,.int .i64 b,.int .i64 c,.int .i64 d])).run Tryz.prog w=.ok true w:=by
 obtain ⟨i0,hi,_,_,_⟩:=info_parts info_int;have hc:Tryz.prog.cellsOf 3=1:=by kernel_rfl
 have h:=run_equalIn_array (P:=Tryz.prog) (w:=w) 9999 #[.int .i64 a,.int .i64 b,.int .i64 c,.int .i64 d] #[.int .i64 a,.int .i64 b,.int .i64 c,.int .i64 d] Tryz.underlying28 hi;have hr:(Op.eqItems 9999 3 (Tryz.prog.cellsOf 3) #[Value.int .i64 a,.int .i64 b,.int .i64 c,.int .i64 d] #[.int .i64 a,.int .i64 b,.int .i64 c,.int .i64 d] (List.range 4)).run Tryz.prog w=.ok true w:=by
  rw [hc];simp [List.range,List.range.loop,Op.eqItems,go_sem]
 rw [hr] at h;exact h

set_option maxRecDepth 8000 in
set_option maxHeartbeats 6400000 in
theorem same7_any (s g c:Nat→Int) (E I:Nat→Nat→Int) (gC gE gI cC cE cI hC hE hI dC dE dI:Nat) (w:World) (hL:Gd.Lists w gC gE gI c E I) (hL2:Gd.Lists w hC hE hI c E I) :
  Calls Tryz.prog 15 #[.agg (Gd.world s gC gE gI cC cE cI g),.agg (Gd.world s hC hE hI dC dE dI g)] w (Says w (.bool true)):=by
 obtain ⟨W,hW⟩:∃W,W=(w.alloc (.cells (Gd.world s gC gE gI cC cE cI g) 30)).alloc (.cells (Gd.world s hC hE hI dC dE dI g) 30):=⟨_,rfl⟩;have hg:w.grownBy W none:=by rw [hW];exact gal (World.grownBy_alloc _ _ _) _
 have x1:Lie W w.heap.size 30 11 (Gd.box s gC gE gI cC cE cI g):=by
  rw [hW];exact ((Arr.world (heap_alloc_new w _)).alloc _).lie
 have x2:Lie W (w.heap.size+1) 30 11 (Gd.box s hC hE hI dC dE dI g):=by
  rw [hW];have h:=heap_alloc_new (w.alloc (.cells (Gd.world s gC gE gI cC cE cI g) 30)) (.cells (Gd.world s hC hE hI dC dE dI g) 30);rw [show (w.alloc (.cells (Gd.world s gC gE gI cC cE cI g) 30)).heap.size=w.heap.size+1 by simp] at h;exact (Arr.world h).lie
 obtain ⟨B,hB⟩:∃B,w.heap.size=B:=⟨_,rfl⟩;rw [hB] at x1 x2;have x1':=hide x1;have x2':=hide x2;have hL':=hide (hL.on hg);have hL2':=hide (hL2.on hg);have hg':=hide hg;have t1:=(uh hL').cells.text (cap:=cC);have t2:=(uh hL2').cells.text (cap:=dC);obtain ⟨T,hT⟩:∃T,T=Gd.text c:=⟨_,rfl⟩;rw [←hT] at t1 t2;obtain ⟨a0,a1,a2,a3,a4,a5,a6,a7,a8,a9,a10⟩:=x1.eleven;obtain ⟨b0,b1,b2,b3,b4,b5,b6,b7,b8,b9,b10⟩:=x2.eleven;have keep:Hid (∀x,W.grownBy x none→(x.cell? ⟨B,5,none⟩=some (.slice (some ⟨gE,0,none⟩) 32 cE)∧x.cell? ⟨B,6,none⟩=some (.slice (some ⟨gI,0,none⟩) 40 cI)∧x.cell? ⟨B+1,5,none⟩=some (.slice (some ⟨hE,0,none⟩) 32 dE)∧x.cell? ⟨B+1,6,none⟩=some (.slice (some ⟨hI,0,none⟩) 40 dI))):=fun x h =>
  ⟨((uh x1').on h).eleven.2.2.2.2.2.1,((uh x1').on h).eleven.2.2.2.2.2.2.1,((uh x2').on h).eleven.2.2.2.2.2.1,((uh x2').on h).eleven.2.2.2.2.2.2.1⟩
 have hgold:=fun wx=>run_eq_gold (g 0) (g 1) (g 2) (g 3) wx;clear hL hL2 hg hT x1 x2;unfold Gd.world at hW ⊢;go_enter Tryz.func15,Tryz.ntmps15;go_upto_region 1 with fail;rw [←hW];clear hW hB;go_wp2_with fail
 go_loopw [5] (fun vi wr=>∃k:Nat,k≤32∧vi=.int .i64 (k:Int)∧W.grownBy wr none) (fun vi _=>200 - (intOf vi).toNat)
 case atStart=>exact ⟨0,by omega,rfl,World.grownBy.refl _ _⟩
 case round =>
  clear hgold t1 t2 a0 a1 a2 a3 a4 a5 a6 a7 a8 a9 a10 b0 b1 b2 b3 b4 b5 b6 b7 b8 b9 b10;obtain ⟨k,hk,rfl,hgr⟩:=hrel;have hgr':=hide hgr;obtain ⟨k1,k2,k3,k4⟩:=uh keep wr hgr;clear hgr;by_cases hlt:k<32
  ·have hlt':(k:Int)<32:=by omega
   obtain ⟨u0,u1,u2,u3,u4,u5,u6,u7,u8,u9,u10⟩:=((uh hL').on (uh hgr')).own.ents.row hlt;obtain ⟨s0,s1,s2,s3,s4,s5,s6,s7,s8,s9,s10⟩:=((uh hL2').on (uh hgr')).own.ents.row hlt;have hdr:Hid (∀m,W.grownBy (wr.drewN m) none):=fun m=>gdw (uh hgr') m;have HL:=hide hlt;clear hlt;go_wp2_with fail;go_quiet (fail);go_wp2;go_roundw;case rel=>exact ⟨k+1,by have:=uh HL;omega,by go_num,uh hdr _⟩
   case measure=>simp [intOf];omega
  ·have hge:¬(k:Int)<32:=by omega
   clear hlt;go_wp2_with fail
   go_loopw [6] (fun vi wr=>∃k:Nat,k≤40∧vi=.int .i64 (k:Int)∧W.grownBy wr none) (fun vi _=>200 - (intOf vi).toNat)
   case atStart=>exact ⟨0,by omega,rfl,uh hgr'⟩
   case round =>
    clear k1 k2 k3 k4 hge hgr';obtain ⟨k,hk,rfl,hgr⟩:=hrel;have hgr':=hide hgr;obtain ⟨k1,k2,k3,k4⟩:=uh keep wr hgr;clear hgr;by_cases hlt:k<40
    ·have hlt':(k:Int)<40:=by omega
     obtain ⟨u0,u1,u2,u3⟩:=((uh hL').on (uh hgr')).its.row hlt;obtain ⟨s0,s1,s2,s3⟩:=((uh hL2').on (uh hgr')).its.row hlt;have hdr:Hid (∀m,W.grownBy (wr.drewN m) none):=fun m=>gdw (uh hgr') m;have HL:=hide hlt;clear hlt;go_wp2_with fail;go_quiet (fail);go_wp2;go_roundw;case rel=>exact ⟨k+1,by have:=uh HL;omega,by go_num,uh hdr _⟩
     case measure=>simp [intOf];omega
    ·have hge:¬(k:Int)<40:=by omega
     have hfin:=hide (gtr (uh hg') (uh hgr'));go_wp2;go_ret;exact ⟨rfl,uh hfin⟩

end Go.Proofs.YtldgbkjceildfaaGreat
