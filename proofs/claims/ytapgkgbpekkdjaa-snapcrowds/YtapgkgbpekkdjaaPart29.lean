import Derived.Laws.Bits64b
import Derived.BigRegion
import Derived.Test.YtapgkgbpekkdjaaPart28
namespace Go.Proofs.Ytapgkgbpekkdjaa

def Sn.goldB (g:Nat→Int) (t:Nat):Bool:=decide (0≤g t∧g t≤999)
def Sn.numB (s:Nat→Int):Bool:=decide (0≤s 1∧s 1<1073741824∧1≤s 2∧s 2≤3∧0≤s 3∧s 3≤2)
def Sn.goldsB (g:Nat→Int):Nat→Bool
 | 0=>true
 | n+1=>Sn.goldsB g n && Sn.goldB g n
def Sn.headB (s g:Nat→Int):Bool:=Sn.goldsB g 4 && Sn.numB s

theorem Sn.goldsB_of {g:Nat→Int}:∀{n:Nat},(∀t,t<n→Sn.goldB g t=true)→Sn.goldsB g n=true
 | 0,_=>rfl
 | n+1,h=>by
  show (Sn.goldsB g n && Sn.goldB g n)=true
  rw [Sn.goldsB_of (fun t ht=>h t (by omega)),h n (by omega)]
  rfl

theorem Sn.goldsB_no {g:Nat→Int} {t:Nat} (ht:Sn.goldB g t=false):∀{n:Nat},t<n→Sn.goldsB g n=false
 | 0,h=>absurd h (by omega)
 | n+1,h=>by
  show (Sn.goldsB g n && Sn.goldB g n)=false
  by_cases e:t=n
  ·rw [←e,ht,Bool.and_false]
  ·rw [Sn.goldsB_no ht (by omega),Bool.false_and]

def Sn.cnt (c:Nat→Int) (kind:Int):Nat→Int
 | 0=>0
 | n+1=>Sn.cnt c kind n+if c n=kind then 1 else 0

theorem Sn.cnt_bound (c:Nat→Int) (kind:Int):∀n,0≤Sn.cnt c kind n∧Sn.cnt c kind n≤(n:Int)
 | 0=>⟨Int.le_refl _,Int.le_refl _⟩
 | n+1=>by
  have:=Sn.cnt_bound c kind n
  unfold Sn.cnt
  split <;> omega

theorem Sn.cnt_none {c:Nat→Int} {kind:Int}:∀{n:Nat},(∀i,i<n→c i≠kind)→Sn.cnt c kind n=0
 | 0,_=>rfl
 | n+1,h=>by
  unfold Sn.cnt
  rw [Sn.cnt_none (fun i hi=>h i (by omega)),if_neg (h n (by omega))]
  rfl

theorem Sn.cnt_one {c:Nat→Int} {kind:Int} {u:Nat} (hu:c u=kind):∀{n:Nat},u<n→(∀i,i<n→c i=kind→i=u)→Sn.cnt c kind n=1
 | 0,h,_=>absurd h (by omega)
 | n+1,h,h1=>by
  unfold Sn.cnt
  by_cases e:u=n
  ·subst e
   rw [Sn.cnt_none (fun i hi e'=>by have:=h1 i (by omega) e';omega),if_pos hu]
   rfl
  ·rw [Sn.cnt_one hu (by omega) (fun i hi=>h1 i (by omega)),if_neg (fun e'=>e (h1 n (by omega) e').symm)]
   rfl

def Sn.mx (c:Nat→Int):Nat→Int
 | 0=>c 0
 | n+1=>max (Sn.mx c n) (c (n+1))

theorem Sn.mx_le {c:Nat→Int} {m:Int}:∀{n:Nat},Sn.mx c n≤m↔∀i,i≤n→c i≤m
  | 0 => ⟨fun h i hi => by obtain rfl : i = 0 := by omega
                           exact h, fun h => h 0 (by omega)⟩
  | n+1=>by
    unfold Sn.mx
    rw [Int.max_le,Sn.mx_le]
    constructor
    · rintro ⟨h1,h2⟩ i hi
      by_cases e:i=n+1
      · rw [e];exact h2
      · exact h1 i (by omega)
    · intro h
      exact ⟨fun i hi=>h i (by omega),h (n+1) (by omega)⟩

def Sn.freeB (e:Nat→Int):Bool:=decide (e 2=0∧e 3=0∧e 4=0∧e 5=0∧e 6=0∧e 7=0∧e 8=0∧e 9=0∧e 10=0)
def Sn.soundB (e:Nat→Int):Bool:=decide (e 6=En.stats (e 0) 6∧e 7=En.stats (e 0) 7∧e 8=En.stats (e 0) 8∧1≤e 5∧e 5≤e 6∧0≤e 9∧e 9≤9∧0≤e 10∧e 10≤9)
def Sn.aloneB (c:Nat→Int) (E:Nat→Nat→Int) (k:Nat):Bool:=Gr.walkB (Gr.at 384 c (E k 3) (E k 4)) && decide (En.first (En.atQ E (E k 3) (E k 4)) k=-1)
def Sn.seatedB (E:Nat→Nat→Int) (k:Nat):Bool:=if E k 0=1 then decide (0≤E k 2∧E k 2≤3∧En.first (En.heroQ E (E k 2)) k=-1) else decide (E k 2=0)

def Sn.entC (c:Nat→Int) (E:Nat→Nat→Int) (k:Nat):Int :=
 if 0≤E k 0∧E k 0≤4 then
  if 0≤E k 1∧E k 1≤255 then
   if E k 0=0 then (if Sn.freeB (E k)=true then 0 else 9)
   else if Sn.soundB (E k)=true∧Sn.aloneB c E k=true∧Sn.seatedB E k=true then 0 else 9
  else 9
 else 3

def Sn.rowC (c:Nat→Int) (E:Nat→Nat→Int):Nat→Int
 | 0=>0
 | n+1=>if Sn.rowC c E n=0 then Sn.entC c E n else Sn.rowC c E n

theorem Sn.rowC_stays {c:Nat→Int} {E:Nat→Nat→Int} {n:Nat} {v:Int} (h:Sn.rowC c E n=v) (hv:v≠0):∀m,n≤m→Sn.rowC c E m=v:=by
  intro m hm
  induction m with
  | zero => obtain rfl : n = 0 := by omega
            exact h
  | succ m ih =>
    by_cases e:n=m+1
    · rw [←e];exact h
    · have:=ih (by omega)
      unfold Sn.rowC
      rw [this,if_neg hv]

theorem Sn.rowC_zero {c:Nat→Int} {E:Nat→Nat→Int}:∀{n:Nat},(∀k,k<n→Sn.entC c E k=0)→Sn.rowC c E n=0
 | 0,_=>rfl
 | n+1,h=>by
  unfold Sn.rowC
  rw [Sn.rowC_zero (fun k hk=>h k (by omega)),if_pos rfl]
  exact h n (by omega)

def Sn.Chk (s g c:Nat→Int) (E I:Nat→Nat→Int) (v:Int):Prop :=
 if Sn.headB s g=true then
  if Sn.mx c 383≤5 then
   if Sn.cnt c 3 384=1∧Sn.cnt c 4 384=1 then
    if Sn.rowC c E 32=0 then (v=0∧Gd.Ok c 40 I)∨(v=9∧¬Gd.Ok c 40 I)
    else v=Sn.rowC c E 32
   else v=2
  else v=3
 else v=1

theorem Sn.Chk.one {s g c:Nat→Int} {E I:Nat→Nat→Int} {v u:Int} (h:Sn.Chk s g c E I v) (h':Sn.Chk s g c E I u):u=v:=by
 unfold Sn.Chk at h h'
 split at h
 ·rename_i h1
  rw [if_pos h1] at h'
  split at h
  ·rename_i h2
   rw [if_pos h2] at h'
   split at h
   ·rename_i h3
    rw [if_pos h3] at h'
    split at h
    ·rename_i h4
     rw [if_pos h4] at h'
     rcases h with ⟨rfl,a⟩ | ⟨rfl,a⟩ <;> rcases h' with ⟨rfl,b⟩ | ⟨rfl,b⟩
     ·rfl
     ·exact absurd a b
     ·exact absurd b a
     ·rfl
    ·rename_i h4
     rw [if_neg h4] at h'
     rw [h,h']
   ·rename_i h3
    rw [if_neg h3] at h'
    rw [h,h']
  ·rename_i h2
   rw [if_neg h2] at h'
   rw [h,h']
 ·rename_i h1
  rw [if_neg h1] at h'
  rw [h,h']


open Go.RowKit

theorem Sn.born (x:World) (e:Nat→Int) (T:TypeId):Lie (x.alloc (.cells (En.cells e) T)) x.heap.size T 11 (Ints e) :=
 Lie.congr (m:=11) (Arr.lit (heap_alloc_new x (.cells (En.cells e) T))).lie fun j hj=>by
  rcases (show j=0∨j=1∨j=2∨j=3∨j=4∨j=5∨j=6∨j=7∨j=8∨j=9∨j=10 by omega) with rfl | rfl | rfl | rfl | rfl | rfl | rfl | rfl | rfl | rfl | rfl <;> rfl

theorem Sn.row {x:World} {D:Nat} {T:TypeId} {e:Nat→Int} (h:Lie x D T 11 (Ints e)) :
  x.cell? ⟨D,0,none⟩=some (.int .i64 (e 0))∧x.cell? ⟨D,1,none⟩=some (.int .i64 (e 1))∧x.cell? ⟨D,2,none⟩=some (.int .i64 (e 2))∧x.cell? ⟨D,3,none⟩=some (.int .i64 (e 3))∧x.cell? ⟨D,4,none⟩=some (.int .i64 (e 4))∧x.cell? ⟨D,5,none⟩=some (.int .i64 (e 5))∧x.cell? ⟨D,6,none⟩=some (.int .i64 (e 6))∧x.cell? ⟨D,7,none⟩=some (.int .i64 (e 7))∧x.cell? ⟨D,8,none⟩=some (.int .i64 (e 8))∧x.cell? ⟨D,9,none⟩=some (.int .i64 (e 9))∧x.cell? ⟨D,10,none⟩=some (.int .i64 (e 10)) :=
 ⟨h.cell (c:=0) (by omega),h.cell (c:=1) (by omega),h.cell (c:=2) (by omega),h.cell (c:=3) (by omega),h.cell (c:=4) (by omega),h.cell (c:=5) (by omega),h.cell (c:=6) (by omega),h.cell (c:=7) (by omega),h.cell (c:=8) (by omega),h.cell (c:=9) (by omega),h.cell (c:=10) (by omega)⟩

def Sn.inB (n a b:Int):Bool:=decide (a≤n∧n≤b)

set_option maxHeartbeats 400000 in
theorem snWithin_any (n a b:Int) (w:World):Calls Try.prog 48 #[.int .i64 n,.int .i64 a,.int .i64 b] w fun e w'=>e=.returned (.bool (Sn.inB n a b))∧w'=w:=by
 by_cases h1:a≤n
 ·have h1':n≥a:=h1
  by_cases h2:n≤b
  ·have hd:Hid (Sn.inB n a b=true):=by show Sn.inB n a b=true;unfold Sn.inB;rw [decide_eq_true_eq];exact ⟨h1,h2⟩
   clear h1
   go_enter Try.func48,Try.ntmps48
   go_wp2
   go_ret
   exact ⟨ret_bool (uh hd).symm,rfl⟩
  ·have hd:Hid (Sn.inB n a b=false):=by show Sn.inB n a b=false;unfold Sn.inB;rw [decide_eq_false_iff_not];exact fun h=>h2 h.2
   clear h1
   go_enter Try.func48,Try.ntmps48
   go_wp2
   go_ret
   exact ⟨ret_bool (uh hd).symm,rfl⟩
 ·have h1':¬n≥a:=h1
  have hd:Hid (Sn.inB n a b=false):=by show Sn.inB n a b=false;unfold Sn.inB;rw [decide_eq_false_iff_not];exact fun h=>h1 h.1
  clear h1
  go_enter Try.func48,Try.ntmps48
  go_wp2
  go_ret
  exact ⟨ret_bool (uh hd).symm,rfl⟩

set_option maxRecDepth 8000 in
set_option maxHeartbeats 800000 in
theorem snCount_any (G cap:Nat) (c:Nat→Int) (kind:Int) (w:World) (hC:Lie w G 5 384 (Byts c)) :
  Calls Try.prog 29 #[.slice (some ⟨G,0,none⟩) 384 cap,.int .u8 kind] w fun e w'=>e=.returned (.int .i64 (Sn.cnt c kind 384))∧w'=w:=by
 have hC':=hide hC
 clear hC
 go_enter Try.func29,Try.ntmps29
 go_wp2_with fail
 go_loop [5,10] (fun v5 v10=>∃i:Nat,i≤384∧v5=.int .i64 (Sn.cnt c kind i)∧v10=.int .i64 (i:Int)) (fun _ v10=>400 - (intOf v10).toNat)
 case atStart=>exact ⟨0,by omega,rfl,rfl⟩
 case round =>
  obtain ⟨i,hi,rfl,rfl⟩:=hrel
  by_cases hlt:i<384
  ·have hlt':(i:Int)<384:=by omega
   have HL:=hide hlt
   have u0:w.cell? ⟨G,i,none⟩=some (.int .u8 (c i)):=(uh hC').cell hlt
   have hb:=Sn.cnt_bound c kind i
   obtain ⟨X,hX⟩:∃X,Sn.cnt c kind i=X:=⟨_,rfl⟩
   have hn:Hid (Sn.cnt c kind (i+1)=X+if c i=kind then 1 else 0):=by
    show Sn.cnt c kind (i+1)=_
    rw [←hX]
    rfl
   rw [hX] at hb ⊢
   clear hlt hi hX
   by_cases k3:c i=kind
   ·have k3':(c i == kind)=true:=by simp [k3]
    rw [if_pos k3] at hn
    clear k3
    go_wp2
    go_round
    case rel=>exact ⟨i+1,by have:=uh HL;omega,by rw [uh hn],by go_num⟩
    case measure=>simp [intOf];have:=uh HL;omega
   ·have k3':(c i == kind)=false:=by simp [k3]
    rw [if_neg k3] at hn
    clear k3
    go_wp2
    go_round
    case rel=>exact ⟨i+1,by have:=uh HL;omega,by rw [uh hn];simp,by go_num⟩
    case measure=>simp [intOf];have:=uh HL;omega
  ·obtain rfl:i=384:=by omega
   have hge:¬((384:Nat):Int)<384:=by omega
   clear hlt hi
   obtain ⟨X,hX⟩:∃X,Sn.cnt c kind 384=X:=⟨_,rfl⟩
   rw [hX]
   have hX':=hide hX
   clear hX
   go_wp2
   go_ret
   exact ⟨rti (uh hX').symm,rfl⟩

set_option maxRecDepth 8000 in
set_option maxHeartbeats 800000 in
theorem snMax_any (G cap:Nat) (c:Nat→Int) (w:World) (hC:Lie w G 5 384 (Byts c)) :
  Calls Try.prog 28 #[.slice (some ⟨G,0,none⟩) 384 cap] w fun e w'=>e=.returned (.int .u8 (Sn.mx c 383))∧w'=w:=by
 have hC':=hide hC
 have u0:w.cell? ⟨G,0,none⟩=some (.int .u8 (c 0)):=hC.cell (by omega)
 clear hC
 go_enter Try.func28,Try.ntmps28
 go_wp2_with fail
 go_loop [3,4] (fun v3 v4=>∃i:Nat,1≤i∧i≤384∧v3=.int .u8 (Sn.mx c (i - 1))∧v4=.int .i64 (i:Int)) (fun _ v4=>400 - (intOf v4).toNat)
 case atStart=>exact ⟨1,by omega,by omega,rfl,rfl⟩
 case round =>
  obtain ⟨i,h1,hi,rfl,rfl⟩:=hrel
  by_cases hlt:i<384
  ·have hlt':(i:Int)<384:=by omega
   have HL:=hide hlt
   have u0:w.cell? ⟨G,i,none⟩=some (.int .u8 (c i)):=(uh hC').cell hlt
   obtain ⟨X,hX⟩:∃X,Sn.mx c (i - 1)=X:=⟨_,rfl⟩
   have hn:Hid (Sn.mx c (i+1 - 1)=max X (c i)):=by
    show Sn.mx c (i+1 - 1)=_
    rw [←hX,show i+1 - 1=(i - 1)+1 by omega]
    show max _ (c (i - 1+1))=_
    rw [show i - 1+1=i by omega]
   rw [hX]
   clear hlt hi hX
   have hm:(if X<c i then c i else X)=max X (c i):=by split <;> omega
   rw [←hm] at hn
   clear hm
   go_wp2
   go_round
   case rel=>exact ⟨i+1,by omega,by have:=uh HL;omega,by rw [uh hn],by go_num⟩
   case measure=>simp [intOf];have:=uh HL;omega
  ·have hge:¬(i:Int)<384:=by omega
   have hie:i=384:=by omega
   obtain ⟨X,hX⟩:∃X,Sn.mx c (i - 1)=X:=⟨_,rfl⟩
   have hX':Hid (Sn.mx c 383=X):=by
    rw [←hX,hie]
    exact rfl
   clear hlt hi h1 hie
   rw [hX]
   clear hX
   go_wp2
   go_ret
   exact ⟨rti (uh hX').symm,rfl⟩

theorem run_index_gold (g:Nat→Int) (t:Nat) (ht:t<4) (w:World):(Instr.index 27 (.agg #[.int .i64 (g 0),.int .i64 (g 1),.int .i64 (g 2),.int .i64 (g 3)]) (.int .i64 (t:Int))).run Try.prog w=.ok (.int .i64 (g t)) w:=by
 rcases (show t=0∨t=1∨t=2∨t=3 by omega) with rfl | rfl | rfl | rfl <;> kernel_rfl

set_option maxRecDepth 8000 in
set_option maxHeartbeats 1600000 in
theorem headFits_any (s g:Nat→Int) (nC nE nI cC cE cI:Nat) (aC aE aI:Option Addr) (w:World) :
  Calls Try.prog 27 #[.agg #[.int .i64 (s 0),.int .i64 (s 1),.int .i64 (s 2),.int .i64 (s 3),.slice aC nC cC,.slice aE nE cE,.slice aI nI cI,.int .i64 (g 0),.int .i64 (g 1),.int .i64 (g 2),.int .i64 (g 3)]] w (Says w (.bool (Sn.headB s g))):=by
 obtain ⟨w0,hw0⟩:∃w0,w0=w.alloc (.cells #[.int .i64 (s 0),.int .i64 (s 1),.int .i64 (s 2),.int .i64 (s 3),.slice aC nC cC,.slice aE nE cE,.slice aI nI cI,.int .i64 (g 0),.int .i64 (g 1),.int .i64 (g 2),.int .i64 (g 3)] 29):=⟨_,rfl⟩
 have hg0:w.grownBy w0 none:=by rw [hw0];exact World.grownBy_alloc _ _ _
 have hB:=(Arr.lit (heap_alloc_new w (.cells #[.int .i64 (s 0),.int .i64 (s 1),.int .i64 (s 2),.int .i64 (s 3),.slice aC nC cC,.slice aE nE cE,.slice aI nI cI,.int .i64 (g 0),.int .i64 (g 1),.int .i64 (g 2),.int .i64 (g 3)] 29))).lie
 rw [←hw0] at hB
 have hgr:=hide hg0
 clear hg0
 go_enter Try.func27,Try.ntmps27
 go_upto_region 1 with fail
 rw [←hw0]
 clear hw0
 obtain ⟨B,hBe⟩:∃B,w.heap.size=B:=⟨_,rfl⟩
 rw [hBe] at hB ⊢
 clear hBe
 have b1:w0.cell? ⟨B,1,none⟩=some (.int .i64 (s 1)):=hB.cell (c:=1) (by simp)
 have b2:w0.cell? ⟨B,2,none⟩=some (.int .i64 (s 2)):=hB.cell (c:=2) (by simp)
 have b3:w0.cell? ⟨B,3,none⟩=some (.int .i64 (s 3)):=hB.cell (c:=3) (by simp)
 have b7:w0.cell? ⟨B,7,none⟩=some (.int .i64 (g 0)):=hB.cell (c:=7) (by simp)
 have b8:w0.cell? ⟨B,8,none⟩=some (.int .i64 (g 1)):=hB.cell (c:=8) (by simp)
 have b9:w0.cell? ⟨B,9,none⟩=some (.int .i64 (g 2)):=hB.cell (c:=9) (by simp)
 have b10:w0.cell? ⟨B,10,none⟩=some (.int .i64 (g 3)):=hB.cell (c:=10) (by simp)
 clear hB
 go_wp2_with fail
 go_loop [7] (fun v7=>∃t:Nat,t≤4∧v7=.int .i64 (t:Int)∧Hid (∀j,j<t→Sn.goldB g j=true)) (fun v7=>10 - (intOf v7).toNat)
 case atStart=>exact ⟨0,by omega,rfl,fun j hj=>absurd hj (by omega)⟩
 case round =>
  obtain ⟨t,ht,rfl,hall⟩:=hrel
  by_cases hlt:t<4
  ·have hlt':(t:Int)<4:=by omega
   have HL:=hide hlt
   have hix:=fun x=>run_index_gold g t hlt x
   have cw:=hide (fun x=>snWithin_any (g t) 0 999 x)
   have hq:Hid (Sn.goldB g t=Sn.inB (g t) 0 999):=rfl
   obtain ⟨q,hqe⟩:∃q,Sn.inB (g t) 0 999=q:=⟨_,rfl⟩
   rw [hqe] at cw hq
   clear hlt ht hqe
   go_wp2_with fail
   refine (uh cw _).mono ?_
   rintro e w1 ⟨rfl,rfl⟩
   cases q with
   | true =>
    go_wp2
    go_round
    case rel=>exact ⟨t+1,by have:=uh HL;omega,by go_num,fun j hj=>by
     by_cases e:j=t
     ·rw [e];exact uh hq
     ·exact uh hall j (by omega)⟩
    case measure=>simp [intOf];have:=uh HL;omega
   | false =>
    have hno:Hid (Sn.headB s g=false):=by
     show Sn.headB s g=false
     unfold Sn.headB
     rw [Sn.goldsB_no (uh hq) (uh HL),Bool.false_and]
    go_wp2
    go_ret
    exact ⟨ret_bool (uh hno).symm,uh hgr⟩
  ·obtain rfl:t=4:=by omega
   have hge:¬((4:Nat):Int)<4:=by omega
   have c1:=hide (fun x=>snWithin_any (s 1) 0 1073741823 x)
   have c2:=hide (fun x=>snWithin_any (s 2) 1 3 x)
   have c3:=hide (fun x=>snWithin_any (s 3) 0 2 x)
   have hd:Hid (Sn.headB s g=(Sn.inB (s 1) 0 1073741823 && (Sn.inB (s 2) 1 3 && Sn.inB (s 3) 0 2))):=by
    show Sn.headB s g=_
    unfold Sn.headB Sn.numB Sn.inB
    rw [Sn.goldsB_of (uh hall),Bool.true_and,←Bool.decide_and,←Bool.decide_and,decide_eq_decide]
    omega
   obtain ⟨q1,e1⟩:∃q,Sn.inB (s 1) 0 1073741823=q:=⟨_,rfl⟩
   obtain ⟨q2,e2⟩:∃q,Sn.inB (s 2) 1 3=q:=⟨_,rfl⟩
   obtain ⟨q3,e3⟩:∃q,Sn.inB (s 3) 0 2=q:=⟨_,rfl⟩
   rw [e1] at c1 hd
   rw [e2] at c2 hd
   rw [e3] at c3 hd
   clear hlt ht hall e1 e2 e3
   go_wp2_with fail
   refine (uh c1 _).mono ?_
   rintro e w1 ⟨rfl,rfl⟩
   cases q1 with
   | false =>
    go_wp2
    go_ret
    exact ⟨ret_bool (uh hd).symm,uh hgr⟩
   | true =>
    go_wp2_with fail
    refine (uh c2 _).mono ?_
    rintro e w1 ⟨rfl,rfl⟩
    cases q2 with
    | false =>
     go_wp2
     go_ret
     exact ⟨ret_bool (uh hd).symm,uh hgr⟩
    | true =>
     go_wp2_with fail
     refine (uh c3 _).mono ?_
     rintro e w1 ⟨rfl,rfl⟩
     go_wp2
     go_ret
     exact ⟨ret_bool (by rw [uh hd];rfl),uh hgr⟩


open Go.RowKit

set_option maxRecDepth 8000 in
set_option maxHeartbeats 3200000 in
theorem isSound_any (e:Nat→Int) (w:World):Calls Try.prog 49 #[.agg (En.cells e)] w (Says w (.bool (Sn.soundB e))):=by
 obtain ⟨w0,hw0⟩:∃w0,w0=w.alloc (.cells (En.cells e) 45):=⟨_,rfl⟩
 have hg0:Hid (w.grownBy w0 none):=by show w.grownBy w0 none;rw [hw0];exact World.grownBy_alloc _ _ _
 have hD:Hid (Lie w0 w.heap.size 45 11 (Ints e)):=by show Lie w0 _ _ _ _;rw [hw0];exact Sn.born w e 45
 obtain ⟨st,hst⟩:∃st,En.stats (e 0)=st:=⟨_,rfl⟩
 have cst:=hide (fun x=>entStats_any (e 0) x)
 rw [hst] at cst
 have hd:Hid (Sn.soundB e=((e 6 == st 6) && ((e 7 == st 7) && ((e 8 == st 8) && (Sn.inB (e 5) 1 (e 6) && (Sn.inB (e 9) 0 9 && Sn.inB (e 10) 0 9)))))):=by
  show Sn.soundB e=_
  unfold Sn.soundB Sn.inB
  rw [hst,Bool.eq_iff_iff]
  simp only [decide_eq_true_eq,Bool.and_eq_true,beq_iff_eq]
  omega
 obtain ⟨k1,h1⟩:∃k,(e 6 == st 6)=k:=⟨_,rfl⟩
 obtain ⟨k2,h2⟩:∃k,(e 7 == st 7)=k:=⟨_,rfl⟩
 obtain ⟨k3,h3⟩:∃k,(e 8 == st 8)=k:=⟨_,rfl⟩
 have c4:=hide (fun x=>snWithin_any (e 5) 1 (e 6) x)
 have c5:=hide (fun x=>snWithin_any (e 9) 0 9 x)
 have c6:=hide (fun x=>snWithin_any (e 10) 0 9 x)
 obtain ⟨k4,h4⟩:∃k,Sn.inB (e 5) 1 (e 6)=k:=⟨_,rfl⟩
 obtain ⟨k5,h5⟩:∃k,Sn.inB (e 9) 0 9=k:=⟨_,rfl⟩
 obtain ⟨k6,h6⟩:∃k,Sn.inB (e 10) 0 9=k:=⟨_,rfl⟩
 rw [h1,h2,h3,h4,h5,h6] at hd
 rw [h4] at c4
 rw [h5] at c5
 rw [h6] at c6
 clear hst h4 h5 h6
 unfold En.cells at hw0 cst ⊢
 go_enter Try.func49,Try.ntmps49
 go_upto_region 1 with fail
 rw [←hw0]
 clear hw0
 obtain ⟨B,hBe⟩:∃B,w.heap.size=B:=⟨_,rfl⟩
 rw [hBe] at hD ⊢
 clear hBe
 have d0:=(Sn.row (uh hD)).1
 go_wp2_with fail
 refine (uh cst _).mono ?_
 rintro _ w2 ⟨rfl,hg2⟩
 have hF:=hide (Sn.born w2 st 45)
 have hgB:=hide (gtr hg2 (World.grownBy_alloc w2 (.cells (En.cells st) 45) none))
 have hD2:=hide ((uh hD).on (uh hgB))
 have hg3:=hide (gtr (uh hg0) (uh hgB))
 clear hg2 hgB cst d0 hD hg0
 unfold En.cells at hF hD2 hg3
 go_upto_region 2 with fail
 obtain ⟨F,hFe⟩:∃F,w2.heap.size=F:=⟨_,rfl⟩
 rw [hFe] at hF ⊢
 generalize w2.alloc (.cells #[.int .i64 (st 0),.int .i64 (st 1),.int .i64 (st 2),.int .i64 (st 3),.int .i64 (st 4),.int .i64 (st 5),.int .i64 (st 6),.int .i64 (st 7),.int .i64 (st 8),.int .i64 (st 9),.int .i64 (st 10)] 45)=w3 at hF hD2 hg3 ⊢
 clear hFe w2
 obtain ⟨-,-,-,-,-,d5,d6,d7,d8,d9,d10⟩:=Sn.row (uh hD2)
 obtain ⟨-,-,-,-,-,-,z6,z7,z8,-,-⟩:=Sn.row (uh hF)
 clear hF hD2
 cases k1 with
 | false=>go_wp2;go_ret;exact ⟨ret_bool (uh hd).symm,uh hg3⟩
 | true =>
 cases k2 with
 | false=>go_wp2;go_ret;exact ⟨ret_bool (uh hd).symm,uh hg3⟩
 | true =>
 cases k3 with
 | false=>go_wp2;go_ret;exact ⟨ret_bool (uh hd).symm,uh hg3⟩
 | true =>
 go_wp2_with fail
 refine (uh c4 _).mono ?_
 rintro _ w4 ⟨rfl,rfl⟩
 cases k4 with
 | false=>go_wp2;go_ret;exact ⟨ret_bool (uh hd).symm,uh hg3⟩
 | true =>
 go_wp2_with fail
 refine (uh c5 _).mono ?_
 rintro _ w4 ⟨rfl,rfl⟩
 cases k5 with
 | false=>go_wp2;go_ret;exact ⟨ret_bool (uh hd).symm,uh hg3⟩
 | true =>
 go_wp2_with fail
 refine (uh c6 _).mono ?_
 rintro _ w4 ⟨rfl,rfl⟩
 go_wp2
 go_ret
 exact ⟨ret_bool (by rw [uh hd];rfl),uh hg3⟩

theorem Sn.first_row {q:Nat→Bool} {k n:Nat} (hk:k<n) (hq:q k=true):(En.first q n=(k:Int)↔En.first q k=-1):=by
 constructor
 ·intro h
  refine En.first_none fun j hj=>?_
  rcases En.first_cases q n with ⟨h1,_⟩ | ⟨m,_,h1,_,hno⟩
  ·omega
  ·have:m=k:=by omega
   subst this
   exact hno j hj
 ·intro h
  refine En.first_hit (fun j hj=>?_) hq hk
  rcases En.first_cases q k with ⟨_,hno⟩ | ⟨m,_,h1,_,_⟩
  ·exact hno j hj
  ·omega

set_option maxRecDepth 8000 in
set_option maxHeartbeats 3200000 in
theorem standsAlone_any (s g c:Nat→Int) (E I:Nat→Nat→Int) (gC gE gI cC cE cI k:Nat) (w:World) (hL:Gd.Lists w gC gE gI c E I) (hc:∀i,0≤c i∧c i≤255) (hcE:32≤cE) (hk:k<32) (h0:E k 0≠0) :
  Calls Try.prog 50 #[.agg (Gd.world s gC gE gI cC cE cI g),.int .i64 (k:Int)] w (Says w (.bool (Sn.aloneB c E k))):=by
 obtain ⟨w0,hw0⟩:∃w0,w0=w.alloc (.cells (Gd.world s gC gE gI cC cE cI g) 29):=⟨_,rfl⟩
 have hg0:w.grownBy w0 none:=by rw [hw0];exact World.grownBy_alloc _ _ _
 have hB:Hid (Lie w0 w.heap.size 29 11 (Gd.box s gC gE gI cC cE cI g)):=by show Lie w0 _ _ _ _;rw [hw0];exact (Arr.world (heap_alloc_new w _)).lie
 have hL0:=hide (hL.on hg0)
 have hgr:=hide hg0
 have HK:=hide hk
 have hk':(k:Int)<32:=by omega
 have ca:=hide (fun z (hz:Gd.Lists z gC gE gI c E I)=>at_any z.heap.size (some ⟨gC,0,none⟩) 384 cC c (E k 3) (E k 4) z hz.vec hc)
 have ck:=hide (fun x=>walk_any (Gr.at 384 c (E k 3) (E k 4)) x)
 have ce:=hide (fun z (hz:Gd.Lists z gC gE gI c E I)=>entAt_any gE 32 cE E (E k 3) (E k 4) z hz.own.ents hcE)
 have hd:Hid (Sn.aloneB c E k=(Gr.walkB (Gr.at 384 c (E k 3) (E k 4)) && (En.first (En.atQ E (E k 3) (E k 4)) 32 == (k:Int)))):=by
  show Sn.aloneB c E k=_
  unfold Sn.aloneB
  have hq:En.atQ E (E k 3) (E k 4) k=true:=by simp [En.atQ,h0]
  rw [Bool.eq_iff_iff]
  simp only [Bool.and_eq_true,decide_eq_true_eq,beq_iff_eq]
  rw [Sn.first_row hk hq]
 obtain ⟨a,ha⟩:∃a,Gr.at 384 c (E k 3) (E k 4)=a:=⟨_,rfl⟩
 rw [ha] at ca ck hd
 obtain ⟨q,hq⟩:∃q,Gr.walkB a=q:=⟨_,rfl⟩
 rw [hq] at ck hd
 obtain ⟨f,hf⟩:∃f,En.first (En.atQ E (E k 3) (E k 4)) 32=f:=⟨_,rfl⟩
 rw [hf] at ce hd
 obtain ⟨p,hp⟩:∃p,(f == (k:Int))=p:=⟨_,rfl⟩
 rw [hp] at hd
 clear hL hc hcE hk h0 hg0 ha hq hf
 unfold Gd.world at hw0 ⊢
 go_enter Try.func50,Try.ntmps50
 go_upto_region 1 with fail
 rw [←hw0]
 clear hw0
 obtain ⟨B,hBe⟩:∃B,w.heap.size=B:=⟨_,rfl⟩
 rw [hBe] at hB ⊢
 clear hBe
 have b5:=(uh hB).eleven.2.2.2.2.2.1
 obtain ⟨r0,r1,r2,r3,r4,r5,r6,r7,r8,r9,r10⟩:=(uh hL0).own.ents.row (uh HK)
 obtain ⟨w1,hw1⟩:∃w1,w1=w0.alloc (.cells (En.cells (E k)) 45):=⟨_,rfl⟩
 have hgA:w0.grownBy w1 none:=by rw [hw1];exact World.grownBy_alloc _ _ _
 have hD:Hid (Lie w1 w0.heap.size 45 11 (Ints (E k))):=by show Lie w1 _ _ _ _;rw [hw1];exact Sn.born w0 (E k) 45
 have hL1:=hide ((uh hL0).on hgA)
 have hB1:=hide ((uh hB).on hgA)
 have hg1:=hide (gtr (uh hgr) hgA)
 clear hgA hB hL0 hgr
 unfold En.cells at hw1
 go_upto_region 2 with fail
 rw [←hw1]
 clear hw1 b5 r0 r1 r2 r3 r4 r5 r6 r7 r8 r9 r10
 obtain ⟨D,hDe⟩:∃D,w0.heap.size=D:=⟨_,rfl⟩
 rw [hDe] at hD ⊢
 clear hDe w0
 have b4:=(uh hB1).eleven.2.2.2.2.1
 have b5:=(uh hB1).eleven.2.2.2.2.2.1
 obtain ⟨-,-,-,d3,d4,-,-,-,-,-,-⟩:=Sn.row (uh hD)
 go_wp2_with fail
 refine (uh ca _ (uh hL1)).mono ?_
 rintro _ w2 ⟨rfl,rfl⟩
 go_wp2_with fail
 refine (uh ck _).mono ?_
 rintro _ w2 ⟨rfl,rfl⟩
 cases q with
 | false=>go_wp2;go_ret;exact ⟨ret_bool (uh hd).symm,uh hg1⟩
 | true =>
  go_wp2_with fail
  refine (uh ce _ (uh hL1)).mono ?_
  rintro _ w2 ⟨rfl,hg2⟩
  have hgf:=hide (gtr (uh hg1) hg2)
  clear hg2 b4 b5 d3 d4 hL1 hB1 hD hg1
  go_wp2
  go_ret
  exact ⟨ret_bool (by rw [uh hd];rfl),uh hgf⟩

set_option maxRecDepth 8000 in
set_option maxHeartbeats 3200000 in
theorem isSeated_any (gE cE k:Nat) (E:Nat→Nat→Int) (w:World) (hE:Ents w gE 32 E) (hcE:32≤cE) (hk:k<32) :
  Calls Try.prog 51 #[.slice (some ⟨gE,0,none⟩) 32 cE,.int .i64 (k:Int)] w (Says w (.bool (Sn.seatedB E k))):=by
 have hk':(k:Int)<32:=by omega
 obtain ⟨r0,-,r2,-,-,-,-,-,-,-,-⟩:=hE.row hk
 have cw:=hide (fun x=>snWithin_any (E k 2) 0 3 x)
 have ch:=hide (hero_any gE 32 cE E (E k 2) w hE hcE)
 by_cases h1:E k 0=1
 ·have hd:Hid (Sn.seatedB E k=(Sn.inB (E k 2) 0 3 && (En.first (En.heroQ E (E k 2)) 32 == (k:Int)))):=by
   show Sn.seatedB E k=_
   unfold Sn.seatedB Sn.inB
   have hq:En.heroQ E (E k 2) k=true:=by simp [En.heroQ,h1]
   rw [if_pos h1,Bool.eq_iff_iff]
   simp only [Bool.and_eq_true,decide_eq_true_eq,beq_iff_eq]
   rw [Sn.first_row hk hq,and_assoc]
  obtain ⟨q,hq⟩:∃q,Sn.inB (E k 2) 0 3=q:=⟨_,rfl⟩
  rw [hq] at cw hd
  obtain ⟨f,hf⟩:∃f,En.first (En.heroQ E (E k 2)) 32=f:=⟨_,rfl⟩
  rw [hf] at ch hd
  obtain ⟨p,hp⟩:∃p,(f == (k:Int))=p:=⟨_,rfl⟩
  rw [hp] at hd
  rw [h1] at r0
  clear hE hcE hk h1 hq hf
  go_enter Try.func51,Try.ntmps51
  go_wp2_with fail
  refine (uh cw _).mono ?_
  rintro _ w2 ⟨rfl,rfl⟩
  cases q with
  | false=>go_wp2;go_ret;exact ⟨ret_bool (uh hd).symm,World.grownBy.refl _ _⟩
  | true =>
   go_wp2_with fail
   refine (uh ch).mono ?_
   rintro _ w2 ⟨rfl,hg2⟩
   have hgf:=hide hg2
   clear hg2 r0 r2
   go_wp2
   go_ret
   exact ⟨ret_bool (by rw [uh hd];rfl),uh hgf⟩
 ·have h1':(E k 0 != 1)=true:=by simp [h1]
  have hd:Hid (Sn.seatedB E k=(E k 2 == 0)):=by
   show Sn.seatedB E k=_
   unfold Sn.seatedB
   rw [if_neg h1,Bool.eq_iff_iff]
   simp only [decide_eq_true_eq,beq_iff_eq]
  obtain ⟨p,hp⟩:∃p,(E k 2 == 0)=p:=⟨_,rfl⟩
  rw [hp] at hd
  clear hE hcE hk h1 cw ch
  go_enter Try.func51,Try.ntmps51
  go_wp2
  go_ret
  exact ⟨ret_bool (uh hd).symm,World.grownBy.refl _ _⟩


open Go.RowKit

def Sn.sameE (e f:Nat→Int):Bool:=decide (e 0=f 0) && (decide (e 1=f 1) && (decide (e 2=f 2) && (decide (e 3=f 3) && (decide (e 4=f 4) && (decide (e 5=f 5) && (decide (e 6=f 6) && (decide (e 7=f 7) && (decide (e 8=f 8) && (decide (e 9=f 9) && decide (e 10=f 10))))))))))

theorem Sn.sameE_iff (e f:Nat→Int):Sn.sameE e f=true↔∀j,j<11→e j=f j:=by
 unfold Sn.sameE
 simp only [Bool.and_eq_true,decide_eq_true_eq]
 constructor
 ·rintro ⟨h0,h1,h2,h3,h4,h5,h6,h7,h8,h9,h10⟩ j hj
  rcases (show j=0∨j=1∨j=2∨j=3∨j=4∨j=5∨j=6∨j=7∨j=8∨j=9∨j=10 by omega) with rfl | rfl | rfl | rfl | rfl | rfl | rfl | rfl | rfl | rfl | rfl <;> assumption
 ·intro h
  exact ⟨h 0 (by omega),h 1 (by omega),h 2 (by omega),h 3 (by omega),h 4 (by omega),h 5 (by omega),h 6 (by omega),h 7 (by omega),h 8 (by omega),h 9 (by omega),h 10 (by omega)⟩

set_option maxHeartbeats 1600000 in
theorem run_ne_ent (e f:Nat→Int) (w:World):(binOp .neq 45 (.agg #[.int .i64 (e 0),.int .i64 (e 1),.int .i64 (e 2),.int .i64 (e 3),.int .i64 (e 4),.int .i64 (e 5),.int .i64 (e 6),.int .i64 (e 7),.int .i64 (e 8),.int .i64 (e 9),.int .i64 (e 10)]) (.agg #[.int .i64 (f 0),.int .i64 (f 1),.int .i64 (f 2),.int .i64 (f 3),.int .i64 (f 4),.int .i64 (f 5),.int .i64 (f 6),.int .i64 (f 7),.int .i64 (f 8),.int .i64 (f 9),.int .i64 (f 10)])).run Try.prog w=.ok (.bool (!Sn.sameE e f)) w:=by
 unfold Sn.sameE
 by_cases h0:e 0=f 0
 ·by_cases h1:e 1=f 1
  ·by_cases h2:e 2=f 2
   ·by_cases h3:e 3=f 3
    ·by_cases h4:e 4=f 4
     ·by_cases h5:e 5=f 5
      ·by_cases h6:e 6=f 6
       ·by_cases h7:e 7=f 7
        ·by_cases h8:e 8=f 8
         ·by_cases h9:e 9=f 9
          ·by_cases h10:e 10=f 10
           ·simp [go_sem,h0,h1,h2,h3,h4,h5,h6,h7,h8,h9,h10]
           ·simp [go_sem,h0,h1,h2,h3,h4,h5,h6,h7,h8,h9,h10]
          ·simp [go_sem,h0,h1,h2,h3,h4,h5,h6,h7,h8,h9]
         ·simp [go_sem,h0,h1,h2,h3,h4,h5,h6,h7,h8]
        ·simp [go_sem,h0,h1,h2,h3,h4,h5,h6,h7]
       ·simp [go_sem,h0,h1,h2,h3,h4,h5,h6]
      ·simp [go_sem,h0,h1,h2,h3,h4,h5]
     ·simp [go_sem,h0,h1,h2,h3,h4]
    ·simp [go_sem,h0,h1,h2,h3]
   ·simp [go_sem,h0,h1,h2]
  ·simp [go_sem,h0,h1]
 ·simp [go_sem,h0]


open Go.RowKit

def Sn.bare (v:Int):Nat→Int
 | 1=>v
 | _=>0

def Sn.ansE (q0 q1 z p k1 k2 k3:Bool):Int:=bif q0 then bif q1 then bif z then (bif p then 0 else 9) else bif k1 && (k2 && k3) then 0 else 9 else 9 else 3

theorem Sn.entC_ans (c:Nat→Int) (E:Nat→Nat→Int) (k:Nat):Sn.entC c E k=Sn.ansE (Sn.inB (E k 0) 0 4) (Sn.inB (E k 1) 0 255) (decide (E k 0=0)) (Sn.sameE (E k) (Sn.bare (E k 1))) (Sn.soundB (E k)) (Sn.aloneB c E k) (Sn.seatedB E k):=by
 unfold Sn.entC Sn.ansE Sn.inB
 by_cases a0:0≤E k 0∧E k 0≤4
 ·rw [if_pos a0,decide_eq_true a0,cond_true]
  by_cases a1:0≤E k 1∧E k 1≤255
  ·rw [if_pos a1,decide_eq_true a1,cond_true]
   by_cases h0:E k 0=0
   ·rw [if_pos h0,decide_eq_true h0,cond_true]
    have e:(Sn.freeB (E k)=true↔Sn.sameE (E k) (Sn.bare (E k 1))=true):=by
     rw [Sn.sameE_iff]
     unfold Sn.freeB
     rw [decide_eq_true_eq]
     constructor
     ·rintro ⟨h2,h3,h4,h5,h6,h7,h8,h9,h10⟩ j hj
      rcases (show j=0∨j=1∨j=2∨j=3∨j=4∨j=5∨j=6∨j=7∨j=8∨j=9∨j=10 by omega) with rfl | rfl | rfl | rfl | rfl | rfl | rfl | rfl | rfl | rfl | rfl <;> first | assumption | rfl
     ·intro h
      exact ⟨h 2 (by omega),h 3 (by omega),h 4 (by omega),h 5 (by omega),h 6 (by omega),h 7 (by omega),h 8 (by omega),h 9 (by omega),h 10 (by omega)⟩
    by_cases q:Sn.freeB (E k)=true
    ·rw [if_pos q,e.1 q]
     rfl
    ·have q':Sn.sameE (E k) (Sn.bare (E k 1))=false:=by
      rw [←Bool.not_eq_true]
      exact fun h=>q (e.2 h)
     rw [if_neg q,q']
     rfl
   ·rw [if_neg h0,decide_eq_false h0,cond_false]
    by_cases q:Sn.soundB (E k)=true∧Sn.aloneB c E k=true∧Sn.seatedB E k=true
    ·rw [if_pos q,q.1,q.2.1,q.2.2]
     rfl
    ·rw [if_neg q]
     cases h1:Sn.soundB (E k) <;> cases h2:Sn.aloneB c E k <;> cases h3:Sn.seatedB E k <;> first | rfl | exact absurd ⟨h1,h2,h3⟩ q
  ·rw [if_neg a1,decide_eq_false a1,cond_false]
 ·rw [if_neg a0,decide_eq_false a0,cond_false]

set_option maxRecDepth 8000 in
set_option maxHeartbeats 6400000 in
theorem checkEnt_any (s g c:Nat→Int) (E I:Nat→Nat→Int) (gC gE gI cC cE cI k:Nat) (w:World) (hL:Gd.Lists w gC gE gI c E I) (hc:∀i,0≤c i∧c i≤255) (hcE:32≤cE) (hk:k<32) :
  Calls Try.prog 30 #[.agg (Gd.world s gC gE gI cC cE cI g),.int .i64 (k:Int)] w (Says w (.int .i64 (Sn.entC c E k))):=by
 obtain ⟨w0,hw0⟩:∃w0,w0=w.alloc (.cells (Gd.world s gC gE gI cC cE cI g) 29):=⟨_,rfl⟩
 have hg0:w.grownBy w0 none:=by rw [hw0];exact World.grownBy_alloc _ _ _
 have hB:Hid (Lie w0 w.heap.size 29 11 (Gd.box s gC gE gI cC cE cI g)):=by show Lie w0 _ _ _ _;rw [hw0];exact (Arr.world (heap_alloc_new w _)).lie
 have hL0:=hide (hL.on hg0)
 have hgr:=hide hg0
 have HK:=hide hk
 have HCE:=hide hcE
 have hk':(k:Int)<32:=by omega
 have c0:=hide (fun x=>snWithin_any (E k 0) 0 4 x)
 have c1:=hide (fun x=>snWithin_any (E k 1) 0 255 x)
 have cs:=hide (fun x=>isSound_any (E k) x)
 have ca:=hide (fun z (hz:Gd.Lists z gC gE gI c E I) (h0:E k 0≠0)=>standsAlone_any s g c E I gC gE gI cC cE cI k z hz hc hcE hk h0)
 have ct:=hide (fun z (hz:Gd.Lists z gC gE gI c E I)=>isSeated_any gE cE k E z hz.own.ents hcE hk)
 have hd:=hide (Sn.entC_ans c E k)
 obtain ⟨z,hz'⟩:∃z,decide (E k 0=0)=z:=⟨_,rfl⟩
 rw [hz'] at hd
 have hz:Hid (decide (E k 0=0)=z):=hz'
 clear hz'
 have hcmp:=fun wx=>run_ne_ent (E k) (Sn.bare (E k 1)) wx
 obtain ⟨p,hp⟩:∃p,Sn.sameE (E k) (Sn.bare (E k 1))=p:=⟨_,rfl⟩
 rw [hp] at hd
 have hcmp':∀wx:World,(binOp .neq 45 (.agg #[.int .i64 (E k 0),.int .i64 (E k 1),.int .i64 (E k 2),.int .i64 (E k 3),.int .i64 (E k 4),.int .i64 (E k 5),.int .i64 (E k 6),.int .i64 (E k 7),.int .i64 (E k 8),.int .i64 (E k 9),.int .i64 (E k 10)]) (.agg #[.int .i64 0,.int .i64 (E k 1),.int .i64 0,.int .i64 0,.int .i64 0,.int .i64 0,.int .i64 0,.int .i64 0,.int .i64 0,.int .i64 0,.int .i64 0])).run Try.prog wx=.ok (.bool (!p)) wx:=fun wx=>by
  rw [←hp]
  exact hcmp wx
 obtain ⟨q0,e0⟩:∃q,Sn.inB (E k 0) 0 4=q:=⟨_,rfl⟩
 obtain ⟨q1,e1⟩:∃q,Sn.inB (E k 1) 0 255=q:=⟨_,rfl⟩
 rw [e0] at c0 hd
 rw [e1] at c1 hd
 obtain ⟨k1,f1⟩:∃q,Sn.soundB (E k)=q:=⟨_,rfl⟩
 obtain ⟨k2,f2⟩:∃q,Sn.aloneB c E k=q:=⟨_,rfl⟩
 obtain ⟨k3,f3⟩:∃q,Sn.seatedB E k=q:=⟨_,rfl⟩
 rw [f1] at cs hd
 rw [f2] at ca hd
 rw [f3] at ct hd
 obtain ⟨A,hA⟩:∃A,Sn.entC c E k=A:=⟨_,rfl⟩
 rw [hA] at hd ⊢
 clear hL hc hcE hk hg0 hcmp hp e0 e1 f1 f2 f3 hA
 unfold Gd.world at hw0 ca ⊢
 unfold En.cells at cs
 go_enter Try.func30,Try.ntmps30
 go_upto_region 1 with fail
 rw [←hw0]
 clear hw0
 obtain ⟨B,hBe⟩:∃B,w.heap.size=B:=⟨_,rfl⟩
 rw [hBe] at hB ⊢
 clear hBe
 have b5:=(uh hB).eleven.2.2.2.2.2.1
 obtain ⟨r0,r1,r2,r3,r4,r5,r6,r7,r8,r9,r10⟩:=(uh hL0).own.ents.row (uh HK)
 obtain ⟨w1,hw1⟩:∃w1,w1=w0.alloc (.cells (En.cells (E k)) 45):=⟨_,rfl⟩
 have hgA:w0.grownBy w1 none:=by rw [hw1];exact World.grownBy_alloc _ _ _
 have hD:Hid (Lie w1 w0.heap.size 45 11 (Ints (E k))):=by show Lie w1 _ _ _ _;rw [hw1];exact Sn.born w0 (E k) 45
 have hL1:=hide ((uh hL0).on hgA)
 have hB1:=hide ((uh hB).on hgA)
 have hg1:=hide (gtr (uh hgr) hgA)
 clear hgA hB hL0 hgr
 unfold En.cells at hw1
 go_upto_region 2 with fail
 rw [←hw1]
 clear hw1 b5 r0 r1 r2 r3 r4 r5 r6 r7 r8 r9 r10
 obtain ⟨D,hDe⟩:∃D,w0.heap.size=D:=⟨_,rfl⟩
 rw [hDe] at hD ⊢
 clear hDe w0
 obtain ⟨d0,d1,d2,d3,d4,d5,d6,d7,d8,d9,d10⟩:=Sn.row (uh hD)
 go_wp2_with fail
 refine (uh c0 _).mono ?_
 rintro _ w2 ⟨rfl,rfl⟩
 cases q0 with
 | false=>go_wp2;go_ret;exact ⟨rti (uh hd).symm,uh hg1⟩
 | true =>
 go_wp2_with fail
 refine (uh c1 _).mono ?_
 rintro _ w2 ⟨rfl,rfl⟩
 cases q1 with
 | false=>go_wp2;go_ret;exact ⟨rti (uh hd).symm,uh hg1⟩
 | true =>
 cases z with
 | true =>
  have h0:E k 0=0:=of_decide_eq_true (uh hz)
  have h0':(E k 0 == 0)=true:=by simp [h0]
  have h0'':(E k 0 != 0)=false:=by simp [h0]
  clear h0 hz
  cases p with
  | false=>go_wp2;go_ret;exact ⟨rti (uh hd).symm,uh hg1⟩
  | true=>go_wp2;go_ret;exact ⟨rti (uh hd).symm,uh hg1⟩
 | false =>
  have h0:¬E k 0=0:=of_decide_eq_false (uh hz)
  have h0':(E k 0 == 0)=false:=by simp [h0]
  have h0'':(E k 0 != 0)=true:=by simp [h0]
  have H0:=hide h0
  clear h0 hcmp' hz
  go_wp2_with fail
  refine (uh cs _).mono ?_
  rintro _ w2 ⟨rfl,hg2⟩
  have hL2:=hide ((uh hL1).on hg2)
  have hB2:=hide ((uh hB1).on hg2)
  have hD2:=hide ((uh hD).on hg2)
  have hg3:=hide (gtr (uh hg1) hg2)
  clear hg2 hL1 hB1 hD hg1 d0 d1 d2 d3 d4 d5 d6 d7 d8 d9 d10
  cases k1 with
  | false=>go_wp2;go_ret;exact ⟨rti (uh hd).symm,uh hg3⟩
  | true =>
  obtain ⟨b0,b1,b2,b3,b4,b5,b6,b7,b8,b9,b10⟩:=(uh hB2).eleven
  go_wp2_with fail
  refine (uh ca _ (uh hL2) (uh H0)).mono ?_
  rintro _ w3 ⟨rfl,hg2⟩
  have hL3:=hide ((uh hL2).on hg2)
  have hB3:=hide ((uh hB2).on hg2)
  have hg4:=hide (gtr (uh hg3) hg2)
  clear hg2 hL2 hB2 hD2 hg3 b0 b1 b2 b3 b4 b5 b6 b7 b8 b9 b10
  cases k2 with
  | false=>go_wp2;go_ret;exact ⟨rti (uh hd).symm,uh hg4⟩
  | true =>
  have b5:=(uh hB3).eleven.2.2.2.2.2.1
  go_wp2_with fail
  refine (uh ct _ (uh hL3)).mono ?_
  rintro _ w4 ⟨rfl,hg2⟩
  have hg5:=hide (gtr (uh hg4) hg2)
  clear hg2 hL3 hB3 hg4 b5
  cases k3 with
  | false=>go_wp2;go_ret;exact ⟨rti (uh hd).symm,uh hg5⟩
  | true=>go_wp2;go_ret;exact ⟨rti (uh hd).symm,uh hg5⟩

structure Sn.Shown (w x:World) (B gC gE gI cC cE cI:Nat) (s g c:Nat→Int) (E I:Nat→Nat→Int):Prop where
 box:Lie x B 29 11 (Gd.box s gC gE gI cC cE cI g)
 lists:Gd.Lists x gC gE gI c E I
 grown:w.grownBy x none

theorem Sn.Shown.on {w x y:World} {B gC gE gI cC cE cI:Nat} {s g c:Nat→Int} {E I:Nat→Nat→Int} (h:Sn.Shown w x B gC gE gI cC cE cI s g c E I) (hg:x.grownBy y none):Sn.Shown w y B gC gE gI cC cE cI s g c E I :=
 ⟨h.box.on hg,h.lists.on hg,gtr h.grown hg⟩

def Sn.ChkBy (q:Bool) (m n3 n4:Int) (c:Nat→Int) (E I:Nat→Nat→Int) (v:Int):Prop :=
 if q=true then if m≤5 then if n3=1∧n4=1 then if Sn.rowC c E 32=0 then (v=0∧Gd.Ok c 40 I)∨(v=9∧¬Gd.Ok c 40 I) else v=Sn.rowC c E 32 else v=2 else v=3 else v=1

def Sn.ChkRows (c:Nat→Int) (E I:Nat→Nat→Int) (v:Int):Prop :=
 if Sn.rowC c E 32=0 then (v=0∧Gd.Ok c 40 I)∨(v=9∧¬Gd.Ok c 40 I) else v=Sn.rowC c E 32

def Sn.Told (w:World) (s g c:Nat→Int) (E I:Nat→Nat→Int) (e:Ending) (w':World):Prop:=∃v,e=.returned (.int .i64 v)∧Sn.Chk s g c E I v∧w.grownBy w' none

set_option maxRecDepth 8000 in
set_option maxHeartbeats 6400000 in
theorem snCheck_any (s g c:Nat→Int) (E I:Nat→Nat→Int) (gC gE gI cC cE cI:Nat) (w:World) (hL:Gd.Lists w gC gE gI c E I) (hc:∀i,0≤c i∧c i≤255) (hcE:32≤cE) :
  Calls Try.prog 9 #[.agg (Gd.world s gC gE gI cC cE cI g)] w (Sn.Told w s g c E I):=by
 obtain ⟨w0,hw0⟩:∃w0,w0=w.alloc (.cells (Gd.world s gC gE gI cC cE cI g) 29):=⟨_,rfl⟩
 have hg0:w.grownBy w0 none:=by rw [hw0];exact World.grownBy_alloc _ _ _
 have hO:Hid (Sn.Shown w w0 w.heap.size gC gE gI cC cE cI s g c E I):=by
  refine ⟨?_,hL.on hg0,hg0⟩
  rw [hw0]
  exact (Arr.world (heap_alloc_new w _)).lie
 have ch:=hide (fun x=>headFits_any s g 384 32 40 cC cE cI (some ⟨gC,0,none⟩) (some ⟨gE,0,none⟩) (some ⟨gI,0,none⟩) x)
 have cm:=hide (fun x (hx:Gd.Lists x gC gE gI c E I)=>snMax_any gC cC c x hx.cells)
 have cn:=hide (fun x (hx:Gd.Lists x gC gE gI c E I) kd=>snCount_any gC cC c kd x hx.cells)
 have ce:=hide (fun x (hx:Gd.Lists x gC gE gI c E I) k (hk:k<32)=>checkEnt_any s g c E I gC gE gI cC cE cI k x hx hc hcE hk)
 have cd:=hide (fun x (hx:Gd.Lists x gC gE gI c E I)=>check_any s g c E I gC gE gI cC cE cI x hx hc)
 obtain ⟨q,hq⟩:∃q,Sn.headB s g=q:=⟨_,rfl⟩
 obtain ⟨m,hm⟩:∃m,Sn.mx c 383=m:=⟨_,rfl⟩
 obtain ⟨n3,h3⟩:∃m,Sn.cnt c 3 384=m:=⟨_,rfl⟩
 obtain ⟨n4,h4⟩:∃m,Sn.cnt c 4 384=m:=⟨_,rfl⟩
 have hT:Hid (∀v,Sn.Chk s g c E I v↔Sn.ChkBy q m n3 n4 c E I v):=fun v=>by
  unfold Sn.Chk Sn.ChkBy
  rw [hq,hm,h3,h4]
 have c3:Hid (∀x,Gd.Lists x gC gE gI c E I→Calls Try.prog 29 #[.slice (some ⟨gC,0,none⟩) 384 cC,.int .u8 3] x fun e w'=>e=.returned (.int .i64 n3)∧w'=x):=fun x hx=>by
  rw [←h3]
  exact uh cn x hx 3
 have c4:Hid (∀x,Gd.Lists x gC gE gI c E I→Calls Try.prog 29 #[.slice (some ⟨gC,0,none⟩) 384 cC,.int .u8 4] x fun e w'=>e=.returned (.int .i64 n4)∧w'=x):=fun x hx=>by
  rw [←h4]
  exact uh cn x hx 4
 rw [hq] at ch
 rw [hm] at cm
 clear hL hc hcE hg0 cn hq hm h3 h4
 unfold Gd.world at hw0 ce cd ⊢
 go_enter Try.func9,Try.ntmps9
 go_upto_region 1 with fail
 rw [←hw0]
 clear hw0
 obtain ⟨B,hB⟩:∃B,w.heap.size=B:=⟨_,rfl⟩
 rw [hB] at hO ⊢
 clear hB
 obtain ⟨b0,b1,b2,b3,b4,b5,b6,b7,b8,b9,b10⟩:=(uh hO).box.eleven
 go_wp2_with fail
 refine (uh ch _).mono ?_
 rintro e w1 ⟨rfl,hg⟩
 have hO1:=hide ((uh hO).on hg)
 clear hg hO ch b0 b1 b2 b3 b4 b5 b6 b7 b8 b9 b10
 cases q with
 | false =>
  have hfin:Hid (Sn.Told w s g c E I (.returned (.int .i64 1)) w1):=⟨1,rfl,((uh hT) 1).2 (by unfold Sn.ChkBy;rw [if_neg (by simp)]),(uh hO1).grown⟩
  go_wp2
  go_ret
  exact uh hfin
 | true =>
 obtain ⟨b0,b1,b2,b3,b4,b5,b6,b7,b8,b9,b10⟩:=(uh hO1).box.eleven
 go_wp2_with fail
 refine (uh cm _ (uh hO1).lists).mono ?_
 rintro e w1 ⟨rfl,rfl⟩
 by_cases hm:m≤5
 case neg =>
  have hm':m > 5:=by omega
  have hfin:Hid (Sn.Told w s g c E I (.returned (.int .i64 3)) w1):=⟨3,rfl,((uh hT) 3).2 (by unfold Sn.ChkBy;rw [if_pos rfl,if_neg hm]),(uh hO1).grown⟩
  clear hm
  go_wp2
  go_ret
  exact uh hfin
 have hm':¬m > 5:=by omega
 have HM:=hide hm
 clear hm
 go_wp2_with fail
 refine (uh c3 _ (uh hO1).lists).mono ?_
 rintro e w1 ⟨rfl,rfl⟩
 by_cases k3:n3=1
 case neg =>
  have k3':(n3 != 1)=true:=by simp [k3]
  have hfin:Hid (Sn.Told w s g c E I (.returned (.int .i64 2)) w1):=⟨2,rfl,((uh hT) 2).2 (by unfold Sn.ChkBy;rw [if_pos rfl,if_pos (uh HM),if_neg (fun h=>k3 h.1)]),(uh hO1).grown⟩
  clear k3
  go_wp2
  go_ret
  exact uh hfin
 have k3':(n3 != 1)=false:=by simp [k3]
 have K3:=hide k3
 clear k3
 go_wp2_with fail
 refine (uh c4 _ (uh hO1).lists).mono ?_
 rintro e w1 ⟨rfl,rfl⟩
 by_cases k4:n4=1
 case neg =>
  have k4':(n4 != 1)=true:=by simp [k4]
  have hfin:Hid (Sn.Told w s g c E I (.returned (.int .i64 2)) w1):=⟨2,rfl,((uh hT) 2).2 (by unfold Sn.ChkBy;rw [if_pos rfl,if_pos (uh HM),if_neg (fun h=>k4 h.2)]),(uh hO1).grown⟩
  clear k4
  go_wp2
  go_ret
  exact uh hfin
 have k4':(n4 != 1)=false:=by simp [k4]
 have hT2:Hid (∀v,Sn.Chk s g c E I v↔Sn.ChkRows c E I v):=fun v=>by
  rw [uh hT v]
  unfold Sn.ChkBy Sn.ChkRows
  rw [if_pos rfl,if_pos (uh HM),if_pos ⟨uh K3,k4⟩]
 clear k4 hT HM K3
 go_wp2_with fail
 go_loopw [45] (fun v45 wr=>∃i:Nat,i≤32∧v45=.int .i64 (i:Int)∧Hid (∀j,j<i→Sn.entC c E j=0)∧Hid (Sn.Shown w wr B gC gE gI cC cE cI s g c E I)) (fun v45 _=>40 - (intOf v45).toNat)
 case atStart=>exact ⟨0,by omega,rfl,fun j hj=>absurd hj (by omega),hO1⟩
 case round =>
  clear hO1 b0 b1 b2 b3 b4 b5 b6 b7 b8 b9 b10 k3' k4' hm'
  obtain ⟨i,hi,rfl,hz,hO⟩:=hrel
  obtain ⟨b0,b1,b2,b3,b4,b5,b6,b7,b8,b9,b10⟩:=(uh hO).box.eleven
  by_cases hlt:i<32
  ·have hlt':(i:Int)<32:=by omega
   have HL:=hide hlt
   have cx:=hide (uh ce wr (uh hO).lists i hlt)
   obtain ⟨r,hr⟩:∃r,Sn.entC c E i=r:=⟨_,rfl⟩
   rw [hr] at cx
   have HR:=hide hr
   clear hlt hi hr
   go_wp2_with fail
   refine (uh cx).mono ?_
   rintro e w2 ⟨rfl,hg⟩
   have hO2:=hide ((uh hO).on hg)
   clear hg hO cx b0 b1 b2 b3 b4 b5 b6 b7 b8 b9 b10
   by_cases hr0:r=0
   ·have hr':(r != 0)=false:=by simp [hr0]
    have HZ:Hid (∀j,j<i+1→Sn.entC c E j=0):=fun j hj=>by
     by_cases e:j=i
     ·rw [e,uh HR,hr0]
     ·exact uh hz j (by omega)
    clear hr0
    go_wp2
    go_roundw
    case rel=>exact ⟨i+1,by have:=uh HL;omega,by go_num,HZ,hO2⟩
    case measure=>simp [intOf];have:=uh HL;omega
   ·have hr':(r != 0)=true:=by simp [hr0]
    have hre:Sn.rowC c E (i+1)=r:=by
     show (if Sn.rowC c E i=0 then Sn.entC c E i else Sn.rowC c E i)=r
     rw [if_pos (Sn.rowC_zero (uh hz)),uh HR]
    have h32:=Sn.rowC_stays hre hr0 32 (by have:=uh HL;omega)
    have hfin:Hid (Sn.Told w s g c E I (.returned (.int .i64 r)) w2):=⟨r,rfl,((uh hT2) r).2 (by unfold Sn.ChkRows;rw [if_neg (by rw [h32];exact hr0),h32]),(uh hO2).grown⟩
    clear hr0 hre h32
    go_wp2
    go_ret
    exact uh hfin
  ·have hge:¬(i:Int)<32:=by omega
   have h32:Sn.rowC c E 32=0:=Sn.rowC_zero fun j hj=>uh hz j (by omega)
   have hT3:Hid (∀v,Sn.Chk s g c E I v↔(v=0∧Gd.Ok c 40 I)∨(v=9∧¬Gd.Ok c 40 I)):=fun v=>by rw [uh hT2 v];unfold Sn.ChkRows;rw [if_pos h32]
   clear hlt hi h32
   go_wp2_with fail
   refine (uh cd _ (uh hO).lists).mono ?_
   rintro e w3 ⟨b,rfl,hb,hg⟩
   have hgf:=hide (gtr (uh hO).grown hg)
   have HB:=hide hb
   clear hb hg hO b0 b1 b2 b3 b4 b5 b6 b7 b8 b9 b10 cd ce
   cases b with
   | true =>
    have hfin:Hid (Sn.Told w s g c E I (.returned (.int .i64 0)) w3):=⟨0,rfl,((uh hT3) 0).2 (.inl ⟨rfl,(uh HB).1 rfl⟩),uh hgf⟩
    go_wp2
    go_ret
    exact uh hfin
   | false =>
    have hfin:Hid (Sn.Told w s g c E I (.returned (.int .i64 9)) w3):=⟨9,rfl,((uh hT3) 9).2 (.inr ⟨rfl,fun h=>absurd ((uh HB).2 h) (by simp)⟩),uh hgf⟩
    go_wp2
    go_ret
    exact uh hfin


open Go.RowKit

theorem make918:∃Z:Array Value,Z.size=918∧∀w:World,(Instr.makeSlice 25 (.int .i64 0) (.int .i64 918)).run Try.prog w=.ok (.slice (some ⟨w.heap.size,0,none⟩) 0 918) (w.alloc (.cells Z 5)):=by
 obtain ⟨i0,hi,hz0,hz1,hz2⟩:=info_parts info_byte
 refine ⟨madeCells (Value.int .u8 0).cells (918*1),by rw [size_madeCells],fun w=>?_⟩
 have hr:=run_make (P:=Try.prog) w 25 5 i0 _ Try.underlying25 hi hz0 .i64 .i64 (0:Nat) (918:Nat) (by omega) (by omega) (by rw [hz2];decide) (by decide)
 rw [hz1] at hr
 exact hr

theorem Sn.wrap64 (x:Int):IntKind.u64.wrap x=x % 18446744073709551616:=IntKind.wrap_u64 x

theorem Sn.wrap8 (x:Int):IntKind.u8.wrap x=x % 256:=IntKind.wrap_u8 x

structure Sn.Wr (w x:World) (base:Nat) (v:Value) (l:List Int):Prop where
 own:Sn.Bytes x base v l
 bel:Below base w x

theorem Sn.Wr.top {w x:World} {base:Nat} {v:Value} {l:List Int} (h:Sn.Wr w x base v l) (hb:base≤w.heap.size):base≤x.heap.size:=Nat.le_trans hb h.bel.size

theorem Sn.Wr.more {w x y x':World} {base m:Nat} {v v':Value} {l ns:List Int} (h:Sn.Wr w x base v l) (hb:base≤w.heap.size) (hxy:x.grownBy y none) (hown:x'.ownsRow base 5 1 v' (l.length+m) (List.map (Value.int .u8) l ++ ns.map (Value.int .u8))) (hm:ns.length=m) (hg:y.grownBy x' v.ownBlock):Sn.Wr w x' base v' (l ++ ns):=by
 refine ⟨?_,?_⟩
 ·unfold Sn.Bytes
  rw [List.length_append,hm,List.map_append]
  exact hown
 ·have hb1:Below base x y:=Sn.below hxy (fun k e=>by cases e) (h.top hb)
  have hb2:=Sn.below hg (fun k e=>(h.own.lt k e).1) (Nat.le_trans (h.top hb) hb1.size)
  exact h.bel.trans (hb1.trans hb2)

theorem Sn.Wr.on {w x y:World} {base:Nat} {v:Value} {l:List Int} (h:Sn.Wr w x base v l) (hb:base≤w.heap.size) (hg:x.grownBy y none):Sn.Wr w y base v l :=
 ⟨h.own.on hg,h.bel.trans (Sn.below hg (fun k e=>by cases e) (h.top hb))⟩

theorem Sn.Wr.adds {w x x':World} {base:Nat} {v v':Value} {l l':List Int} (h:Sn.Wr w x base v l) (hown:Sn.Bytes x' base v' l') (hb:Below base x x'):Sn.Wr w x' base v' l':=⟨hown,h.bel.trans hb⟩

theorem Sn.cells_src {w:World} {G:Nat} {c:Nat→Int} (h:Lie w G 5 384 (Byts c)):∀j u,(((List.range 384).map c).map (Value.int .u8))[j]?=some u→w.cell? ((⟨G,0,none⟩:Addr).add j)=some u:=by
 intro j u hj
 have hlt:j<384:=by
  have:=(List.getElem?_eq_some_iff.1 hj).1
  simpa using this
 rw [show (⟨G,0,none⟩:Addr).add j=⟨G,j,none⟩ by rw [Go.WideShapes.add_plain,Nat.zero_add],h.cell hlt]
 rw [List.getElem?_map,List.getElem?_map,List.getElem?_range hlt] at hj
 exact hj

theorem Sn.news (w:World) (arr:Array Value) (T:TypeId) (B:Nat) (hB:B=w.heap.size):∀j u,arr.toList[j]?=some u→(w.alloc (.cells arr T)).cell? ((⟨B,0,none⟩:Addr).add j)=some u:=by
 subst hB
 intro j u hj
 have hlt:j<arr.size:=by
  have:=(List.getElem?_eq_some_iff.1 hj).1
  simpa using this
 rw [show (⟨w.heap.size,0,none⟩:Addr).add j=⟨w.heap.size,j,none⟩ by rw [Go.WideShapes.add_plain,Nat.zero_add],(Arr.lit (heap_alloc_new w (.cells arr T))).cell hlt]
 rw [Array.getElem?_toList] at hj
 rw [hj]
 rfl

set_option maxRecDepth 16000 in
set_option maxHeartbeats 6400000 in
theorem written_any (s g c:Nat→Int) (E I:Nat→Nat→Int) (gC gE gI cC cE cI:Nat) (w:World) (hL:Gd.Lists w gC gE gI c E I) :
  Calls Try.prog 25 #[.agg (Gd.world s gC gE gI cC cE cI g)] w fun e w'=>∃v,e=.returned v∧Sn.Bytes w' w.heap.size v (Sn.bytes s g c E I)∧w.grownBy w' none:=by
 obtain ⟨w0,hw0⟩:∃w0,w0=w.alloc (.cells (Gd.world s gC gE gI cC cE cI g) 29):=⟨_,rfl⟩
 have hg0:w.grownBy w0 none:=by rw [hw0];exact World.grownBy_alloc _ _ _
 have hO:Hid (Sn.Shown w w0 w.heap.size gC gE gI cC cE cI s g c E I):=by
  refine ⟨?_,hL.on hg0,hg0⟩
  rw [hw0]
  exact (Arr.world (heap_alloc_new w _)).lie
 obtain ⟨base,hbase⟩:∃base,w0.heap.size=base:=⟨_,rfl⟩
 have HB:Hid (base=w.heap.size+1):=by
  show base=w.heap.size+1
  rw [←hbase,hw0]
  simp
 have HG0:=hide hg0
 have HB0:Hid (base≤w0.heap.size):=(show base≤w0.heap.size by omega)
 obtain ⟨i0,hi,hz0,hz1,hz2⟩:=info_parts info_byte
 obtain ⟨Z,hZ,hmk⟩:=make918
 have hW0:Hid (∀x,x=w0.alloc (.cells Z 5)→Sn.Wr w0 x base (.slice (some ⟨base,0,none⟩) 0 918) []):=fun x hx=>by
  subst hx
  rw [←hbase]
  exact ⟨World.ownsRow_made w0 Z 918 (Nat.le_refl _) (by decide) (by rw [hZ]),Sn.below (World.grownBy_alloc w0 _ none) (fun k e=>by cases e) (Nat.le_refl _)⟩
 have lE:=hide (And.intro hL.cells.lt (And.intro hL.ents.lt hL.items.lt))
 have hlists:Hid (∀x,Below base w0 x→Lie x w.heap.size 29 11 (Gd.box s gC gE gI cC cE cI g)∧Gd.Lists x gC gE gI c E I):=fun x hx=>by
  have:=uh HB
  obtain ⟨l1,l2,l3⟩:=uh lE
  exact ⟨(uh hO).box.below hx (by omega),(uh hO).lists.below hx (by omega) (by omega) (by omega)⟩
 have cN:=hide (fun (n:Nat) (x:Int) (v:Value) (l:List Int) (y:World) (hn:n≤8) (h:Sn.Bytes y base v l) (hb:base≤y.heap.size) (hl:l.length≤1000)=>withNumber_any n base x v l y hn h hb hl)
 clear hL hg0 hZ
 unfold Gd.world at hw0 ⊢
 go_enter Try.func25,Try.ntmps25
 go_upto_region 1 with fail
 rw [←hw0]
 clear hw0
 obtain ⟨B,hBe⟩:∃B,w.heap.size=B:=⟨_,rfl⟩
 rw [hBe] at hlists ⊢
 clear hO hBe
 go_upto_region 2 with fail
 have hW1:=hide (uh hW0 _ rfl)
 clear hW0 hmk
 generalize w0.alloc (.cells Z 5)=w1 at hW1 ⊢
 obtain ⟨b0,b1,b2,b3,b4,b5,b6,b7,b8,b9,b10⟩:=(uh hlists w1 (uh hW1).bel).1.eleven
 go_wp2_with fail
 refine (uh cN 8 _ _ [] _ (by omega) (uh hW1).own ((uh hW1).top (uh HB0)) (by simp)).mono ?_
 rintro e w2 ⟨v2,rfl,hown,hbel⟩
 have hW2:=hide ((uh hW1).adds hown hbel)
 rw [List.nil_append,Sn.wrap64] at hW2
 clear hown hbel hW1 b0 b1 b2 b3 b4 b5 b6 b7 b8 b9 b10
 have b1:=(uh hlists w2 (uh hW2).bel).1.eleven.2.1
 go_wp2_with fail
 refine (uh cN 4 _ _ _ _ (by omega) (uh hW2).own ((uh hW2).top (uh HB0)) (by rw [Sn.num_len];omega)).mono ?_
 rintro e w3 ⟨v3,rfl,hown,hbel⟩
 have hW3:=hide ((uh hW2).adds hown hbel)
 rw [Sn.wrap64] at hW3
 clear hown hbel hW2 b1
 obtain ⟨b0,b1,b2,b3,b4,b5,b6,b7,b8,b9,b10⟩:=(uh hlists w3 (uh hW3).bel).1.eleven
 have t2:IntKind.u8.wrap (s 2)=s 2 % 256:=Sn.wrap8 _
 have t3:IntKind.u8.wrap (s 3)=s 3 % 256:=Sn.wrap8 _
 go_wp2_with (at_builtin;refine wpList_append_own _ rfl _ _ 25 rfl base 5 i0 (.int .u8 0) 1 1 Try.underlying25 hi hz0 hz1 hz2 rfl (by decide) _ _ _ rfl ((uh hW3).own.alloc _) ⟨w3.heap.size,0,none⟩ 2 2 [.int .u8 (s 2 % 256),.int .u8 (s 3 % 256)] rfl rfl (Sn.news w3 #[.int .u8 (s 2 % 256),.int .u8 (s 3 % 256)] _ _ rfl) ?_ ?_ ?_ ?_ ?_)
 ·intro u hu
  simp only [List.mem_cons,List.not_mem_nil,or_false] at hu
  rcases hu with rfl | rfl <;> rfl
 ·simp [Sn.num_len];unfold maxLen;omega
 ·simp [Sn.num_len]
 ·have:=(uh hW3).top (uh HB0);simp;omega
 intro v4 w4 hown hgrow _
 have hW4:Hid (Sn.Wr w0 w4 base v4 (Sn.head s)):=(uh hW3).more (m:=2) (ns:=[s 2 % 256,s 3 % 256]) (uh HB0) (World.grownBy_alloc _ _ _) (by simpa using hown) rfl hgrow
 clear hown hgrow hW3 b0 b1 b2 b3 b4 b5 b6 b7 b8 b9 b10 t2 t3
 obtain ⟨b0,b1,b2,b3,b4,b5,b6,b7,b8,b9,b10⟩:=(uh hlists w4 (uh hW4).bel).1.eleven
 go_wp2_with fail
 go_loopw [3,32] (fun v3 v32 wr=>∃k:Nat,k≤4∧v32=.int .i64 (k:Int)∧Hid (Sn.Wr w0 wr base v3 (Sn.head s ++ Sn.golds k g))) (fun _ v32 _=>10 - (intOf v32).toNat)
 case atStart=>exact ⟨0,by omega,rfl,by simpa [Sn.golds] using hW4⟩
 case round =>
  clear hW4 b0 b1 b2 b3 b4 b5 b6 b7 b8 b9 b10
  obtain ⟨k,hk,rfl,hX⟩:=hrel
  have hlen:Hid ((Sn.head s ++ Sn.golds k g).length=14+k*2):=by show (Sn.head s ++ Sn.golds k g).length=_;rw [List.length_append,Sn.head_len,Sn.golds_len]
  by_cases hlt:k<4
  ·have hlt':(k:Int)<4:=by omega
   have HL:=hide hlt
   have hix:=fun x=>run_index_gold g k hlt x
   clear hlt hk
   go_wp2_with fail
   refine (uh cN 2 _ _ _ _ (by omega) (uh hX).own ((uh hX).top (uh HB0)) (by have:=uh hlen;have:=uh HL;omega)).mono ?_
   rintro e w5 ⟨v5,rfl,hown,hbel⟩
   have hX2:=hide ((uh hX).adds hown hbel)
   rw [Sn.wrap64,List.append_assoc,←Sn.golds_more] at hX2
   clear hown hbel hX hix hlen
   go_wp2
   go_roundw
   case rel=>exact ⟨k+1,by have:=uh HL;omega,by go_num,hX2⟩
   case measure=>simp [intOf];have:=uh HL;omega
  ·obtain rfl:k=4:=by omega
   have hge:¬((4:Nat):Int)<4:=by omega
   clear hlt hk
   have b4:=(uh hlists wr (uh hX).bel).1.eleven.2.2.2.2.1
   go_upto_region 10 with fail
   go_wp2_with (at_builtin;refine wpList_append_own _ rfl _ _ 25 rfl base 5 i0 (.int .u8 0) 1 1 Try.underlying25 hi hz0 hz1 hz2 rfl (by decide) _ _ _ rfl (uh hX).own ⟨gC,0,none⟩ 384 cC (((List.range 384).map c).map (Value.int .u8)) rfl (by simp) (Sn.cells_src (uh hlists wr (uh hX).bel).2.cells) ?_ ?_ ?_ ?_ ?_)
   ·intro u hu
    obtain ⟨x,_,rfl⟩:=List.mem_map.1 hu
    rfl
   ·have:=Sn.head_len s;have:=Sn.golds_len g 4;unfold maxLen;omega
   ·have:=Sn.head_len s;have:=Sn.golds_len g 4;omega
   ·exact (uh hX).top (uh HB0)
   intro v6 w6 hown hgrow _
   have hW6:Hid (Sn.Wr w0 w6 base v6 (Sn.head s ++ Sn.golds 4 g ++ (List.range 384).map c)):=(uh hX).more (m:=384) (uh HB0) (World.grownBy.refl _ _) hown (by simp) hgrow
   clear hown hgrow hX b4 hlen hge
   have b5:=(uh hlists w6 (uh hW6).bel).1.eleven.2.2.2.2.2.1
   go_upto_region 11 with fail
   go_wp2_with fail
   go_loopw [3,7,47] (fun v3 v7 v47 wr=>∃k:Nat,k≤32∧v47=.int .i64 (k:Int)∧Hid (Sn.Wr w0 wr base v3 (Sn.head s ++ Sn.golds 4 g ++ (List.range 384).map c ++ Sn.rows k 11 E))) (fun _ _ v47 _=>40 - (intOf v47).toNat)
   case atStart=>exact ⟨0,by omega,rfl,by simpa [Sn.rows] using hW6⟩
   case round =>
    clear hW6 b5
    obtain ⟨k,hk,rfl,hX⟩:=hrel
    have hlen:Hid ((Sn.head s ++ Sn.golds 4 g ++ (List.range 384).map c ++ Sn.rows k 11 E).length=406+k*11):=by show (Sn.head s ++ Sn.golds 4 g ++ (List.range 384).map c ++ Sn.rows k 11 E).length=_;rw [List.length_append,Sn.len22,Sn.rows_len]
    by_cases hlt:k<32
    ·have hlt':(k:Int)<32:=by omega
     have HL:=hide hlt
     obtain ⟨r0,r1,r2,r3,r4,r5,r6,r7,r8,r9,r10⟩:=(uh hlists wr (uh hX).bel).2.own.ents.row hlt
     clear hlt hk
     obtain ⟨l,hl⟩:∃l,Sn.head s ++ Sn.golds 4 g ++ (List.range 384).map c ++ Sn.rows k 11 E=l:=⟨_,rfl⟩
     rw [hl] at hX hlen
     have hl':=hide hl
     clear hl
     go_upto_region 14 with fail
     obtain ⟨wd,hwd⟩:∃wd,wd=wr.alloc (.cells (En.cells (E k)) 45):=⟨_,rfl⟩
     have hgd:wr.grownBy wd none:=by rw [hwd];exact World.grownBy_alloc _ _ _
     have hD:Hid (Lie wd wr.heap.size 45 11 (Ints (E k))):=by show Lie wd _ _ _ _;rw [hwd];exact Sn.born wr (E k) 45
     have hXd:=hide ((uh hX).on (uh HB0) hgd)
     unfold En.cells at hwd
     rw [←hwd]
     clear hwd hgd hX r0 r1 r2 r3 r4 r5 r6 r7 r8 r9 r10
     obtain ⟨D,hDe⟩:∃D,wr.heap.size=D:=⟨_,rfl⟩
     rw [hDe] at hD ⊢
     clear hDe wr
     obtain ⟨d0,d1,d2,d3,d4,d5,d6,d7,d8,d9,d10⟩:=Sn.row (uh hD)
     have tw:∀j,IntKind.u8.wrap (E k j)=E k j % 256:=fun j=>Sn.wrap8 _
     go_wp2_with (at_builtin;refine wpList_append_own _ rfl _ _ 25 rfl base 5 i0 (.int .u8 0) 1 1 Try.underlying25 hi hz0 hz1 hz2 rfl (by decide) _ _ _ rfl ((uh hXd).own.alloc _) ⟨wd.heap.size,0,none⟩ 11 11 (#[.int .u8 (E k 0 % 256),.int .u8 (E k 1 % 256),.int .u8 (E k 2 % 256),.int .u8 (E k 3 % 256),.int .u8 (E k 4 % 256),.int .u8 (E k 5 % 256),.int .u8 (E k 6 % 256),.int .u8 (E k 7 % 256),.int .u8 (E k 8 % 256),.int .u8 (E k 9 % 256),.int .u8 (E k 10 % 256)]:Array Value).toList rfl rfl (Sn.news wd _ _ _ rfl) ?_ ?_ ?_ ?_ ?_)
     ·exact ⟨rfl,rfl,rfl,rfl,rfl,rfl,rfl,rfl,rfl,rfl,rfl⟩
     ·have:=uh hlen;have:=uh HL;unfold maxLen;omega
     ·have:=uh hlen;have:=uh HL;omega
     ·have:=(uh hXd).top (uh HB0);simp;omega
     intro v8 w8 hown hgrow _
     have hX2:Hid (Sn.Wr w0 w8 base v8 (l ++ (List.range 11).map fun j=>E k j % 256)):=(uh hXd).more (m:=11) (uh HB0) (World.grownBy_alloc _ _ _) hown (by simp) hgrow
     rw [←uh hl',List.append_assoc,←Sn.rows_more] at hX2
     clear hown hgrow hXd hD d0 d1 d2 d3 d4 d5 d6 d7 d8 d9 d10 tw hlen
     go_wp2
     go_roundw
     case rel=>exact ⟨k+1,by have:=uh HL;omega,by go_num,hX2⟩
     case measure=>simp [intOf];have:=uh HL;omega
    ·obtain rfl:k=32:=by omega
     have hge:¬((32:Nat):Int)<32:=by omega
     clear hlt hk
     have b6:=(uh hlists wr (uh hX).bel).1.eleven.2.2.2.2.2.2.1
     go_upto_region 16 with fail
     go_wp2_with fail
     go_loopw [3,9,91] (fun v3 v9 v91 wr=>∃k:Nat,k≤40∧v91=.int .i64 (k:Int)∧Hid (Sn.Wr w0 wr base v3 (Sn.head s ++ Sn.golds 4 g ++ (List.range 384).map c ++ Sn.rows 32 11 E ++ Sn.rows k 4 I))) (fun _ _ v91 _=>50 - (intOf v91).toNat)
     case atStart=>exact ⟨0,by omega,rfl,by simpa [Sn.rows] using hX⟩
     case round =>
      clear hX b6 hge hlen
      obtain ⟨k,hk,rfl,hX⟩:=hrel
      have hlen:Hid ((Sn.head s ++ Sn.golds 4 g ++ (List.range 384).map c ++ Sn.rows 32 11 E ++ Sn.rows k 4 I).length=758+k*4):=by show (Sn.head s ++ Sn.golds 4 g ++ (List.range 384).map c ++ Sn.rows 32 11 E ++ Sn.rows k 4 I).length=_;rw [List.length_append,Sn.len406,Sn.rows_len]
      by_cases hlt:k<40
      ·have hlt':(k:Int)<40:=by omega
       have HL:=hide hlt
       obtain ⟨r0,r1,r2,r3⟩:=(uh hlists wr (uh hX).bel).2.its.row hlt
       clear hlt hk
       obtain ⟨l,hl⟩:∃l,Sn.head s ++ Sn.golds 4 g ++ (List.range 384).map c ++ Sn.rows 32 11 E ++ Sn.rows k 4 I=l:=⟨_,rfl⟩
       rw [hl] at hX hlen
       have hl':=hide hl
       clear hl
       go_upto_region 19 with fail
       obtain ⟨wd,hwd⟩:∃wd,wd=wr.alloc (.cells (Gd.cells (I k)) 47):=⟨_,rfl⟩
       have hgd:wr.grownBy wd none:=by rw [hwd];exact World.grownBy_alloc _ _ _
       have hD:Hid (Lie wd wr.heap.size 47 4 (fun j=>(Gd.cells (I k))[j]?.getD undef)):=by show Lie wd _ _ _ _;rw [hwd];exact (Arr.lit (heap_alloc_new wr _)).lie
       have hXd:=hide ((uh hX).on (uh HB0) hgd)
       unfold Gd.cells at hwd
       rw [←hwd]
       clear hwd hgd hX r0 r1 r2 r3
       obtain ⟨D,hDe⟩:∃D,wr.heap.size=D:=⟨_,rfl⟩
       rw [hDe] at hD ⊢
       clear hDe wr
       have d0:wd.cell? ⟨D,0,none⟩=some (.int .i64 (I k 0)):=(uh hD).cell (c:=0) (by omega)
       have d1:wd.cell? ⟨D,1,none⟩=some (.int .i64 (I k 1)):=(uh hD).cell (c:=1) (by omega)
       have d2:wd.cell? ⟨D,2,none⟩=some (.int .i64 (I k 2)):=(uh hD).cell (c:=2) (by omega)
       have d3:wd.cell? ⟨D,3,none⟩=some (.int .i64 (I k 3)):=(uh hD).cell (c:=3) (by omega)
       have tw:∀j,IntKind.u8.wrap (I k j)=I k j % 256:=fun j=>Sn.wrap8 _
       go_wp2_with (at_builtin;refine wpList_append_own _ rfl _ _ 25 rfl base 5 i0 (.int .u8 0) 1 1 Try.underlying25 hi hz0 hz1 hz2 rfl (by decide) _ _ _ rfl ((uh hXd).own.alloc _) ⟨wd.heap.size,0,none⟩ 4 4 (#[.int .u8 (I k 0 % 256),.int .u8 (I k 1 % 256),.int .u8 (I k 2 % 256),.int .u8 (I k 3 % 256)]:Array Value).toList rfl rfl (Sn.news wd _ _ _ rfl) ?_ ?_ ?_ ?_ ?_)
       ·exact ⟨rfl,rfl,rfl,rfl⟩
       ·have:=uh hlen;have:=uh HL;unfold maxLen;omega
       ·have:=uh hlen;have:=uh HL;omega
       ·have:=(uh hXd).top (uh HB0);simp;omega
       intro v8 w8 hown hgrow _
       have hX2:Hid (Sn.Wr w0 w8 base v8 (l ++ (List.range 4).map fun j=>I k j % 256)):=(uh hXd).more (m:=4) (uh HB0) (World.grownBy_alloc _ _ _) hown (by simp) hgrow
       rw [←uh hl',List.append_assoc,←Sn.rows_more] at hX2
       clear hown hgrow hXd hD d0 d1 d2 d3 tw hlen
       go_wp2
       go_roundw
       case rel=>exact ⟨k+1,by have:=uh HL;omega,by go_num,hX2⟩
       case measure=>simp [intOf];have:=uh HL;omega
      ·obtain rfl:k=40:=by omega
       have hge:¬((40:Nat):Int)<40:=by omega
       have hfin:Hid (∀v,Sn.Wr w0 wr base v (Sn.bytes s g c E I)→Sn.Bytes wr w.heap.size v (Sn.bytes s g c E I)∧w.grownBy wr none):=fun v hv=>by
        have e1:=uh HB
        refine ⟨?_,?_⟩
        ·obtain ⟨h1,h2⟩:=hv.own
         refine ⟨h1,?_⟩
         rcases h2 with h2 | ⟨gg,cap,cur,h3,h4,h5⟩
         ·exact .inl h2
         ·exact .inr ⟨gg,cap,cur,h3,by omega,h5⟩
        ·exact below_grown (Sn.below_trans (none_below (uh HG0)) (hv.bel.mono (by omega)))
       clear hlt hk
       go_wp2
       go_ret
       exact ⟨_,rfl,(uh hfin _ (uh hX)).1,(uh hfin _ (uh hX)).2⟩

def Sn.Encodes (w:World) (s g c:Nat→Int) (E I:Nat→Nat→Int) (e:Ending) (w':World):Prop :=
 ∃v r,e=.returned (.tuple #[v,.int .i64 r])∧Sn.Chk s g c E I r∧(r≠0→v=.slice none 0 0)∧(r=0→Sn.Bytes w' w.heap.size v (Sn.bytes s g c E I))∧w.grownBy w' none

theorem Sn.Bytes.mono {w:World} {base base':Nat} {v:Value} {l:List Int} (h:Sn.Bytes w base v l) (hb:base'≤base):Sn.Bytes w base' v l:=by
 obtain ⟨h1,h2⟩:=h
 refine ⟨h1,?_⟩
 rcases h2 with h2 | ⟨gg,cap,cur,h3,h4,h5⟩
 ·exact .inl h2
 ·exact .inr ⟨gg,cap,cur,h3,by omega,h5⟩

set_option maxRecDepth 8000 in
set_option maxHeartbeats 1600000 in
theorem encode_any (s g c:Nat→Int) (E I:Nat→Nat→Int) (gC gE gI cC cE cI:Nat) (w:World) (hL:Gd.Lists w gC gE gI c E I) (hc:∀i,0≤c i∧c i≤255) (hcE:32≤cE) :
  Calls Try.prog 7 #[.agg (Gd.world s gC gE gI cC cE cI g)] w (Sn.Encodes w s g c E I):=by
 obtain ⟨w0,hw0⟩:∃w0,w0=w.alloc (.cells (Gd.world s gC gE gI cC cE cI g) 29):=⟨_,rfl⟩
 have hg0:w.grownBy w0 none:=by rw [hw0];exact World.grownBy_alloc _ _ _
 have hO:Hid (Sn.Shown w w0 w.heap.size gC gE gI cC cE cI s g c E I):=by
  refine ⟨?_,hL.on hg0,hg0⟩
  rw [hw0]
  exact (Arr.world (heap_alloc_new w _)).lie
 have cc:=hide (fun x (hx:Gd.Lists x gC gE gI c E I)=>snCheck_any s g c E I gC gE gI cC cE cI x hx hc hcE)
 have cw:=hide (fun x (hx:Gd.Lists x gC gE gI c E I)=>written_any s g c E I gC gE gI cC cE cI x hx)
 clear hL hg0 hc hcE
 unfold Gd.world at hw0 cc cw ⊢
 go_enter Try.func7,Try.ntmps7
 go_upto_region 1 with fail
 rw [←hw0]
 clear hw0
 obtain ⟨B,hBe⟩:∃B,w.heap.size=B:=⟨_,rfl⟩
 rw [hBe] at hO ⊢
 clear hBe
 obtain ⟨b0,b1,b2,b3,b4,b5,b6,b7,b8,b9,b10⟩:=(uh hO).box.eleven
 go_wp2_with fail
 refine (uh cc _ (uh hO).lists).mono ?_
 rintro e w1 ⟨r,rfl,hr,hg⟩
 have hO1:=hide ((uh hO).on hg)
 have HR:=hide hr
 clear hg hO cc b0 b1 b2 b3 b4 b5 b6 b7 b8 b9 b10 hr
 by_cases h0:r=0
 ·have h0':(r != 0)=false:=by simp [h0]
  have H0:=hide h0
  obtain ⟨b0,b1,b2,b3,b4,b5,b6,b7,b8,b9,b10⟩:=(uh hO1).box.eleven
  clear h0
  go_wp2_with fail
  refine (uh cw _ (uh hO1).lists).mono ?_
  rintro e w2 ⟨v,rfl,hown,hg⟩
  have hfin:Hid (Sn.Encodes w s g c E I (.returned (.tuple #[v,.int .i64 0])) w2):=by
   have e:=uh HR
   rw [uh H0] at e
   exact ⟨v,0,rfl,e,fun h=>absurd rfl h,fun _=>hown.mono (uh hO1).grown.size,gtr (uh hO1).grown hg⟩
  clear hown hg b0 b1 b2 b3 b4 b5 b6 b7 b8 b9 b10 hO1 cw
  go_wp2
  go_ret2
  exact uh hfin
 ·have h0':(r != 0)=true:=by simp [h0]
  have hfin:Hid (Sn.Encodes w s g c E I (.returned (.tuple #[.slice none 0 0,.int .i64 r])) w1):=⟨_,r,rfl,uh HR,fun _=>rfl,fun h=>absurd h h0,(uh hO1).grown⟩
  clear h0
  go_wp2
  go_ret2
  exact uh hfin


open Go.RowKit

structure Sn.Rd (x:World) (R G k:Nat):Prop where
 cell:∃p C,Lie x R 114 1 (fun _=>.slice (some ⟨G,p,none⟩) (918 - k) C)∧(k<918→p=k)∧918 - k≤C∧C≤9223372036854775807

theorem Sn.Rd.on {x y:World} {R G k:Nat} (h:Sn.Rd x R G k) (hg:x.grownBy y none):Sn.Rd y R G k:=by
 obtain ⟨p,C,hl,h1,h2,h3⟩:=h.cell
 exact ⟨p,C,hl.on hg,h1,h2,h3⟩

theorem Sn.Rd.other {x:World} {R G k:Nat} (h:Sn.Rd x R G k) {q:Nat} (hq:q≠R) (i:Nat) (u:Value):Sn.Rd (x.setCell ⟨q,i,none⟩ u) R G k:=by
 obtain ⟨p,C,hl,h1,h2,h3⟩:=h.cell
 exact ⟨p,C,hl.other hq i u,h1,h2,h3⟩

theorem Sn.Rd.others {x:World} {R G k:Nat} (h:Sn.Rd x R G k) {q:Nat} (hq:q≠R) (o:Nat) (vs:List Value):Sn.Rd (x.setCells q o vs) R G k:=by
 obtain ⟨p,C,hl,h1,h2,h3⟩:=h.cell
 exact ⟨p,C,hl.others hq o vs,h1,h2,h3⟩

def Sn.Goes (x:World) (R G k n:Nat) (e:Ending) (x':World):Prop :=
 ∃u C,e=.returned (.slice (some ⟨G,k,none⟩) n C)∧n≤C∧x'=x.setCell ⟨R,0,none⟩ u∧Sn.Rd x' R G (k+n)

set_option maxRecDepth 8000 in
set_option maxHeartbeats 1600000 in
theorem snNext_any (R G k n:Nat) (x:World) (hR:Sn.Rd x R G k) (h0:0<n) (hn:k+n≤918) :
  Calls Try.prog 67 #[.pointer (some ⟨R,0,none⟩),.int .i64 (n:Int)] x (Sn.Goes x R G k n):=by
 obtain ⟨p,C,hl,h1,h2,h3⟩:=hR.cell
 obtain rfl:p=k:=h1 (by omega)
 obtain ⟨L,hL⟩:∃L,L=918 - p:=⟨_,rfl⟩
 rw [←hL] at hl h2
 have r0:x.cell? ⟨R,0,none⟩=some (.slice (some ⟨G,p,none⟩) L C):=hl.cell (c:=0) (by omega)
 have fR:=hl.free
 have q1:¬(n:Int)<0:=by omega
 have q2:(n:Int)≤(C:Int):=by omega
 have q3:(n:Int)≤(L:Int):=by omega
 have hfin:Hid (∀q,(p+n<918→q=p+n)→Sn.Goes x R G p n (.returned (.slice (some ⟨G,p,none⟩) n C)) (x.setCell ⟨R,0,none⟩ (.slice (some ⟨G,q,none⟩) (L - n) (C - n)))):=fun q hq=>by
  refine ⟨_,C,rfl,by omega,rfl,⟨q,C - n,?_,hq,by omega,by omega⟩⟩
  refine (hl.store 0 (.slice (some ⟨G,q,none⟩) (L - n) (C - n))).congr fun c hc=>?_
  obtain rfl:c=0:=by omega
  rw [if_pos rfl,show 918 - (p+n)=L - n by omega]
 clear hR hl h1
 by_cases hz:C - n=0
 ·have hf:=hide (uh hfin p (fun h=>by omega))
  rw [hz] at hf
  clear hL hfin
  go_enter Try.func67,Try.ntmps67
  go_wp2
  go_ret
  exact uh hf
 ·have hf:=hide (uh hfin (p+n) (fun _=>rfl))
  clear hL hfin
  go_enter Try.func67,Try.ntmps67
  go_wp2
  go_ret
  exact uh hf

structure Sn.Src (x:World) (G:Nat) (F:Nat→Int):Prop where
 lt:G<x.heap.size
 cell:∀i,i<918→x.cell? ⟨G,i,none⟩=some (.int .u8 (F i))
 byte:∀i,0≤F i∧F i≤255

theorem Sn.Src.on {x y:World} {G:Nat} {F:Nat→Int} {r:Option Nat} (h:Sn.Src x G F) (hg:x.grownBy y r) (hr:r≠some G):Sn.Src y G F :=
 ⟨Nat.lt_of_lt_of_le h.lt hg.size,fun i hi=>(gce hg G i h.lt hr).trans (h.cell i hi),h.byte⟩

theorem Sn.Src.set {x:World} {G:Nat} {F:Nat→Int} (h:Sn.Src x G F) {q:Nat} (hq:q≠G) (i:Nat) (u:Value):Sn.Src (x.setCell ⟨q,i,none⟩ u) G F :=
 h.on (gs0 x q i u) (by simpa using hq)

theorem Sn.Src.sets {x:World} {G:Nat} {F:Nat→Int} (h:Sn.Src x G F) {q:Nat} (hq:q≠G) (o:Nat) (vs:List Value):Sn.Src (x.setCells q o vs) G F :=
 h.on (gss vs o x (World.grownBy.refl _ _)) (by simpa using hq)

theorem Sn.or_byte (v b:Int) (h0:0≤v) (h1:v<72057594037927936) (b0:0≤b) (b1:b≤255):bits BinOp.or IntKind.u64 (IntKind.u64.wrap (v*256)) b=v*256+b:=by
 obtain ⟨n,rfl⟩:∃n:Nat,v=(n:Int):=⟨v.toNat,by omega⟩
 obtain ⟨m,rfl⟩:∃n:Nat,b=(n:Int):=⟨b.toNat,by omega⟩
 rw [Sn.wrap64,show (n:Int)*256 % 18446744073709551616=((n*256:Nat):Int) by omega,bits_or_u64_nat (n*256) m (by omega) (by omega)]
 have h:n*2 ^ 8+m=n*2 ^ 8 ||| m:=by
  rw [←Nat.shiftLeft_eq]
  exact Nat.shiftLeft_add_eq_or_of_lt (by omega) n
 show ((n*2 ^ 8 ||| m:Nat):Int)=_
 rw [←h]
 show ((n*256+m:Nat):Int)=_
 omega

def Sn.Nums (x:World) (R G k n:Nat) (v:Int) (e:Ending) (x':World):Prop :=
 ∃u,e=.returned (.int .u64 v)∧x'=x.setCell ⟨R,0,none⟩ u∧Sn.Rd x' R G (k+n)

set_option maxRecDepth 8000 in
set_option maxHeartbeats 1600000 in
theorem snNumber_any (R G k n:Nat) (F:Nat→Int) (x:World) (hR:Sn.Rd x R G k) (hS:Sn.Src x G F) (hRG:R≠G) (h0:0<n) (h8:n≤8) (hn:k+n≤918) :
  Calls Try.prog 66 #[.pointer (some ⟨R,0,none⟩),.int .i64 (n:Int)] x (Sn.Nums x R G k n (Sn.be (Sn.cut F k n))):=by
 have cn:=hide (snNext_any R G k n x hR h0 hn)
 have hS':=hide hS
 have HRG:=hide hRG
 have H8:=hide h8
 have HN:=hide hn
 clear hR hS hRG h0 h8 hn
 go_enter Try.func66,Try.ntmps66
 go_wp2_with fail
 refine (uh cn).mono ?_
 rintro e y ⟨u,C,rfl,hC,hy,hRd⟩
 have hY:=hide (And.intro hy hRd)
 have hSy:Hid (Sn.Src y G F):=by
  show Sn.Src y G F
  rw [hy]
  exact (uh hS').set (uh HRG) _ _
 clear cn hC hy hRd hS'
 go_wp2_with fail
 go_loop [5,7,12] (fun v5 v7 v12=>∃i:Nat,i≤n∧v5=.int .u64 (Sn.be (Sn.cut F k i))∧v12=.int .i64 (i:Int)) (fun _ _ v12=>20 - (intOf v12).toNat)
 case atStart=>exact ⟨0,by omega,rfl,rfl⟩
 case round =>
  obtain ⟨i,hi,rfl,rfl⟩:=hrel
  by_cases hlt:i<n
  ·have hlt':(i:Int)<(n:Int):=by omega
   have HL:=hide hlt
   have hi8:(i:Int)<8:=by have:=uh H8;omega
   have u0:y.cell? ⟨G,k+i,none⟩=some (.int .u8 (F (k+i))):=(uh hSy).cell (k+i) (by have:=uh HN;omega)
   obtain ⟨v0,v1⟩:=Sn.be_bound i F k (fun j _=>(uh hSy).byte _)
   have v2:Sn.be (Sn.cut F k i)<72057594037927936:=by
    have h7:i≤7:=by have:=uh H8;omega
    have:(256:Int) ^ i≤256 ^ 7:=by
     rcases (show i=0∨i=1∨i=2∨i=3∨i=4∨i=5∨i=6∨i=7 by omega) with rfl | rfl | rfl | rfl | rfl | rfl | rfl | rfl <;> decide
    omega
   have hor:=Sn.or_byte (Sn.be (Sn.cut F k i)) (F (k+i)) v0 v2 ((uh hSy).byte _).1 ((uh hSy).byte _).2
   have hmo:=hide (Sn.be_more (Sn.cut F k i) (F (k+i)))
   rw [←Sn.cut_more] at hmo
   rw [←uh hmo] at hor
   have hw:IntKind.u64.wrap (F (k+i))=F (k+i):=by
    rw [Sn.wrap64]
    have:=(uh hSy).byte (k+i)
    omega
   obtain ⟨X,hX⟩:∃X,Sn.be (Sn.cut F k i)=X:=⟨_,rfl⟩
   rw [hX] at hor ⊢
   clear hlt hi hX v0 v1 v2 hmo
   go_wp2
   go_round
   case rel=>exact ⟨i+1,by have:=uh HL;omega,rfl,by go_num⟩
   case measure=>simp [intOf];have:=uh HL;have:=uh H8;omega
  ·obtain rfl:i=n:=by omega
   have hge:¬(i:Int)<(i:Int):=by omega
   have hfin:Hid (Sn.Nums x R G k i (Sn.be (Sn.cut F k i)) (.returned (.int .u64 (Sn.be (Sn.cut F k i)))) y):=⟨u,rfl,(uh hY).1,(uh hY).2⟩
   clear hlt hi
   go_wp2
   go_ret
   exact uh hfin


open Go.RowKit

set_option maxRecDepth 8000 in
set_option maxHeartbeats 6400000 in
theorem itemOf_any (G k C:Nat) (F:Nat→Int) (x:World) (hS:Sn.Src x G F) (hk:k+4≤918) :
  Calls Try.prog 69 #[.slice (some ⟨G,k,none⟩) 4 C] x (Says x (.agg #[.int .i64 (F k),.int .i64 (F (k+1)),.int .i64 (F (k+2)),.int .i64 (F (k+3))])):=by
 obtain ⟨y,hy⟩:∃y,y=x.alloc (.cells #[.int .i64 0,.int .i64 0,.int .i64 0,.int .i64 0] 47):=⟨_,rfl⟩
 have hg:Hid (x.grownBy y none):=by show x.grownBy y none;rw [hy];exact World.grownBy_alloc _ _ _
 have hR:Hid (Lie y x.heap.size 47 4 (fun _=>.int .i64 0)):=by
  show Lie y _ _ _ _
  rw [hy]
  refine (Arr.lit (heap_alloc_new x _)).lie.congr fun c hc=>?_
  have:c<4:=hc
  rcases (show c=0∨c=1∨c=2∨c=3 by omega) with rfl | rfl | rfl | rfl <;> rfl
 have hSy:=hide (hS.on (uh hg) (by simp))
 have HK:=hide hk
 clear hS hk
 go_enter Try.func69,Try.ntmps69
 go_upto_region 1 with fail
 rw [←hy]
 clear hy
 obtain ⟨B,hB⟩:∃B,x.heap.size=B:=⟨_,rfl⟩
 have hBx:Hid (x.heap.size≤B):=(show x.heap.size≤B by omega)
 rw [hB] at hR ⊢
 clear hB
 have c0:=(uh hSy).cell (k) (by have:=uh HK;omega)
 have c1:=(uh hSy).cell (k+1) (by have:=uh HK;omega)
 have c2:=(uh hSy).cell (k+2) (by have:=uh HK;omega)
 have c3:=(uh hSy).cell (k+3) (by have:=uh HK;omega)
 have tw:∀j,IntKind.i64.wrap (F j)=F j:=fun j=>by
  have:=(uh hSy).byte j
  rw [IntKind.wrap_i64]
  omega
 have fR:=(uh hR).free
 have z0:y.cell? ⟨B,0,none⟩=some (.int .i64 0):=(uh hR).cell (c:=0) (by omega)
 have z1:y.cell? ⟨B,1,none⟩=some (.int .i64 0):=(uh hR).cell (c:=1) (by omega)
 have z2:y.cell? ⟨B,2,none⟩=some (.int .i64 0):=(uh hR).cell (c:=2) (by omega)
 have z3:y.cell? ⟨B,3,none⟩=some (.int .i64 0):=(uh hR).cell (c:=3) (by omega)
 have hgo:Hid (∀l m,x.grownBy ((y.setCells B 0 l).drewN m) none):=fun l m=>gdw (own_sets (uh hBx) l 0 y (uh hg)) m
 go_region
 go_wp2
 refine bodyPost_ret (v:=.agg #[.int .i64 (F k),.int .i64 (F (k+1)),.int .i64 (F (k+2)),.int .i64 (F (k+3))]) (by simp [results,Try.results69,go_sem,z0,z1,z2,z3]) rfl ?_
 exact ⟨rfl,uh hgo [_,_,_,_] 1⟩

set_option maxRecDepth 8000 in
set_option maxHeartbeats 6400000 in
theorem entOf_any (G k C:Nat) (F:Nat→Int) (x:World) (hS:Sn.Src x G F) (hk:k+11≤918) :
  Calls Try.prog 68 #[.slice (some ⟨G,k,none⟩) 11 C] x (Says x (.agg #[.int .i64 (F k),.int .i64 (F (k+1)),.int .i64 (F (k+2)),.int .i64 (F (k+3)),.int .i64 (F (k+4)),.int .i64 (F (k+5)),.int .i64 (F (k+6)),.int .i64 (F (k+7)),.int .i64 (F (k+8)),.int .i64 (F (k+9)),.int .i64 (F (k+10))])):=by
 obtain ⟨y,hy⟩:∃y,y=x.alloc (.cells #[.int .i64 0,.int .i64 0,.int .i64 0,.int .i64 0,.int .i64 0,.int .i64 0,.int .i64 0,.int .i64 0,.int .i64 0,.int .i64 0,.int .i64 0] 45):=⟨_,rfl⟩
 have hg:Hid (x.grownBy y none):=by show x.grownBy y none;rw [hy];exact World.grownBy_alloc _ _ _
 have hR:Hid (Lie y x.heap.size 45 11 (fun _=>.int .i64 0)):=by
  show Lie y _ _ _ _
  rw [hy]
  refine (Arr.lit (heap_alloc_new x _)).lie.congr fun c hc=>?_
  have:c<11:=hc
  rcases (show c=0∨c=1∨c=2∨c=3∨c=4∨c=5∨c=6∨c=7∨c=8∨c=9∨c=10 by omega) with rfl | rfl | rfl | rfl | rfl | rfl | rfl | rfl | rfl | rfl | rfl <;> rfl
 have hSy:=hide (hS.on (uh hg) (by simp))
 have HK:=hide hk
 clear hS hk
 go_enter Try.func68,Try.ntmps68
 go_upto_region 1 with fail
 rw [←hy]
 clear hy
 obtain ⟨B,hB⟩:∃B,x.heap.size=B:=⟨_,rfl⟩
 have hBx:Hid (x.heap.size≤B):=(show x.heap.size≤B by omega)
 rw [hB] at hR ⊢
 clear hB
 have tw:∀j,IntKind.i64.wrap (F j)=F j:=fun j=>by
  have:=(uh hSy).byte j
  rw [IntKind.wrap_i64]
  omega
 have fR:=(uh hR).free
 have z0:y.cell? ⟨B,0,none⟩=some (.int .i64 0):=(uh hR).cell (c:=0) (by omega)
 have z1:y.cell? ⟨B,1,none⟩=some (.int .i64 0):=(uh hR).cell (c:=1) (by omega)
 have z2:y.cell? ⟨B,2,none⟩=some (.int .i64 0):=(uh hR).cell (c:=2) (by omega)
 have z3:y.cell? ⟨B,3,none⟩=some (.int .i64 0):=(uh hR).cell (c:=3) (by omega)
 have z4:y.cell? ⟨B,4,none⟩=some (.int .i64 0):=(uh hR).cell (c:=4) (by omega)
 have z5:y.cell? ⟨B,5,none⟩=some (.int .i64 0):=(uh hR).cell (c:=5) (by omega)
 have z6:y.cell? ⟨B,6,none⟩=some (.int .i64 0):=(uh hR).cell (c:=6) (by omega)
 have z7:y.cell? ⟨B,7,none⟩=some (.int .i64 0):=(uh hR).cell (c:=7) (by omega)
 have z8:y.cell? ⟨B,8,none⟩=some (.int .i64 0):=(uh hR).cell (c:=8) (by omega)
 have z9:y.cell? ⟨B,9,none⟩=some (.int .i64 0):=(uh hR).cell (c:=9) (by omega)
 have z10:y.cell? ⟨B,10,none⟩=some (.int .i64 0):=(uh hR).cell (c:=10) (by omega)
 have hgo:Hid (∀l m,x.grownBy ((y.setCells B 0 l).drewN m) none):=fun l m=>gdw (own_sets (uh hBx) l 0 y (uh hg)) m
 have hS0:y.drew.cell? ⟨G,k,none⟩=some (.int .u8 (F k))∧y.drew.cell? ⟨G,k+1,none⟩=some (.int .u8 (F (k+1)))∧y.drew.cell? ⟨G,k+2,none⟩=some (.int .u8 (F (k+2)))∧y.drew.cell? ⟨G,k+3,none⟩=some (.int .u8 (F (k+3)))∧y.drew.cell? ⟨G,k+4,none⟩=some (.int .u8 (F (k+4)))∧y.drew.cell? ⟨G,k+5,none⟩=some (.int .u8 (F (k+5)))∧y.drew.cell? ⟨G,k+6,none⟩=some (.int .u8 (F (k+6)))∧y.drew.cell? ⟨G,k+7,none⟩=some (.int .u8 (F (k+7)))∧y.drew.cell? ⟨G,k+8,none⟩=some (.int .u8 (F (k+8)))∧y.drew.cell? ⟨G,k+9,none⟩=some (.int .u8 (F (k+9)))∧y.drew.cell? ⟨G,k+10,none⟩=some (.int .u8 (F (k+10))):=by
  have h:=(uh hSy).on (gd1 (World.grownBy.refl y none)) (by simp)
  have hk:=uh HK
  exact ⟨h.cell (k) (by omega),h.cell (k+1) (by omega),h.cell (k+2) (by omega),h.cell (k+3) (by omega),h.cell (k+4) (by omega),h.cell (k+5) (by omega),h.cell (k+6) (by omega),h.cell (k+7) (by omega),h.cell (k+8) (by omega),h.cell (k+9) (by omega),h.cell (k+10) (by omega)⟩
 clear hSy hR hg hBx HK
 refine wp_region_till (h:=45) (S:=fun x=>x.cell? ⟨G,k,none⟩=some (.int .u8 (F k))∧x.cell? ⟨G,k+1,none⟩=some (.int .u8 (F (k+1)))∧x.cell? ⟨G,k+2,none⟩=some (.int .u8 (F (k+2)))∧x.cell? ⟨G,k+3,none⟩=some (.int .u8 (F (k+3)))∧x.cell? ⟨G,k+4,none⟩=some (.int .u8 (F (k+4)))∧x.cell? ⟨G,k+5,none⟩=some (.int .u8 (F (k+5)))∧x.cell? ⟨G,k+6,none⟩=some (.int .u8 (F (k+6)))∧x.cell? ⟨G,k+7,none⟩=some (.int .u8 (F (k+7)))∧x.cell? ⟨G,k+8,none⟩=some (.int .u8 (F (k+8)))∧x.cell? ⟨G,k+9,none⟩=some (.int .u8 (F (k+9)))∧x.cell? ⟨G,k+10,none⟩=some (.int .u8 (F (k+10)))) (by kernel_rfl) ?_
 refine wtk (i:=0) (v:=?_) [45] rfl (by kernel_rfl) (by kernel_rfl) (by kernel_rfl) (by kernel_rfl) (fun _ _ _ h=>h) hS0 (Or.inl ⟨by rfl,?_⟩) ?_
 rotate_left
 ·intro x hSx
  try dsimp only at hSx
  go_simp
  try with_reducible rfl
 simp only [Act.put]
 refine wtk (i:=1) (v:=?_) [45] rfl (by kernel_rfl) (by kernel_rfl) (by kernel_rfl) (by kernel_rfl) (fun _ _ _ h=>h) hS0 (Or.inl ⟨by rfl,?_⟩) ?_
 rotate_left
 ·intro x hSx
  try dsimp only at hSx
  go_simp
  try with_reducible rfl
 simp only [Act.put]
 refine wtk (i:=2) (v:=?_) [45] rfl (by kernel_rfl) (by kernel_rfl) (by kernel_rfl) (by kernel_rfl) (fun _ _ _ h=>h) hS0 (Or.inl ⟨by rfl,?_⟩) ?_
 rotate_left
 ·intro x hSx
  try dsimp only at hSx
  go_simp
  try with_reducible rfl
 simp only [Act.put]
 refine wtk (i:=3) (v:=?_) [45] rfl (by kernel_rfl) (by kernel_rfl) (by kernel_rfl) (by kernel_rfl) (fun _ _ _ h=>h) hS0 (Or.inl ⟨by rfl,?_⟩) ?_
 rotate_left
 ·intro x hSx
  try dsimp only at hSx
  go_simp
  try with_reducible rfl
 simp only [Act.put]
 refine wtk (i:=4) (v:=?_) [45] rfl (by kernel_rfl) (by kernel_rfl) (by kernel_rfl) (by kernel_rfl) (fun _ _ _ h=>h) hS0 (Or.inl ⟨by rfl,?_⟩) ?_
 rotate_left
 ·intro x hSx
  try dsimp only at hSx
  go_simp
  try with_reducible rfl
 simp only [Act.put]
 refine wtk (i:=5) (v:=?_) [45] rfl (by kernel_rfl) (by kernel_rfl) (by kernel_rfl) (by kernel_rfl) (fun _ _ _ h=>h) hS0 (Or.inl ⟨by rfl,?_⟩) ?_
 rotate_left
 ·intro x hSx
  try dsimp only at hSx
  go_simp
  try with_reducible rfl
 simp only [Act.put]
 refine wtk (i:=6) (v:=?_) [45] rfl (by kernel_rfl) (by kernel_rfl) (by kernel_rfl) (by kernel_rfl) (fun _ _ _ h=>h) hS0 (Or.inl ⟨by rfl,?_⟩) ?_
 rotate_left
 ·intro x hSx
  try dsimp only at hSx
  go_simp
  try with_reducible rfl
 simp only [Act.put]
 refine wtk (i:=7) (v:=?_) [45] rfl (by kernel_rfl) (by kernel_rfl) (by kernel_rfl) (by kernel_rfl) (fun _ _ _ h=>h) hS0 (Or.inl ⟨by rfl,?_⟩) ?_
 rotate_left
 ·intro x hSx
  try dsimp only at hSx
  go_simp
  try with_reducible rfl
 simp only [Act.put]
 refine wtk (i:=8) (v:=?_) [45] rfl (by kernel_rfl) (by kernel_rfl) (by kernel_rfl) (by kernel_rfl) (fun _ _ _ h=>h) hS0 (Or.inl ⟨by rfl,?_⟩) ?_
 rotate_left
 ·intro x hSx
  try dsimp only at hSx
  go_simp
  try with_reducible rfl
 simp only [Act.put]
 refine wtk (i:=9) (v:=?_) [45] rfl (by kernel_rfl) (by kernel_rfl) (by kernel_rfl) (by kernel_rfl) (fun _ _ _ h=>h) hS0 (Or.inl ⟨by rfl,?_⟩) ?_
 rotate_left
 ·intro x hSx
  try dsimp only at hSx
  go_simp
  try with_reducible rfl
 simp only [Act.put]
 refine wtk (i:=10) (v:=?_) [45] rfl (by kernel_rfl) (by kernel_rfl) (by kernel_rfl) (by kernel_rfl) (fun _ _ _ h=>h) hS0 (Or.inl ⟨by rfl,?_⟩) ?_
 rotate_left
 ·intro x hSx
  try dsimp only at hSx
  go_simp
  try with_reducible rfl
 simp only [Act.put]
 refine wtk (i:=11) (v:=?_) [45] rfl (by kernel_rfl) (by kernel_rfl) (by kernel_rfl) (by kernel_rfl) (fun _ _ _ h=>h) hS0 (Or.inl ⟨by rfl,?_⟩) ?_
 rotate_left
 ·intro x hSx
  try dsimp only at hSx
  go_simp
  try with_reducible rfl
 simp only [Act.put]
 refine wtk (i:=12) (v:=?_) [45] rfl (by kernel_rfl) (by kernel_rfl) (by kernel_rfl) (by kernel_rfl) (fun _ _ _ h=>h) hS0 (Or.inl ⟨by rfl,?_⟩) ?_
 rotate_left
 ·intro x hSx
  try dsimp only at hSx
  go_simp
  try with_reducible rfl
 simp only [Act.put]
 refine wtk (i:=13) (v:=?_) [45] rfl (by kernel_rfl) (by kernel_rfl) (by kernel_rfl) (by kernel_rfl) (fun _ _ _ h=>h) hS0 (Or.inl ⟨by rfl,?_⟩) ?_
 rotate_left
 ·intro x hSx
  try dsimp only at hSx
  go_simp
  try with_reducible rfl
 simp only [Act.put]
 refine wtk (i:=14) (v:=?_) [45] rfl (by kernel_rfl) (by kernel_rfl) (by kernel_rfl) (by kernel_rfl) (fun _ _ _ h=>h) hS0 (Or.inl ⟨by rfl,?_⟩) ?_
 rotate_left
 ·intro x hSx
  try dsimp only at hSx
  go_simp
  try with_reducible rfl
 simp only [Act.put]
 refine wtk (i:=15) (v:=?_) [45] rfl (by kernel_rfl) (by kernel_rfl) (by kernel_rfl) (by kernel_rfl) (fun _ _ _ h=>h) hS0 (Or.inl ⟨by rfl,?_⟩) ?_
 rotate_left
 ·intro x hSx
  try dsimp only at hSx
  go_simp
  try with_reducible rfl
 simp only [Act.put]
 refine wtk (i:=16) (v:=?_) [45] rfl (by kernel_rfl) (by kernel_rfl) (by kernel_rfl) (by kernel_rfl) (fun _ _ _ h=>h) hS0 (Or.inl ⟨by rfl,?_⟩) ?_
 rotate_left
 ·intro x hSx
  try dsimp only at hSx
  go_simp
  try with_reducible rfl
 simp only [Act.put]
 refine wtk (i:=17) (v:=?_) [45] rfl (by kernel_rfl) (by kernel_rfl) (by kernel_rfl) (by kernel_rfl) (fun _ _ _ h=>h) hS0 (Or.inl ⟨by rfl,?_⟩) ?_
 rotate_left
 ·intro x hSx
  try dsimp only at hSx
  go_simp
  try with_reducible rfl
 simp only [Act.put]
 refine wtk (i:=18) (v:=?_) [45] rfl (by kernel_rfl) (by kernel_rfl) (by kernel_rfl) (by kernel_rfl) (fun _ _ _ h=>h) hS0 (Or.inl ⟨by rfl,?_⟩) ?_
 rotate_left
 ·intro x hSx
  try dsimp only at hSx
  go_simp
  try with_reducible rfl
 simp only [Act.put]
 refine wtk (i:=19) (v:=?_) [45] rfl (by kernel_rfl) (by kernel_rfl) (by kernel_rfl) (by kernel_rfl) (fun _ _ _ h=>h) hS0 (Or.inl ⟨by rfl,?_⟩) ?_
 rotate_left
 ·intro x hSx
  try dsimp only at hSx
  go_simp
  try with_reducible rfl
 simp only [Act.put]
 refine wtk (i:=20) (v:=?_) [45] rfl (by kernel_rfl) (by kernel_rfl) (by kernel_rfl) (by kernel_rfl) (fun _ _ _ h=>h) hS0 (Or.inl ⟨by rfl,?_⟩) ?_
 rotate_left
 ·intro x hSx
  try dsimp only at hSx
  go_simp
  try with_reducible rfl
 simp only [Act.put]
 refine wtk (i:=21) (v:=?_) [45] rfl (by kernel_rfl) (by kernel_rfl) (by kernel_rfl) (by kernel_rfl) (fun _ _ _ h=>h) hS0 (Or.inl ⟨by rfl,?_⟩) ?_
 rotate_left
 ·intro x hSx
  try dsimp only at hSx
  go_simp
  try with_reducible rfl
 simp only [Act.put]
 refine wtk (i:=22) (v:=?_) [45] rfl (by kernel_rfl) (by kernel_rfl) (by kernel_rfl) (by kernel_rfl) (fun _ _ _ h=>h) hS0 (Or.inl ⟨by rfl,?_⟩) ?_
 rotate_left
 ·intro x hSx
  try dsimp only at hSx
  go_simp
  try with_reducible rfl
 simp only [Act.put]
 refine wtk (i:=23) (v:=?_) [45] rfl (by kernel_rfl) (by kernel_rfl) (by kernel_rfl) (by kernel_rfl) (fun _ _ _ h=>h) hS0 (Or.inl ⟨by rfl,?_⟩) ?_
 rotate_left
 ·intro x hSx
  try dsimp only at hSx
  go_simp
  try with_reducible rfl
 simp only [Act.put]
 refine wtk (i:=24) (v:=?_) [45] rfl (by kernel_rfl) (by kernel_rfl) (by kernel_rfl) (by kernel_rfl) (fun _ _ _ h=>h) hS0 (Or.inl ⟨by rfl,?_⟩) ?_
 rotate_left
 ·intro x hSx
  try dsimp only at hSx
  go_simp
  try with_reducible rfl
 simp only [Act.put]
 refine wtk (i:=25) (v:=?_) [45] rfl (by kernel_rfl) (by kernel_rfl) (by kernel_rfl) (by kernel_rfl) (fun _ _ _ h=>h) hS0 (Or.inl ⟨by rfl,?_⟩) ?_
 rotate_left
 ·intro x hSx
  try dsimp only at hSx
  go_simp
  try with_reducible rfl
 simp only [Act.put]
 refine wtk (i:=26) (v:=?_) [45] rfl (by kernel_rfl) (by kernel_rfl) (by kernel_rfl) (by kernel_rfl) (fun _ _ _ h=>h) hS0 (Or.inl ⟨by rfl,?_⟩) ?_
 rotate_left
 ·intro x hSx
  try dsimp only at hSx
  go_simp
  try with_reducible rfl
 simp only [Act.put]
 refine wtk (i:=27) (v:=?_) [45] rfl (by kernel_rfl) (by kernel_rfl) (by kernel_rfl) (by kernel_rfl) (fun _ _ _ h=>h) hS0 (Or.inl ⟨by rfl,?_⟩) ?_
 rotate_left
 ·intro x hSx
  try dsimp only at hSx
  go_simp
  try with_reducible rfl
 simp only [Act.put]
 refine wtk (i:=28) (v:=?_) [45] rfl (by kernel_rfl) (by kernel_rfl) (by kernel_rfl) (by kernel_rfl) (fun _ _ _ h=>h) hS0 (Or.inl ⟨by rfl,?_⟩) ?_
 rotate_left
 ·intro x hSx
  try dsimp only at hSx
  go_simp
  try with_reducible rfl
 simp only [Act.put]
 refine wtk (i:=29) (v:=?_) [45] rfl (by kernel_rfl) (by kernel_rfl) (by kernel_rfl) (by kernel_rfl) (fun _ _ _ h=>h) hS0 (Or.inl ⟨by rfl,?_⟩) ?_
 rotate_left
 ·intro x hSx
  try dsimp only at hSx
  go_simp
  try with_reducible rfl
 simp only [Act.put]
 refine wtk (i:=30) (v:=?_) [45] rfl (by kernel_rfl) (by kernel_rfl) (by kernel_rfl) (by kernel_rfl) (fun _ _ _ h=>h) hS0 (Or.inl ⟨by rfl,?_⟩) ?_
 rotate_left
 ·intro x hSx
  try dsimp only at hSx
  go_simp
  try with_reducible rfl
 simp only [Act.put]
 refine wtk (i:=31) (v:=?_) [45] rfl (by kernel_rfl) (by kernel_rfl) (by kernel_rfl) (by kernel_rfl) (fun _ _ _ h=>h) hS0 (Or.inl ⟨by rfl,?_⟩) ?_
 rotate_left
 ·intro x hSx
  try dsimp only at hSx
  go_simp
  try with_reducible rfl
 simp only [Act.put]
 refine wtk (i:=32) (v:=?_) [45] rfl (by kernel_rfl) (by kernel_rfl) (by kernel_rfl) (by kernel_rfl) (fun _ _ _ h=>h) hS0 (Or.inl ⟨by rfl,?_⟩) ?_
 rotate_left
 ·intro x hSx
  try dsimp only at hSx
  go_simp
  try with_reducible rfl
 simp only [Act.put]
 refine wtk (i:=33) (v:=?_) [45] rfl (by kernel_rfl) (by kernel_rfl) (by kernel_rfl) (by kernel_rfl) (fun _ _ _ h=>h) hS0 (Or.inl ⟨by rfl,?_⟩) ?_
 rotate_left
 ·intro x hSx
  try dsimp only at hSx
  go_simp
  try with_reducible rfl
 simp only [Act.put]
 refine wtk (i:=34) (v:=?_) [45] rfl (by kernel_rfl) (by kernel_rfl) (by kernel_rfl) (by kernel_rfl) (fun _ _ _ h=>h) hS0 (Or.inl ⟨by rfl,?_⟩) ?_
 rotate_left
 ·intro x hSx
  try dsimp only at hSx
  go_simp
  try with_reducible rfl
 simp only [Act.put]
 refine wtk (i:=35) (v:=?_) [45] rfl (by kernel_rfl) (by kernel_rfl) (by kernel_rfl) (by kernel_rfl) (fun _ _ _ h=>h) hS0 (Or.inl ⟨by rfl,?_⟩) ?_
 rotate_left
 ·intro x hSx
  try dsimp only at hSx
  go_simp
  try with_reducible rfl
 simp only [Act.put]
 refine wtk (i:=36) (v:=?_) [45] rfl (by kernel_rfl) (by kernel_rfl) (by kernel_rfl) (by kernel_rfl) (fun _ _ _ h=>h) hS0 (Or.inl ⟨by rfl,?_⟩) ?_
 rotate_left
 ·intro x hSx
  try dsimp only at hSx
  go_simp
  try with_reducible rfl
 simp only [Act.put]
 refine wtk (i:=37) (v:=?_) [45] rfl (by kernel_rfl) (by kernel_rfl) (by kernel_rfl) (by kernel_rfl) (fun _ _ _ h=>h) hS0 (Or.inl ⟨by rfl,?_⟩) ?_
 rotate_left
 ·intro x hSx
  try dsimp only at hSx
  go_simp
  try with_reducible rfl
 simp only [Act.put]
 refine wtk (i:=38) (v:=?_) [45] rfl (by kernel_rfl) (by kernel_rfl) (by kernel_rfl) (by kernel_rfl) (fun _ _ _ h=>h) hS0 (Or.inl ⟨by rfl,?_⟩) ?_
 rotate_left
 ·intro x hSx
  try dsimp only at hSx
  go_simp
  try with_reducible rfl
 simp only [Act.put]
 refine wtk (i:=39) (v:=?_) [45] rfl (by kernel_rfl) (by kernel_rfl) (by kernel_rfl) (by kernel_rfl) (fun _ _ _ h=>h) hS0 (Or.inl ⟨by rfl,?_⟩) ?_
 rotate_left
 ·intro x hSx
  try dsimp only at hSx
  go_simp
  try with_reducible rfl
 simp only [Act.put]
 refine wtk (i:=40) (v:=?_) [45] rfl (by kernel_rfl) (by kernel_rfl) (by kernel_rfl) (by kernel_rfl) (fun _ _ _ h=>h) hS0 (Or.inl ⟨by rfl,?_⟩) ?_
 rotate_left
 ·intro x hSx
  try dsimp only at hSx
  go_simp
  try with_reducible rfl
 simp only [Act.put]
 refine wtk (i:=41) (v:=?_) [45] rfl (by kernel_rfl) (by kernel_rfl) (by kernel_rfl) (by kernel_rfl) (fun _ _ _ h=>h) hS0 (Or.inl ⟨by rfl,?_⟩) ?_
 rotate_left
 ·intro x hSx
  try dsimp only at hSx
  go_simp
  try with_reducible rfl
 simp only [Act.put]
 refine wtk (i:=42) (v:=?_) [45] rfl (by kernel_rfl) (by kernel_rfl) (by kernel_rfl) (by kernel_rfl) (fun _ _ _ h=>h) hS0 (Or.inl ⟨by rfl,?_⟩) ?_
 rotate_left
 ·intro x hSx
  try dsimp only at hSx
  go_simp
  try with_reducible rfl
 simp only [Act.put]
 refine wtk (i:=43) (v:=?_) [45] rfl (by kernel_rfl) (by kernel_rfl) (by kernel_rfl) (by kernel_rfl) (fun _ _ _ h=>h) hS0 (Or.inl ⟨by rfl,?_⟩) ?_
 rotate_left
 ·intro x hSx
  try dsimp only at hSx
  go_simp
  try with_reducible rfl
 simp only [Act.put]
 refine wtk (i:=44) (v:=?_) [45] rfl (by kernel_rfl) (by kernel_rfl) (by kernel_rfl) (by kernel_rfl) (fun _ _ _ h=>h) hS0 (Or.inl ⟨by rfl,?_⟩) ?_
 rotate_left
 ·intro x hSx
  try dsimp only at hSx
  go_simp
  try with_reducible rfl
 simp only [Act.put]
 refine wto (j:=45) (by kernel_rfl) rfl (fun K hK=>?_)
 go_simp
 refine hK.out _ _ (fun hx=>absurd (hx.symm.trans (by kernel_rfl)) Bool.false_ne_true) ?_
 clear hK K
 refine wpTill_done (by kernel_rfl) ?_ _
 go_wp2
 refine bodyPost_ret (v:=.agg #[.int .i64 (F k),.int .i64 (F (k+1)),.int .i64 (F (k+2)),.int .i64 (F (k+3)),.int .i64 (F (k+4)),.int .i64 (F (k+5)),.int .i64 (F (k+6)),.int .i64 (F (k+7)),.int .i64 (F (k+8)),.int .i64 (F (k+9)),.int .i64 (F (k+10))]) (by simp [results,Try.results68,go_sem,z0,z1,z2,z3,z4,z5,z6,z7,z8,z9,z10]) rfl ?_
 exact ⟨rfl,uh hgo [_,_,_,_,_,_,_,_,_,_,_] 1⟩


open Go.RowKit

theorem Sn.list_src {w:World} {b o m:Nat} {F:Nat→Value} (h:∀c,c<m→w.cell? ⟨b,o+c,none⟩=some (F c)):∀j v,(Gd.list m F)[j]?=some v→w.cell? ((⟨b,o,none⟩:Addr).add j)=some v:=by
 intro j v hj
 have hlt:j<m:=by
  have:=(List.getElem?_eq_some_iff.1 hj).1
  rwa [Gd.list_len] at this
 rw [Gd.list_at hlt] at hj
 rw [show (⟨b,o,none⟩:Addr).add j=⟨b,o+j,none⟩ by rw [Go.WideShapes.add_plain],h j hlt]
 exact hj

set_option maxHeartbeats 800000 in
theorem snTwinB_any (b o n m cp:Nat) (F:Nat→Value) (w:World) (hn:n≤1000) (hm:m=n*1) (h1:∀c,(F c).oneCell'=true) (hF:∀c,c<m→w.cell? ⟨b,o+c,none⟩=some (F c)) (hb:b<w.heap.size) :
  Calls Try.prog 65 #[.slice (some ⟨b,o,none⟩) n cp] w (Copies w 5 n m F):=by
 have hF':=hide hF
 have h1':=hide h1
 obtain ⟨i0,hi,hz0,hz1,hz2⟩:=info_parts info_byte
 have hsz:(Try.prog.info? 5).map (·.size)=some 1:=by rw [hi];simp [hz1]
 clear hF h1
 go_enter Try.func65,Try.ntmps65
 go_wp2_with (at_make;refine wpList_make_full _ rfl _ _ 25 rfl w.heap.size 5 i0 (.int .u8 0) 1 Try.underlying25 hi hz0 hz1 .i64 .i64 _ _ n rfl rfl rfl rfl ?q3 ?q4 ?q5 ?_)
 any_goals (first | (rw [hz2];omega) | (unfold maxLen;omega) | exact Nat.le_refl _)
 intro w1 hown hgrow
 obtain ⟨cur,hg,hcs⟩:∃cur,w1.heap[w.heap.size]?=some (.cells cur 5 (0,0))∧cur.size=n*1:=by
  rcases hown.2 with ⟨h',_⟩ | ⟨g',cap',cur,h',_,hg,_,_,hcs,_⟩
  ·simp at h'
  ·simp only [Value.slice.injEq,Option.some.injEq,Addr.mk.injEq,and_true,true_and] at h'
   obtain ⟨rfl,rfl⟩:=h'
   exact ⟨cur,hg,hcs⟩
 have hg':=hide hg
 have hgrow':=hide hgrow
 have hcs':=hide hcs
 clear hown hg hgrow hcs hi hz0 hz1 hz2
 obtain ⟨w2,hrun,hrow,hgr2⟩:=run_copy_whole 25 25 3 5 Try.underlying25 1 hsz w.heap.size n n ⟨b,o,none⟩ cp cur _ (uh hg') (Gd.list m F) ((Gd.list_len m F).trans hm) (Sn.list_src fun c hc=>(gce (uh hgrow') b (o+c) hb (by simp)).trans (uh hF' c hc)) (by rw [Gd.list_len,uh hcs',hm]) (Gd.list_one (uh h1'))
 have hfin:=hide (Arr.of_list hrow)
 have hgw:=hide (show w.grownBy w2 none from gow (uh hgrow') hgr2 (fun k e=>by cases e;exact Nat.le_refl _))
 clear hrow hgr2 hb hm hn hsz
 go_wp2
 go_ret
 exact ⟨w.heap.size,rfl,Nat.le_refl _,uh hfin,uh hgw⟩

def Sn.put (B:Nat→Value) (i:Nat) (v:Value):Nat→Value:=fun j=>if j=i then v else B j

structure Sn.Read (w x:World) (P W R G k:Nat) (F:Nat→Int) (B:Nat→Value):Prop where
 res:Lie x P 29 11 (fun j=>#[.int .i64 0,.int .i64 0,.int .i64 0,.int .i64 0,.slice none 0 0,.slice none 0 0,.slice none 0 0,.int .i64 0,.int .i64 0,.int .i64 0,Value.int .i64 0][j]?.getD undef)
 box:Lie x W 29 11 B
 rd:Sn.Rd x R G k
 src:Sn.Src x G F
 lP:w.heap.size≤P
 lW:w.heap.size≤W
 lR:w.heap.size≤R
 lG:G<w.heap.size
 pW:P≠W
 rW:R≠W
 rP:R≠P
 grown:w.grownBy x none

theorem Sn.Read.rG {w x:World} {P W R G k:Nat} {F:Nat→Int} {B:Nat→Value} (h:Sn.Read w x P W R G k F B):R≠G:=by
 have:=h.lR
 have:=h.lG
 omega

theorem Sn.Read.on {w x y:World} {P W R G k:Nat} {F:Nat→Int} {B:Nat→Value} (h:Sn.Read w x P W R G k F B) (hg:x.grownBy y none):Sn.Read w y P W R G k F B :=
 { h with res:=h.res.on hg,box:=h.box.on hg,rd:=h.rd.on hg,src:=h.src.on hg (by simp),grown:=gtr h.grown hg }

theorem Sn.Read.step {w x y:World} {P W R G k k':Nat} {F:Nat→Int} {B:Nat→Value} {u:Value} (h:Sn.Read w x P W R G k F B) (hy:y=x.setCell ⟨R,0,none⟩ u) (hr:Sn.Rd y R G k'):Sn.Read w y P W R G k' F B:=by
 subst hy
 exact { h with res:=h.res.other h.rP _ _,box:=h.box.other h.rW _ _,rd:=hr,src:=h.src.set h.rG _ _,grown:=gsr h.grown ⟨R,0,none⟩ h.lR u }

theorem Sn.Read.field {w x:World} {P W R G k:Nat} {F:Nat→Int} {B:Nat→Value} (h:Sn.Read w x P W R G k F B) (i:Nat) (v:Value):Sn.Read w (x.setCell ⟨W,i,none⟩ v) P W R G k F (Sn.put B i v):=by
 have h1:=h.lW
 have h2:=h.lG
 exact { h with res:=h.res.other h.pW.symm _ _,box:=h.box.store i v,rd:=h.rd.other h.rW.symm _ _,src:=h.src.set (by omega) _ _,grown:=gsr h.grown ⟨W,i,none⟩ h.lW v }

theorem Sn.Read.rows {w x:World} {P W R G k g:Nat} {T:TypeId} {m:Nat} {K:Nat→Value} {F:Nat→Int} {B:Nat→Value} (h:Sn.Read w x P W R G k F B) (hl:Lie x g T m K) (hT:T≠29) (hT2:T≠114) (hg:w.heap.size≤g) (o:Nat) (vs:List Value):Sn.Read w (x.setCells g o vs) P W R G k F B:=by
 obtain ⟨p,C,hc,-⟩:=h.rd.cell
 have n1:=hl.type7 h.res hT
 have n2:=hl.type7 h.box hT
 have n3:=hl.type7 hc hT2
 have h2:=h.lG
 exact { h with res:=h.res.others n1 _ _,box:=h.box.others n2 _ _,rd:=h.rd.others n3 _ _,src:=h.src.sets (by omega) _ _,grown:=own_sets hg vs o x h.grown }

def Sn.gd (B:Nat→Value) (g:Nat→Int) (t:Nat):Nat→Value:=fun j=>if 7≤j∧j<7+t then .int .i64 (g (j - 7)) else B j

theorem Sn.gd_more (B:Nat→Value) (g:Nat→Int) (t:Nat):Sn.put (Sn.gd B g t) (7+t) (.int .i64 (g t))=Sn.gd B g (t+1):=by
 funext j
 unfold Sn.put Sn.gd
 by_cases e:j=7+t
 ·rw [if_pos e,if_pos (by omega),show j - 7=t by omega]
 ·rw [if_neg e]
  by_cases e2:7≤j∧j<7+t
  ·rw [if_pos e2,if_pos (by omega)]
  ·rw [if_neg e2,if_neg (by omega)]

theorem Sn.gd_none (B:Nat→Value) (g:Nat→Int):Sn.gd B g 0=B:=by
 funext j
 unfold Sn.gd
 rw [if_neg (by omega)]

def Sn.fill (f:Nat→Nat→Int) (n:Nat):Nat→Nat→Int:=fun i j=>if i<n then f i j else 0

theorem Sn.fill_more (f:Nat→Nat→Int) (n:Nat):En.put (Sn.fill f n) n (f n)=Sn.fill f (n+1):=by
 funext i j
 unfold Sn.fill
 by_cases e:i=n
 ·subst e
  rw [En.put_same,if_pos (by omega)]
 ·rw [En.put_other e]
  by_cases e2:i<n
  ·rw [if_pos e2,if_pos (by omega)]
  ·rw [if_neg e2,if_neg (by omega)]

theorem Sn.fill_none (f:Nat→Nat→Int):Sn.fill f 0=fun _ _=>0:=by
 funext i j
 unfold Sn.fill
 rw [if_neg (by omega)]


open Go.RowKit

set_option maxRecDepth 16000 in
set_option maxHeartbeats 12800000 in
theorem snReads_any (G cap:Nat) (F:Nat→Int) (w:World) (hS:Sn.Src w G F) (hc:918≤cap) (hm:cap≤9223372036854775807) :
  Calls Try.prog 43 #[.slice (some ⟨G,0,none⟩) 918 cap] w (Gd.Worlds w (Sn.rs F) (Sn.rg F) (Sn.rc F) (Sn.rE F) (Sn.rI F)):=by
 obtain ⟨wa,hwa⟩:∃wa,wa=w.alloc (.cells #[.int .i64 0,.int .i64 0,.int .i64 0,.int .i64 0,.slice none 0 0,.slice none 0 0,.slice none 0 0,.int .i64 0,.int .i64 0,.int .i64 0,.int .i64 0] 29):=⟨_,rfl⟩
 obtain ⟨wb,hwb⟩:∃wb,wb=wa.alloc (.cells #[.int .i64 0,.int .i64 0,.int .i64 0,.int .i64 0,.slice none 0 0,.slice none 0 0,.slice none 0 0,.int .i64 0,.int .i64 0,.int .i64 0,.int .i64 0] 29):=⟨_,rfl⟩
 obtain ⟨x0,hx0⟩:∃x0,x0=wb.alloc (.cells #[.slice (some ⟨G,0,none⟩) 918 cap] 114):=⟨_,rfl⟩
 have ga:w.grownBy wa none:=by rw [hwa];exact World.grownBy_alloc _ _ _
 have gb:wa.grownBy wb none:=by rw [hwb];exact World.grownBy_alloc _ _ _
 have g0:wb.grownBy x0 none:=by rw [hx0];exact World.grownBy_alloc _ _ _
 have sa:wa.heap.size=w.heap.size+1:=by rw [hwa];simp
 have sb:wb.heap.size=w.heap.size+1+1:=by rw [hwb,←sa];simp
 have hP:Lie wa w.heap.size 29 11 (fun j=>#[.int .i64 0,.int .i64 0,.int .i64 0,.int .i64 0,.slice none 0 0,.slice none 0 0,.slice none 0 0,.int .i64 0,.int .i64 0,.int .i64 0,Value.int .i64 0][j]?.getD undef):=by
  rw [hwa]
  exact (Arr.lit (heap_alloc_new w _)).lie
 have hW:Lie wb wa.heap.size 29 11 (fun j=>#[.int .i64 0,.int .i64 0,.int .i64 0,.int .i64 0,.slice none 0 0,.slice none 0 0,.slice none 0 0,.int .i64 0,.int .i64 0,.int .i64 0,Value.int .i64 0][j]?.getD undef):=by
  rw [hwb]
  exact (Arr.lit (heap_alloc_new wa _)).lie
 have hR:Lie x0 wb.heap.size 114 1 (fun _=>.slice (some ⟨G,0,none⟩) (918 - 0) cap):=by
  rw [hx0]
  refine Lie.congr (m:=1) (Arr.lit (heap_alloc_new wb _)).lie fun c hc=>?_
  obtain rfl:c=0:=by omega
  rfl
 obtain ⟨Z,hZe⟩:∃Z:Nat→Value,(fun j=>#[.int .i64 0,.int .i64 0,.int .i64 0,.int .i64 0,.slice none 0 0,.slice none 0 0,.slice none 0 0,.int .i64 0,.int .i64 0,.int .i64 0,Value.int .i64 0][j]?.getD undef)=Z:=⟨_,rfl⟩
 obtain ⟨P,hPe⟩:∃P,w.heap.size=P:=⟨_,rfl⟩
 obtain ⟨W,hWe⟩:∃W,wa.heap.size=W:=⟨_,rfl⟩
 obtain ⟨R,hRe⟩:∃R,wb.heap.size=R:=⟨_,rfl⟩
 have hX0:Hid (Sn.Read w x0 P W R G 0 F Z):=by
  have hlt:=hS.lt
  refine ⟨?_,?_,⟨0,cap,?_,fun _=>rfl,by omega,hm⟩,hS.on (gtr ga (gtr gb g0)) (by simp),by omega,by omega,by omega,hlt,by omega,by omega,by omega,gtr ga (gtr gb g0)⟩
  ·rw [←hPe]
   exact hP.on (gtr gb g0)
  ·rw [←hWe,←hZe]
   exact hW.on g0
  ·rw [←hRe]
   exact hR
 have HZ:=hide hZe
 have eR:P+1+1=R:=by omega
 have eW:P+1=W:=by omega
 have eR':=hide eR
 have eW':=hide eW
 clear eR eW hWe hRe
 clear hS hc hm ga gb g0 sa sb hP hW hR hZe
 go_enter Try.func43,Try.ntmps43
 go_upto_region 3 with fail
 rw [←hwa,←hwb,←hx0,uh eR',uh eW']
 clear hwa hwb hx0 hPe eR' eW'
 clear wa wb
 have cn:=hide (snNumber_any R G 0 8 F x0 (uh hX0).rd (uh hX0).src (uh hX0).rG (by omega) (by omega) (by omega))
 obtain ⟨V0,hV0⟩:∃V,IntKind.i64.wrap (Sn.be (Sn.cut F 0 8))=V:=⟨_,rfl⟩
 have hv0:=hide hV0
 go_wp2_with fail
 refine (uh cn).mono ?_
 rintro e y ⟨u,rfl,hy,hRd⟩
 have hY:=hide ((uh hX0).step hy hRd)
 have fW:=(uh hY).box.free
 have zW:=(uh hY).box.cell (c:=0) (by omega)
 have hZ:=hide ((uh hY).field 0 (.int .i64 V0))
 clear cn hy hRd hX0 hY
 go_upto_region 4 with fail
 generalize y.setCell ⟨W,0,none⟩ (.int .i64 V0)=x1 at hZ ⊢
 have hX1:Hid (Sn.Read w x1 P W R G 8 F (Sn.put (Z) 0 (.int .i64 V0))):=hZ
 clear hZ fW zW hV0
 have cn:=hide (snNumber_any R G 8 4 F x1 (uh hX1).rd (uh hX1).src (uh hX1).rG (by omega) (by omega) (by omega))
 obtain ⟨V1,hV1⟩:∃V,IntKind.i64.wrap (Sn.be (Sn.cut F 8 4))=V:=⟨_,rfl⟩
 have hv1:=hide hV1
 go_wp2_with fail
 refine (uh cn).mono ?_
 rintro e y ⟨u,rfl,hy,hRd⟩
 have hY:=hide ((uh hX1).step hy hRd)
 have fW:=(uh hY).box.free
 have zW:=(uh hY).box.cell (c:=1) (by omega)
 have hZ:=hide ((uh hY).field 1 (.int .i64 V1))
 clear cn hy hRd hX1 hY
 go_upto_region 5 with fail
 generalize y.setCell ⟨W,1,none⟩ (.int .i64 V1)=x2 at hZ ⊢
 have hX2:Hid (Sn.Read w x2 P W R G 12 F (Sn.put (Sn.put (Z) 0 (.int .i64 V0)) 1 (.int .i64 V1))):=hZ
 clear hZ fW zW hV1
 have cn:=hide (snNumber_any R G 12 1 F x2 (uh hX2).rd (uh hX2).src (uh hX2).rG (by omega) (by omega) (by omega))
 obtain ⟨V2,hV2⟩:∃V,IntKind.i64.wrap (Sn.be (Sn.cut F 12 1))=V:=⟨_,rfl⟩
 have hv2:=hide hV2
 go_wp2_with fail
 refine (uh cn).mono ?_
 rintro e y ⟨u,rfl,hy,hRd⟩
 have hY:=hide ((uh hX2).step hy hRd)
 have fW:=(uh hY).box.free
 have zW:=(uh hY).box.cell (c:=2) (by omega)
 have hZ:=hide ((uh hY).field 2 (.int .i64 V2))
 clear cn hy hRd hX2 hY
 go_upto_region 6 with fail
 generalize y.setCell ⟨W,2,none⟩ (.int .i64 V2)=x3 at hZ ⊢
 have hX3:Hid (Sn.Read w x3 P W R G 13 F (Sn.put (Sn.put (Sn.put (Z) 0 (.int .i64 V0)) 1 (.int .i64 V1)) 2 (.int .i64 V2))):=hZ
 clear hZ fW zW hV2
 have cn:=hide (snNumber_any R G 13 1 F x3 (uh hX3).rd (uh hX3).src (uh hX3).rG (by omega) (by omega) (by omega))
 obtain ⟨V3,hV3⟩:∃V,IntKind.i64.wrap (Sn.be (Sn.cut F 13 1))=V:=⟨_,rfl⟩
 have hv3:=hide hV3
 go_wp2_with fail
 refine (uh cn).mono ?_
 rintro e y ⟨u,rfl,hy,hRd⟩
 have hY:=hide ((uh hX3).step hy hRd)
 have fW:=(uh hY).box.free
 have zW:=(uh hY).box.cell (c:=3) (by omega)
 have hZ:=hide ((uh hY).field 3 (.int .i64 V3))
 clear cn hy hRd hX3 hY
 go_upto_region 7 with fail
 generalize y.setCell ⟨W,3,none⟩ (.int .i64 V3)=x4 at hZ ⊢
 have hX4:Hid (Sn.Read w x4 P W R G 14 F (Sn.put (Sn.put (Sn.put (Sn.put (Z) 0 (.int .i64 V0)) 1 (.int .i64 V1)) 2 (.int .i64 V2)) 3 (.int .i64 V3))):=hZ
 clear hZ fW zW hV3
 obtain ⟨H,hH⟩:∃H,H=Sn.put (Sn.put (Sn.put (Sn.put (Z) 0 (.int .i64 V0)) 1 (.int .i64 V1)) 2 (.int .i64 V2)) 3 (.int .i64 V3):=⟨_,rfl⟩
 rw [←hH] at hX4
 have HH:=hide hH
 clear hH
 go_wp2_with fail
 go_loopw [5,22] (fun v5 v22 wr=>∃t:Nat,t≤4∧v22=.int .i64 (t:Int)∧Hid (Sn.Read w wr P W R G (14+2*t) F (Sn.gd H (Sn.rg F) t))) (fun _ v22 _=>10 - (intOf v22).toNat)
 case atStart=>exact ⟨0,by omega,rfl,by rw [Sn.gd_none];exact hX4⟩
 case round =>
  clear hX4
  obtain ⟨t,ht,rfl,hX⟩:=hrel
  by_cases hlt:t<4
  ·have hlt':(t:Int)<4:=by omega
   have HL:=hide hlt
   have cn:=hide (snNumber_any R G (14+2*t) 2 F wr (uh hX).rd (uh hX).src (uh hX).rG (by omega) (by omega) (by omega))
   have tw:IntKind.i64.wrap (Sn.be (Sn.cut F (14+2*t) 2))=Sn.rg F t:=by
    have:=Sn.be_bound 2 F (14+2*t) (fun j _=>(uh hX).src.byte _)
    rw [IntKind.wrap_i64]
    unfold Sn.rg
    omega
   clear hlt ht
   go_wp2_with fail
   refine (uh cn).mono ?_
   rintro e y ⟨u,rfl,hy,hRd⟩
   have hY:=hide ((uh hX).step hy hRd)
   have fW:=(uh hY).box.free
   have zW:=(uh hY).box.cell (c:=7+t) (by have:=uh HL;omega)
   have hZ:=hide ((uh hY).field (7+t) (.int .i64 (Sn.rg F t)))
   rw [Sn.gd_more,show 14+2*t+2=14+2*(t+1) by omega] at hZ
   clear cn hy hRd hX hY
   go_wp2
   go_roundw
   case rel=>exact ⟨t+1,by have:=uh HL;omega,by go_num,hZ⟩
   case measure=>simp [intOf];have:=uh HL;omega
  ·obtain rfl:t=4:=by omega
   have hge:¬((4:Nat):Int)<4:=by omega
   clear hlt ht
   have cn:=hide (snNext_any R G 22 384 wr (uh hX).rd (by omega) (by omega))
   go_upto_region 12 with fail
   go_wp2_with fail
   refine (uh cn).mono ?_
   rintro e y ⟨u,C,rfl,hC,hy,hRd⟩
   have hY:=hide ((uh hX).step hy hRd)
   have ct:=hide (snTwinB_any G 22 384 384 C (Byts (Sn.rc F)) y (by omega) (by omega) (fun _=>rfl) (fun c hc=>(uh hY).src.cell (22+c) (by omega)) (uh hY).src.lt)
   clear cn hC hy hRd hX
   go_wp2_with fail
   refine (uh ct).mono ?_
   rintro e y2 ⟨gC,rfl,lC,hA,hg⟩
   have hY2:=hide ((uh hY).on hg)
   have HC:=hide hA.lie
   have LC:Hid (w.heap.size≤gC):=(show w.heap.size≤gC by have:=(uh hY).grown.size;omega)
   have fW:=(uh hY2).box.free
   have zW:=(uh hY2).box.cell (c:=4) (by omega)
   have nCW:Hid (gC≠W):=(uh HC).type_ne (uh hY2).box (by decide)
   have hZ:=hide (And.intro ((uh hY2).field 4 (.slice (some ⟨gC,0,none⟩) 384 384)) ((uh HC).other (uh nCW).symm 4 (.slice (some ⟨gC,0,none⟩) 384 384)))
   clear ct lC hA hg hY hY2 HC
   go_upto_region 13 with fail
   generalize y2.setCell ⟨W,4,none⟩ (.slice (some ⟨gC,0,none⟩) 384 384)=x5 at hZ ⊢
   clear fW zW y y2
   obtain ⟨Z5,hm5,hZ5⟩:=make32
   obtain ⟨gE,hgE⟩:∃b,x5.heap.size=b:=⟨_,rfl⟩
   obtain ⟨wm,hwm⟩:∃wm,wm=x5.alloc (.cells Z5 45):=⟨_,rfl⟩
   have hga:x5.grownBy wm none:=by rw [hwm];exact World.grownBy_alloc _ _ _
   have hl5:Lie wm gE 45 352 (En.flat fun _ _=>0):=by
    rw [←hgE,hwm]
    exact (hZ5 x5).lie (m:=352) (by omega)
   have hmx:=hm5 x5
   rw [←hwm,hgE] at hmx
   have hb:=hide ((uh hZ).1.on hga)
   have fW:=(uh hb).box.free
   have zW:=(uh hb).box.cell (c:=5) (by omega)
   obtain ⟨B5,hB5⟩:∃B,B=Sn.put (Sn.put (Sn.gd H (Sn.rg F) 4) 4 (.slice (some ⟨gC,0,none⟩) 384 384)) 5 (.slice (some ⟨gE,0,none⟩) 32 32):=⟨_,rfl⟩
   have LgE:Hid (w.heap.size≤gE):=(show w.heap.size≤gE by have:=(uh hZ).1.grown.size;omega)
   have hQ:Hid (Sn.Read w (wm.setCell ⟨W,5,none⟩ (.slice (some ⟨gE,0,none⟩) 32 32)) P W R G (406) F B5∧Lie (wm.setCell ⟨W,5,none⟩ (.slice (some ⟨gE,0,none⟩) 32 32)) gC 5 384 (Byts (Sn.rc F))∧Lie (wm.setCell ⟨W,5,none⟩ (.slice (some ⟨gE,0,none⟩) 32 32)) gE 45 352 (En.flat (Sn.fill (Sn.rE F) 0))):=by
    have hz:=uh hZ
    exact ⟨by rw [hB5];exact (uh hb).field 5 _,(hz.2.on hga).other ((hz.2.on hga).type_ne (uh hb).box (by decide)).symm _ _,by rw [Sn.fill_none];exact hl5.other (hl5.type_ne (uh hb).box (by decide)).symm _ _⟩
   have HB5:=hide hB5
   clear hga hl5 hZ5 hB5 hm5 hb hgE hwm
   go_upto_region 14 with fail
   generalize (wm.setCell ⟨W,5,none⟩ (.slice (some ⟨gE,0,none⟩) 32 32))=x5n at hQ ⊢
   clear hmx hZ fW zW
   have hb5:Hid (∀z,Lie z W 29 11 B5→z.cell? ⟨W,5,none⟩=some (.slice (some ⟨gE,0,none⟩) 32 32)):=fun z hz=>by
    rw [hz.cell (c:=5) (by omega),uh HB5]
    rfl
   have zB:=uh hb5 _ (uh hQ).1.box
   go_wp2_with fail
   go_loopw [6,39] (fun vo vl wr=>∃n:Nat,n≤32∧vl=.int .i64 (n:Int)∧Hid (Sn.Read w wr P W R G (406+n*11) F B5∧Lie wr gC 5 384 (Byts (Sn.rc F))∧Lie wr gE 45 352 (En.flat (Sn.fill (Sn.rE F) n)))) (fun _ vl _=>60 - (intOf vl).toNat)
   case atStart=>exact ⟨0,by omega,rfl,hQ⟩
   case round =>
    clear hQ zB
    obtain ⟨n,hn,rfl,hX⟩:=hrel
    by_cases hlt:n<32
    ·have hlt':(n:Int)<32:=by omega
     have HL:=hide hlt
     have hd:=hide (gd1 (World.grownBy.refl wr none))
     have hon:Hid (∀y z kk,(Sn.Read w y P W R G (kk) F B5∧Lie y gC 5 384 (Byts (Sn.rc F))∧Lie y gE 45 352 (En.flat (Sn.fill (Sn.rE F) n)))→y.grownBy z none→(Sn.Read w z P W R G (kk) F B5∧Lie z gC 5 384 (Byts (Sn.rc F))∧Lie z gE 45 352 (En.flat (Sn.fill (Sn.rE F) n)))):=fun y z kk h hg=>⟨h.1.on hg,(h).2.1.on hg,(h).2.2.on hg⟩
     have hst:Hid (∀y z u kk,(Sn.Read w y P W R G (kk) F B5∧Lie y gC 5 384 (Byts (Sn.rc F))∧Lie y gE 45 352 (En.flat (Sn.fill (Sn.rE F) n)))→z=y.setCell ⟨R,0,none⟩ u→∀k2,Sn.Rd z R G k2→(Sn.Read w z P W R G (k2) F B5∧Lie z gC 5 384 (Byts (Sn.rc F))∧Lie z gE 45 352 (En.flat (Sn.fill (Sn.rE F) n)))):=fun y z u kk h hz k2 hr=>by
      obtain ⟨p,C,hc,-⟩:=h.1.rd.cell
      refine ⟨h.1.step hz hr,?_,?_⟩
      ·rw [hz];exact (h).2.1.other ((h).2.1.type_ne hc (by decide)).symm _ _
      ·rw [hz];exact (h).2.2.other ((h).2.2.type_ne hc (by decide)).symm _ _
     have cn:Hid (∀z,wr.grownBy z none→Calls Try.prog 67 #[.pointer (some ⟨R,0,none⟩),.int .i64 ((11:Nat):Int)] z (Sn.Goes z R G (406+n*11) 11)):=fun z hz=>snNext_any R G (406+n*11) 11 z ((uh hX).1.rd.on hz) (by omega) (by have:=uh HL;omega)
     have ce:=hide (fun z C (hz:Sn.Src z G F)=>entOf_any G (406+n*11) C F z hz (by have:=uh HL;omega))
     have hput:Hid (∀z,(Sn.Read w z P W R G (406+n*11+11) F B5∧Lie z gC 5 384 (Byts (Sn.rc F))∧Lie z gE 45 352 (En.flat (Sn.fill (Sn.rE F) n)))→(Sn.Read w (z.setCells gE (n*11) (#[.int .i64 (F (406+n*11)),.int .i64 (F (406+n*11+1)),.int .i64 (F (406+n*11+2)),.int .i64 (F (406+n*11+3)),.int .i64 (F (406+n*11+4)),.int .i64 (F (406+n*11+5)),.int .i64 (F (406+n*11+6)),.int .i64 (F (406+n*11+7)),.int .i64 (F (406+n*11+8)),.int .i64 (F (406+n*11+9)),.int .i64 (F (406+n*11+10))]:Array Value).toList) P W R G (406+(n+1)*11) F B5∧Lie (z.setCells gE (n*11) (#[.int .i64 (F (406+n*11)),.int .i64 (F (406+n*11+1)),.int .i64 (F (406+n*11+2)),.int .i64 (F (406+n*11+3)),.int .i64 (F (406+n*11+4)),.int .i64 (F (406+n*11+5)),.int .i64 (F (406+n*11+6)),.int .i64 (F (406+n*11+7)),.int .i64 (F (406+n*11+8)),.int .i64 (F (406+n*11+9)),.int .i64 (F (406+n*11+10))]:Array Value).toList) gC 5 384 (Byts (Sn.rc F))∧Lie (z.setCells gE (n*11) (#[.int .i64 (F (406+n*11)),.int .i64 (F (406+n*11+1)),.int .i64 (F (406+n*11+2)),.int .i64 (F (406+n*11+3)),.int .i64 (F (406+n*11+4)),.int .i64 (F (406+n*11+5)),.int .i64 (F (406+n*11+6)),.int .i64 (F (406+n*11+7)),.int .i64 (F (406+n*11+8)),.int .i64 (F (406+n*11+9)),.int .i64 (F (406+n*11+10))]:Array Value).toList) gE 45 352 (En.flat (Sn.fill (Sn.rE F) (n+1))))):=fun z h=>by
      rw [show 406+(n+1)*11=406+n*11+11 by omega,←Sn.fill_more (Sn.rE F) n]
      refine ⟨h.1.rows (h).2.2 (by decide) (by decide) (uh LgE) _ _,(h).2.1.others ((h).2.2.type_ne (h).2.1 (by decide)) _ _,?_⟩
      exact (((h).2.2.own (n:=32) (by omega) (by omega)).store n (Sn.rE F n)).lie (by omega)
     have hrow:Hid (∀z,(Sn.Read w z P W R G (406+n*11+11) F B5∧Lie z gC 5 384 (Byts (Sn.rc F))∧Lie z gE 45 352 (En.flat (Sn.fill (Sn.rE F) n)))→z.cell? ⟨gE,n*11,none⟩=some (.int .i64 (Sn.fill (Sn.rE F) n n 0))∧z.cell? ⟨gE,n*11+1,none⟩=some (.int .i64 (Sn.fill (Sn.rE F) n n 1))∧z.cell? ⟨gE,n*11+2,none⟩=some (.int .i64 (Sn.fill (Sn.rE F) n n 2))∧z.cell? ⟨gE,n*11+3,none⟩=some (.int .i64 (Sn.fill (Sn.rE F) n n 3))∧z.cell? ⟨gE,n*11+4,none⟩=some (.int .i64 (Sn.fill (Sn.rE F) n n 4))∧z.cell? ⟨gE,n*11+5,none⟩=some (.int .i64 (Sn.fill (Sn.rE F) n n 5))∧z.cell? ⟨gE,n*11+6,none⟩=some (.int .i64 (Sn.fill (Sn.rE F) n n 6))∧z.cell? ⟨gE,n*11+7,none⟩=some (.int .i64 (Sn.fill (Sn.rE F) n n 7))∧z.cell? ⟨gE,n*11+8,none⟩=some (.int .i64 (Sn.fill (Sn.rE F) n n 8))∧z.cell? ⟨gE,n*11+9,none⟩=some (.int .i64 (Sn.fill (Sn.rE F) n n 9))∧z.cell? ⟨gE,n*11+10,none⟩=some (.int .i64 (Sn.fill (Sn.rE F) n n 10))):=fun z h=>((h).2.2.own (n:=32) (by omega) (by omega)).ents.row (uh HL)
     clear hlt hn
     go_upto_region 17 with fail
     refine wp_region_till (h:=6) (S:=fun x=>x.cell? ⟨W,5,none⟩=some (.slice (some ⟨gE,0,none⟩) 32 32)) (by kernel_rfl) ?_
     have hS0:=uh hb5 _ ((uh hX).1.box.on (uh hd))
     refine wtk (i:=0) (v:=?_) [6] rfl (by kernel_rfl) (by kernel_rfl) (by kernel_rfl) (by kernel_rfl) (fun _ _ _ h=>h) hS0 (Or.inl ⟨by rfl,?_⟩) ?_
     rotate_left
     ·intro x hSx
      try dsimp only at hSx
      go_simp
      try with_reducible rfl
     simp only [Act.put]
     refine wtk (i:=1) (v:=?_) [6] rfl (by kernel_rfl) (by kernel_rfl) (by kernel_rfl) (by kernel_rfl) (fun _ _ _ h=>h) hS0 (Or.inl ⟨by rfl,?_⟩) ?_
     rotate_left
     ·intro x hSx
      try dsimp only at hSx
      go_simp
      try with_reducible rfl
     simp only [Act.put]
     refine wtk (i:=2) (v:=?_) [6] rfl (by kernel_rfl) (by kernel_rfl) (by kernel_rfl) (by kernel_rfl) (fun _ _ _ h=>h) hS0 (Or.inl ⟨by rfl,?_⟩) ?_
     rotate_left
     ·intro x hSx
      try dsimp only at hSx
      go_simp
      try with_reducible rfl
     simp only [Act.put]
     refine wto (j:=3) (by kernel_rfl) rfl (fun K hK=>?_)
     go_simp
     refine (uh cn _ (uh hd)).mono ?_
     rintro e0 y ⟨u,C,rfl,hC,hy,hRd⟩
     have hY:=hide (uh hst _ _ u _ (uh hon _ _ _ (uh hX) (uh hd)) hy _ hRd)
     have hS3:=uh hb5 _ (uh hY).1.box
     clear hC hy hRd
     try go_simp
     refine hK.out _ _ (fun _=>hS3) ?_
     clear hK K
     refine wto (j:=4) (by kernel_rfl) rfl (fun K hK=>?_)
     go_simp
     refine (uh ce _ _ (uh hY).1.src).mono ?_
     rintro e0 y2 ⟨rfl,hg4⟩
     have hY2:=hide (uh hon _ _ _ (uh hY) hg4)
     have hS4:=uh hb5 _ (uh hY2).1.box
     obtain ⟨r0,r1,r2,r3,r4,r5,r6,r7,r8,r9,r10⟩:=uh hrow _ (uh hY2)
     have fE:=(uh hY2).2.2.free
     have hX2:=hide (uh hput _ (uh hY2))
     clear hg4 hY
     try go_simp
     refine hK.out _ _ (fun _=>hS4) ?_
     clear hK K
     refine wtk (i:=5) (v:=?_) [6] rfl (by kernel_rfl) (by kernel_rfl) (by kernel_rfl) (by kernel_rfl) (fun _ _ _ h=>h) hS4 (Or.inl ⟨by rfl,?_⟩) ?_
     rotate_left
     ·intro x hSx
      try dsimp only at hSx
      go_simp
      try with_reducible rfl
     simp only [Act.put]
     refine wto (j:=6) (by kernel_rfl) rfl (fun K hK=>?_)
     go_simp
     refine hK.out _ _ (fun hx=>absurd (hx.symm.trans (by kernel_rfl)) Bool.false_ne_true) ?_
     clear hK K
     refine wpTill_done (by kernel_rfl) ?_ _
     clear cn ce hst hon hrow hput hS4 hS3 r0 r1 r2 r3 r4 r5 r6 r7 r8 r9 r10 fE hX hd hY2
     go_wp2
     go_roundw
     case rel=>exact ⟨n+1,by have:=uh HL;omega,by go_num,hX2⟩
     case measure=>simp [intOf];have:=uh HL;omega
    ·obtain rfl:n=32:=by omega
     have hge:¬((32:Nat):Int)<32:=by omega
     clear hlt hn
     have hZ:=hX
     clear hX
     go_upto_region 19 with fail
     obtain ⟨Z6,hm6,hZ6⟩:=make40
     obtain ⟨gI,hgI⟩:∃b,wr.heap.size=b:=⟨_,rfl⟩
     obtain ⟨wm,hwm⟩:∃wm,wm=wr.alloc (.cells Z6 47):=⟨_,rfl⟩
     have hga:wr.grownBy wm none:=by rw [hwm];exact World.grownBy_alloc _ _ _
     have hl6:Lie wm gI 47 160 (Gd.flat fun _ _=>0):=by
      rw [←hgI,hwm]
      exact hZ6 wr
     have hmx:=hm6 wr
     rw [←hwm,hgI] at hmx
     have hb:=hide ((uh hZ).1.on hga)
     have fW:=(uh hb).box.free
     have zW:=(uh hb).box.cell (c:=6) (by omega)
     obtain ⟨B6,hB6⟩:∃B,B=Sn.put (B5) 6 (.slice (some ⟨gI,0,none⟩) 40 40):=⟨_,rfl⟩
     have LgI:Hid (w.heap.size≤gI):=(show w.heap.size≤gI by have:=(uh hZ).1.grown.size;omega)
     have hQ:Hid (Sn.Read w (wm.setCell ⟨W,6,none⟩ (.slice (some ⟨gI,0,none⟩) 40 40)) P W R G (758) F B6∧Lie (wm.setCell ⟨W,6,none⟩ (.slice (some ⟨gI,0,none⟩) 40 40)) gC 5 384 (Byts (Sn.rc F))∧Lie (wm.setCell ⟨W,6,none⟩ (.slice (some ⟨gI,0,none⟩) 40 40)) gE 45 352 (En.flat (Sn.fill (Sn.rE F) 32))∧Lie (wm.setCell ⟨W,6,none⟩ (.slice (some ⟨gI,0,none⟩) 40 40)) gI 47 160 (Gd.flat (Sn.fill (Sn.rI F) 0))):=by
      have hz:=uh hZ
      exact ⟨by rw [hB6];exact (uh hb).field 6 _,(hz.2.1.on hga).other ((hz.2.1.on hga).type_ne (uh hb).box (by decide)).symm _ _,(hz.2.2.on hga).other ((hz.2.2.on hga).type_ne (uh hb).box (by decide)).symm _ _,by rw [Sn.fill_none];exact hl6.other (hl6.type_ne (uh hb).box (by decide)).symm _ _⟩
     have HB6:=hide hB6
     clear hga hl6 hZ6 hB6 hm6 hb hgI hwm
     go_upto_region 20 with fail
     generalize (wm.setCell ⟨W,6,none⟩ (.slice (some ⟨gI,0,none⟩) 40 40))=wrn at hQ ⊢
     clear hmx hZ fW zW
     have hb5:Hid (∀z,Lie z W 29 11 B6→z.cell? ⟨W,6,none⟩=some (.slice (some ⟨gI,0,none⟩) 40 40)):=fun z hz=>by
      rw [hz.cell (c:=6) (by omega),uh HB6]
      rfl
     have zB:=uh hb5 _ (uh hQ).1.box
     go_wp2_with fail
     go_loopw [7,54] (fun vo vl wr=>∃n:Nat,n≤40∧vl=.int .i64 (n:Int)∧Hid (Sn.Read w wr P W R G (758+n*4) F B6∧Lie wr gC 5 384 (Byts (Sn.rc F))∧Lie wr gE 45 352 (En.flat (Sn.fill (Sn.rE F) 32))∧Lie wr gI 47 160 (Gd.flat (Sn.fill (Sn.rI F) n)))) (fun _ vl _=>60 - (intOf vl).toNat)
     case atStart=>exact ⟨0,by omega,rfl,hQ⟩
     case round =>
      clear hQ zB
      obtain ⟨n,hn,rfl,hX⟩:=hrel
      by_cases hlt:n<40
      ·have hlt':(n:Int)<40:=by omega
       have HL:=hide hlt
       have hd:=hide (gd1 (World.grownBy.refl wr none))
       have hon:Hid (∀y z kk,(Sn.Read w y P W R G (kk) F B6∧Lie y gC 5 384 (Byts (Sn.rc F))∧Lie y gE 45 352 (En.flat (Sn.fill (Sn.rE F) 32))∧Lie y gI 47 160 (Gd.flat (Sn.fill (Sn.rI F) n)))→y.grownBy z none→(Sn.Read w z P W R G (kk) F B6∧Lie z gC 5 384 (Byts (Sn.rc F))∧Lie z gE 45 352 (En.flat (Sn.fill (Sn.rE F) 32))∧Lie z gI 47 160 (Gd.flat (Sn.fill (Sn.rI F) n)))):=fun y z kk h hg=>⟨h.1.on hg,(h).2.1.on hg,(h).2.2.1.on hg,(h).2.2.2.on hg⟩
       have hst:Hid (∀y z u kk,(Sn.Read w y P W R G (kk) F B6∧Lie y gC 5 384 (Byts (Sn.rc F))∧Lie y gE 45 352 (En.flat (Sn.fill (Sn.rE F) 32))∧Lie y gI 47 160 (Gd.flat (Sn.fill (Sn.rI F) n)))→z=y.setCell ⟨R,0,none⟩ u→∀k2,Sn.Rd z R G k2→(Sn.Read w z P W R G (k2) F B6∧Lie z gC 5 384 (Byts (Sn.rc F))∧Lie z gE 45 352 (En.flat (Sn.fill (Sn.rE F) 32))∧Lie z gI 47 160 (Gd.flat (Sn.fill (Sn.rI F) n)))):=fun y z u kk h hz k2 hr=>by
        obtain ⟨p,C,hc,-⟩:=h.1.rd.cell
        refine ⟨h.1.step hz hr,?_,?_,?_⟩
        ·rw [hz];exact (h).2.1.other ((h).2.1.type_ne hc (by decide)).symm _ _
        ·rw [hz];exact (h).2.2.1.other ((h).2.2.1.type_ne hc (by decide)).symm _ _
        ·rw [hz];exact (h).2.2.2.other ((h).2.2.2.type_ne hc (by decide)).symm _ _
       have cn:Hid (∀z,wr.grownBy z none→Calls Try.prog 67 #[.pointer (some ⟨R,0,none⟩),.int .i64 ((4:Nat):Int)] z (Sn.Goes z R G (758+n*4) 4)):=fun z hz=>snNext_any R G (758+n*4) 4 z ((uh hX).1.rd.on hz) (by omega) (by have:=uh HL;omega)
       have ce:=hide (fun z C (hz:Sn.Src z G F)=>itemOf_any G (758+n*4) C F z hz (by have:=uh HL;omega))
       have hput:Hid (∀z,(Sn.Read w z P W R G (758+n*4+4) F B6∧Lie z gC 5 384 (Byts (Sn.rc F))∧Lie z gE 45 352 (En.flat (Sn.fill (Sn.rE F) 32))∧Lie z gI 47 160 (Gd.flat (Sn.fill (Sn.rI F) n)))→(Sn.Read w (z.setCells gI (n*4) (#[.int .i64 (F (758+n*4)),.int .i64 (F (758+n*4+1)),.int .i64 (F (758+n*4+2)),.int .i64 (F (758+n*4+3))]:Array Value).toList) P W R G (758+(n+1)*4) F B6∧Lie (z.setCells gI (n*4) (#[.int .i64 (F (758+n*4)),.int .i64 (F (758+n*4+1)),.int .i64 (F (758+n*4+2)),.int .i64 (F (758+n*4+3))]:Array Value).toList) gC 5 384 (Byts (Sn.rc F))∧Lie (z.setCells gI (n*4) (#[.int .i64 (F (758+n*4)),.int .i64 (F (758+n*4+1)),.int .i64 (F (758+n*4+2)),.int .i64 (F (758+n*4+3))]:Array Value).toList) gE 45 352 (En.flat (Sn.fill (Sn.rE F) 32))∧Lie (z.setCells gI (n*4) (#[.int .i64 (F (758+n*4)),.int .i64 (F (758+n*4+1)),.int .i64 (F (758+n*4+2)),.int .i64 (F (758+n*4+3))]:Array Value).toList) gI 47 160 (Gd.flat (Sn.fill (Sn.rI F) (n+1))))):=fun z h=>by
        rw [show 758+(n+1)*4=758+n*4+4 by omega,←Sn.fill_more (Sn.rI F) n]
        refine ⟨h.1.rows (h).2.2.2 (by decide) (by decide) (uh LgI) _ _,(h).2.1.others ((h).2.2.2.type_ne (h).2.1 (by decide)) _ _,(h).2.2.1.others ((h).2.2.2.type_ne (h).2.2.1 (by decide)) _ _,?_⟩
        exact (h).2.2.2.item n (Sn.rI F n)
       have hrow:Hid (∀z,(Sn.Read w z P W R G (758+n*4+4) F B6∧Lie z gC 5 384 (Byts (Sn.rc F))∧Lie z gE 45 352 (En.flat (Sn.fill (Sn.rE F) 32))∧Lie z gI 47 160 (Gd.flat (Sn.fill (Sn.rI F) n)))→z.cell? ⟨gI,n*4,none⟩=some (.int .i64 (Sn.fill (Sn.rI F) n n 0))∧z.cell? ⟨gI,n*4+1,none⟩=some (.int .i64 (Sn.fill (Sn.rI F) n n 1))∧z.cell? ⟨gI,n*4+2,none⟩=some (.int .i64 (Sn.fill (Sn.rI F) n n 2))∧z.cell? ⟨gI,n*4+3,none⟩=some (.int .i64 (Sn.fill (Sn.rI F) n n 3))):=fun z h=>((h).2.2.2.its (n:=40) (by omega) (by omega)).row (uh HL)
       clear hlt hn
       go_upto_region 23 with fail
       refine wp_region_till (h:=6) (S:=fun x=>x.cell? ⟨W,6,none⟩=some (.slice (some ⟨gI,0,none⟩) 40 40)) (by kernel_rfl) ?_
       have hS0:=uh hb5 _ ((uh hX).1.box.on (uh hd))
       refine wtk (i:=0) (v:=?_) [6] rfl (by kernel_rfl) (by kernel_rfl) (by kernel_rfl) (by kernel_rfl) (fun _ _ _ h=>h) hS0 (Or.inl ⟨by rfl,?_⟩) ?_
       rotate_left
       ·intro x hSx
        try dsimp only at hSx
        go_simp
        try with_reducible rfl
       simp only [Act.put]
       refine wtk (i:=1) (v:=?_) [6] rfl (by kernel_rfl) (by kernel_rfl) (by kernel_rfl) (by kernel_rfl) (fun _ _ _ h=>h) hS0 (Or.inl ⟨by rfl,?_⟩) ?_
       rotate_left
       ·intro x hSx
        try dsimp only at hSx
        go_simp
        try with_reducible rfl
       simp only [Act.put]
       refine wtk (i:=2) (v:=?_) [6] rfl (by kernel_rfl) (by kernel_rfl) (by kernel_rfl) (by kernel_rfl) (fun _ _ _ h=>h) hS0 (Or.inl ⟨by rfl,?_⟩) ?_
       rotate_left
       ·intro x hSx
        try dsimp only at hSx
        go_simp
        try with_reducible rfl
       simp only [Act.put]
       refine wto (j:=3) (by kernel_rfl) rfl (fun K hK=>?_)
       go_simp
       refine (uh cn _ (uh hd)).mono ?_
       rintro e0 y ⟨u,C,rfl,hC,hy,hRd⟩
       have hY:=hide (uh hst _ _ u _ (uh hon _ _ _ (uh hX) (uh hd)) hy _ hRd)
       have hS3:=uh hb5 _ (uh hY).1.box
       clear hC hy hRd
       try go_simp
       refine hK.out _ _ (fun _=>hS3) ?_
       clear hK K
       refine wto (j:=4) (by kernel_rfl) rfl (fun K hK=>?_)
       go_simp
       refine (uh ce _ _ (uh hY).1.src).mono ?_
       rintro e0 y2 ⟨rfl,hg4⟩
       have hY2:=hide (uh hon _ _ _ (uh hY) hg4)
       have hS4:=uh hb5 _ (uh hY2).1.box
       obtain ⟨r0,r1,r2,r3⟩:=uh hrow _ (uh hY2)
       have fE:=(uh hY2).2.2.2.free
       have hX2:=hide (uh hput _ (uh hY2))
       clear hg4 hY
       try go_simp
       refine hK.out _ _ (fun _=>hS4) ?_
       clear hK K
       refine wtk (i:=5) (v:=?_) [6] rfl (by kernel_rfl) (by kernel_rfl) (by kernel_rfl) (by kernel_rfl) (fun _ _ _ h=>h) hS4 (Or.inl ⟨by rfl,?_⟩) ?_
       rotate_left
       ·intro x hSx
        try dsimp only at hSx
        go_simp
        try with_reducible rfl
       simp only [Act.put]
       refine wto (j:=6) (by kernel_rfl) rfl (fun K hK=>?_)
       go_simp
       refine hK.out _ _ (fun hx=>absurd (hx.symm.trans (by kernel_rfl)) Bool.false_ne_true) ?_
       clear hK K
       refine wpTill_done (by kernel_rfl) ?_ _
       clear cn ce hst hon hrow hput hS4 hS3 r0 r1 r2 r3 fE hX hd hY2
       go_wp2
       go_roundw
       case rel=>exact ⟨n+1,by have:=uh HL;omega,by go_num,hX2⟩
       case measure=>simp [intOf];have:=uh HL;omega
      ·obtain rfl:n=40:=by omega
       have hge:¬((40:Nat):Int)<40:=by omega
       clear hlt hn
       have hbox:Lie wr W 29 11 (Gd.box (Sn.rs F) gC gE gI 384 32 40 (Sn.rg F)):=by
        refine (uh hX).1.box.congr fun c hc=>?_
        rw [uh HB6,uh HB5,uh HH,←uh HZ]
        have q8:=Sn.be_bound 8 F 0 (fun j _=>(uh hX).1.src.byte _)
        have q4:=Sn.be_bound 4 F 8 (fun j _=>(uh hX).1.src.byte _)
        have f12:=(uh hX).1.src.byte 12
        have f13:=(uh hX).1.src.byte 13
        have e0:V0=Sn.rs F 0:=by
         rw [←uh hv0,IntKind.wrap_i64]
         show _=if Sn.be (Sn.cut F 0 8)<9223372036854775808 then _ else _
         split <;> omega
        have e1:V1=Sn.rs F 1:=by
         rw [←uh hv1,IntKind.wrap_i64]
         show _=Sn.be (Sn.cut F 8 4)
         omega
        have e2:V2=Sn.rs F 2:=by
         rw [←uh hv2,IntKind.wrap_i64]
         show _=F 12
         have:Sn.be (Sn.cut F 12 1)=F 12:=by simp [Sn.be,Sn.cut]
         omega
        have e3:V3=Sn.rs F 3:=by
         rw [←uh hv3,IntKind.wrap_i64]
         show _=F 13
         have:Sn.be (Sn.cut F 13 1)=F 13:=by simp [Sn.be,Sn.cut]
         omega
        rw [e0,e1,e2,e3]
        rcases (show c=0∨c=1∨c=2∨c=3∨c=4∨c=5∨c=6∨c=7∨c=8∨c=9∨c=10 by omega) with rfl | rfl | rfl | rfl | rfl | rfl | rfl | rfl | rfl | rfl | rfl <;> rfl
       have hfo:Hid (∀vs,Gd.Worlds w (Sn.rs F) (Sn.rg F) (Sn.rc F) (Sn.rE F) (Sn.rI F) (.returned (.agg (Gd.world (Sn.rs F) gC gE gI 384 32 40 (Sn.rg F)))) (wr.setCells P 0 vs)):=fun vs=>by
        have h:=uh hX
        have hE:Lie wr gE 45 352 (En.flat (Sn.rE F)):=h.2.2.1.congr fun c hc=>by
         show Value.int .i64 (Sn.fill (Sn.rE F) 32 (c / 11) (c % 11))=.int .i64 (Sn.rE F (c / 11) (c % 11))
         unfold Sn.fill
         rw [if_pos (by omega)]
        have hI:Lie wr gI 47 160 (Gd.flat (Sn.rI F)):=h.2.2.2.congr fun c hc=>by
         show Value.int .i64 (Sn.fill (Sn.rI F) 40 (c / 4) (c % 4))=.int .i64 (Sn.rI F (c / 4) (c % 4))
         unfold Sn.fill
         rw [if_pos (by omega)]
        exact ⟨gC,gE,gI,384,32,40,rfl,by omega,uh LC,uh LgE,uh LgI,h.2.1.type_ne hE (by decide),h.2.1.type_ne hI (by decide),hE.type_ne hI (by decide),⟨h.2.1.others (h.1.res.type_ne h.2.1 (by decide)) _ _,hE.others (h.1.res.type_ne hE (by decide)) _ _,hI.others (h.1.res.type_ne hI (by decide)) _ _⟩,own_sets h.1.lP vs 0 wr h.1.grown⟩
       obtain ⟨b0,b1,b2,b3,b4,b5,b6,b7,b8,b9,b10⟩:=hbox.eleven
       have fz:=(uh hX).1.res.free
       obtain ⟨z0,z1,z2,z3,z4,z5,z6,z7,z8,z9,z10⟩:=Gd.res_cells (uh hX).1.res
       generalize Sn.rs F=sF at *
       generalize Sn.rg F=gF at *
       clear hbox hX hb5 hge HB5 HB6 HH HZ hv0 hv1 hv2 hv3
       go_wp2
       refine bodyPost_ret (v:=.agg (Gd.world sF gC gE gI 384 32 40 gF)) (by simp [results,Try.results43,go_sem,Gd.world,z0,z1,z2,z3,z4,z5,z6,z7,z8,z9,z10]) rfl ?_
       exact uh hfo [_,_,_,_,_,_,_,_,_,_,_]


open Go.RowKit

set_option maxHeartbeats 6400000 in
theorem refLay_any (b cp n cm:Nat) (a:Option Addr) (I M:Nat→Nat→Int) (w:World) (hL:Lie w b 47 160 (Gd.flat I)) (hM:Gd.Some w a n M) :
  Calls Try.prog 64 #[.slice (some ⟨b,0,none⟩) 40 cp,.slice a n cm] w (Gd.Gives40 w (Gd.lay I M n)):=by
 have hn:=hM.1
 have hL':=hide hL
 have hM':=hide hM
 obtain ⟨iI,hiI,hzI0,hzI1,hzI2⟩:=info_parts info_item
 clear hL hM
 go_enter Try.func64,Try.ntmps64
 go_wp2_with (at_builtin;refine wpList_append_own _ rfl _ _ 23 rfl w.heap.size 47 iI (.agg #[.int .i64 0,.int .i64 0,.int .i64 0,.int .i64 0]) 4 32 Try.underlying23 hiI hzI0 hzI1 hzI2 rfl (by decide) _ 0 [] rfl (World.ownsRow_made _ _ _ (Nat.le_refl _) (by decide) (by simp)) ⟨b,0,none⟩ 40 cp (Gd.list 160 (Gd.flat I)) rfl (Gd.list_len _ _) (Gd.list_src fun q hq=>(gce (World.grownBy_alloc _ _ none) b q (uh hL').lt (by simp)).trans ((uh hL').cell hq)) (Gd.list_one fun _=>rfl) ?c4 ?c5 ?c6 ?_)
 case c4=>unfold maxLen;omega
 case c5=>omega
 case c6=>simp
 intro v' w1 hown hgrow hnil
 obtain ⟨g,cap,rfl,hlo,hnc,hlie⟩:=Lie.of_append (n:=40) (z:=4) (F:=Gd.flat I) hown (by simpa using hnil)
 have hg1:=hide (gow (World.grownBy_alloc w _ none) hgrow (fun k e=>by cases e;exact Nat.le_refl _))
 have hl1:=hide hlie
 have hlo':=hide hlo
 clear hown hgrow hnil hlie hlo hnc hiI hzI0 hzI1 hzI2
 go_wp2_with fail
 go_loopw [6] (fun i wr=>∃m:Nat,m≤n∧i=.int .i64 (m:Int)∧Lie wr g 47 160 (Gd.flat (Gd.lay I M m))∧w.grownBy wr none) (fun i _=>200 - (intOf i).toNat)
 case atStart=>exact ⟨0,by omega,rfl,uh hl1,uh hg1⟩
 case round =>
  obtain ⟨m,hm,rfl,hJ,hgr⟩:=hrel
  have hJ':=hide hJ
  have hgr':=hide hgr
  clear hJ hgr
  by_cases hlt:m<n
  ·have hlt':(m:Int)<(n:Int):=by omega
   have HL:=hide hlt
   obtain ⟨bm,om,rfl,lbm,v0,v1,v2,v3⟩:=((uh hM').on (uh hgr')).row hlt
   have hbg:bm≠g:=by
    have h1:=uh hlo'
    obtain ⟨_,h0 | ⟨b',o',e,h3⟩⟩:=uh hM'
    ·omega
    ·simp only [Option.some.injEq,Addr.mk.injEq] at e
     have:=h3.2.1
     omega
   have hbg':=hbg.symm
   clear hlt
   go_wp2_with fail
   go_loop [7] (fun i=>∃r:Nat,r≤40∧i=.int .i64 (r:Int)∧∀j,j<r→Gd.goneQ (Gd.lay I M m) j=false) (fun i=>200 - (intOf i).toNat)
   case atStart=>exact ⟨0,by omega,rfl,fun j hj=>by omega⟩
   case round =>
    obtain ⟨r,hr,rfl,hno⟩:=hrel
    have hno':=hide hno
    clear hno
    by_cases hr40:r<40
    ·have hr':(r:Int)<40:=by omega
     have HR:=hide hr40
     obtain ⟨u0,u1,u2,u3⟩:=((uh hJ').its (n:=40) (by omega) (by omega)).row hr40
     have fI:=(uh hJ').free
     have hgq:=hide (show Gd.goneQ (Gd.lay I M m) r=Gd.zeroB (Gd.lay I M m r 0) (Gd.lay I M m r 1) (Gd.lay I M m r 2) (Gd.lay I M m r 3) from rfl)
     by_cases hz:Gd.zeroB (Gd.lay I M m r 0) (Gd.lay I M m r 1) (Gd.lay I M m r 2) (Gd.lay I M m r 3)=true
     ·have hs:=hide (Gd.lay_some (uh hno') ((uh hgq).trans hz) hr40)
      obtain ⟨e0,e1,e2,e3⟩:=(of_decide_eq_true hz:_∧_∧_∧_)
      rw [e0] at u0
      rw [e1] at u1
      rw [e2] at u2
      rw [e3] at u3
      have hJn:=hide ((uh hJ').put r (M m 0) (M m 1) (M m 2) (M m 3))
      have hgn:=hide (gow (uh hgr') (grown_put4 (World.grownBy.refl _ (some g)) r (.int .i64 (M m 0)) (.int .i64 (M m 1)) (.int .i64 (M m 2)) (.int .i64 (M m 3))) (fun k e=>by cases e;exact uh hlo'))
      clear hz e0 e1 e2 e3 hgq hr40
      go_wp2
      go_roundw
      case rel=>exact ⟨m+1,by have:=uh HL;omega,by go_num,by rw [uh hs];exact uh hJn,uh hgn⟩
      case measure=>simp [intOf];omega
     ·have hz':Gd.zeroB (Gd.lay I M m r 0) (Gd.lay I M m r 1) (Gd.lay I M m r 2) (Gd.lay I M m r 3)=false:=by simpa using hz
      have hq:=hide ((uh hgq).trans hz')
      have hcmp:∀wx:World,(binOp .eql 47 (.agg #[.int .i64 (Gd.lay I M m r 0),.int .i64 (Gd.lay I M m r 1),.int .i64 (Gd.lay I M m r 2),.int .i64 (Gd.lay I M m r 3)]) (.agg #[.int .i64 0,.int .i64 0,.int .i64 0,.int .i64 0])).run Try.prog wx=.ok (.bool false) wx:=fun wx=>by
       rw [run_eq_item]
       refine congrArg (fun z=>Result.ok (Value.bool z) wx) ?_
       have h:=of_decide_eq_false hz'
       rw [←Bool.not_eq_true]
       simp only [Bool.and_eq_true,decide_eq_true_eq]
       exact h
      clear hz hz' hgq hr40
      go_wp2
      go_round
      case rel=>exact ⟨r+1,by have:=uh HR;omega,by go_num,fun j hj=>by
       by_cases e:j=r
       ·rw [e];exact uh hq
       ·exact uh hno' j (by omega)⟩
      case measure=>simp [intOf];omega
    ·have hge:¬(r:Int)<40:=by omega
     have hs:=hide (Gd.lay_none (I:=I) (M:=M) (m:=m) (fun j hj=>uh hno' j (by omega)))
     go_wp2
     go_roundw
     case rel=>exact ⟨m+1,by have:=uh HL;omega,by go_num,by rw [uh hs];exact uh hJ',uh hgr'⟩
     case measure=>simp [intOf];omega
  ·have hge:¬(m:Int)<(n:Int):=by omega
   obtain rfl:m=n:=by omega
   go_wp2
   go_ret
   exact ⟨g,cap,rfl,uh hlo',uh hJ',uh hgr'⟩


open Go.RowKit

theorem Sn.wanted {c a b:Prop} [Decidable c] (hc:c) (h:a):if c then a else b:=by
 rw [if_pos hc]
 exact h

set_option maxRecDepth 16000 in
set_option maxHeartbeats 12800000 in
theorem refEncode_any (s g c:Nat→Int) (E I:Nat→Nat→Int) (gC gE gI cC cE cI:Nat) (w:World) (hL:Gd.Lists w gC gE gI c E I) (hck:∀x,Gd.Lists x gC gE gI c E I→Calls Try.prog 10 #[.agg (Gd.world s gC gE gI cC cE cI g)] x (Sn.Told x s g c E I)) :
  Calls Try.prog 8 #[.agg (Gd.world s gC gE gI cC cE cI g)] w (Sn.Encodes w s g c E I):=by
 obtain ⟨wz,hwz⟩:∃wz,wz=w.alloc (.cells (Gd.world s gC gE gI cC cE cI g) 29):=⟨_,rfl⟩
 have hg0:w.grownBy wz none:=by rw [hwz];exact World.grownBy_alloc _ _ _
 have hO:Hid (Sn.Shown w wz w.heap.size gC gE gI cC cE cI s g c E I):=by
  refine ⟨?_,hL.on hg0,hg0⟩
  rw [hwz]
  exact (Arr.world (heap_alloc_new w _)).lie
 obtain ⟨i0,hi,hz0,hz1,hz2⟩:=info_parts info_byte
 have lE:=hide (And.intro hL.cells.lt (And.intro hL.ents.lt hL.items.lt))
 have cc:=hide hck
 have sz:Hid (wz.heap.size=w.heap.size+1):=by
  show wz.heap.size=_
  rw [hwz]
  simp
 clear hL hg0 hck
 unfold Gd.world at hwz cc ⊢
 go_enter Try.func8,Try.ntmps8
 go_upto_region 1 with fail
 rw [←hwz]
 clear hwz
 obtain ⟨B,hBe⟩:∃B,w.heap.size=B:=⟨_,rfl⟩
 have HBe:=hide hBe
 rw [hBe] at hO ⊢
 clear hBe
 obtain ⟨b0,b1,b2,b3,b4,b5,b6,b7,b8,b9,b10⟩:=(uh hO).box.eleven
 go_wp2_with fail
 refine (uh cc _ (uh hO).lists).mono ?_
 rintro e w0 ⟨r,rfl,hr,hg⟩
 have hO1:=hide ((uh hO).on hg)
 have HR:=hide hr
 have HS:Hid (w.heap.size+1≤w0.heap.size):=(show w.heap.size+1≤w0.heap.size by have:=hg.size;have:=uh sz;omega)
 clear hg hO cc b0 b1 b2 b3 b4 b5 b6 b7 b8 b9 b10 hr sz
 by_cases h0:r=0
 case neg =>
  have h0':(r != 0)=true:=by simp [h0]
  have hfin:Hid (Sn.Encodes w s g c E I (.returned (.tuple #[.slice none 0 0,.int .i64 r])) w0):=⟨_,r,rfl,uh HR,fun _=>rfl,fun h=>absurd h h0,(uh hO1).grown⟩
  clear h0
  go_wp2
  go_ret2
  exact uh hfin
 have h0':(r != 0)=false:=by simp [h0]
 have HC:Hid (Sn.Chk s g c E I 0):=by
  have e:=uh HR
  rw [h0] at e
  exact e
 clear h0 HR
 obtain ⟨base,hbase⟩:∃base,w0.heap.size=base:=⟨_,rfl⟩
 have HB0:Hid (base≤w0.heap.size):=(show base≤w0.heap.size by omega)
 have HB:Hid (w.heap.size+1≤base):=(show w.heap.size+1≤base by have:=uh HS;omega)
 have hlists:Hid (∀x,Below base w0 x→Lie x B 29 11 (Gd.box s gC gE gI cC cE cI g)∧Gd.Lists x gC gE gI c E I):=fun x hx=>by
  have:=uh HB
  have:=uh HBe
  obtain ⟨l1,l2,l3⟩:=uh lE
  exact ⟨(uh hO1).box.below hx (by omega),(uh hO1).lists.below hx (by omega) (by omega) (by omega)⟩
 have cN:=hide (fun (n:Nat) (x:Int) (v:Value) (l:List Int) (y:World) (hn:n≤8) (h:Sn.Bytes y base v l) (hb:base≤y.heap.size) (hl:l.length≤1000)=>refNum_any n base x v l y hn h hb hl)
 have hW1:Hid (Sn.Wr w0 w0.drew base (.slice none 0 0) []):=⟨World.ownsRow_nil _ _ _ _,below_drewN (Below.refl _ _) 1⟩
 clear HS hbase
 have hG0:=hide (uh hO1).grown
 go_upto_region 4 with fail
 have hk4:Hid (∀x,Below base w0 x→x.cell? ⟨B,0,none⟩=some (.int .i64 (s 0))∧x.cell? ⟨B,1,none⟩=some (.int .i64 (s 1))):=fun x hx=>⟨(uh hlists x hx).1.eleven.1,(uh hlists x hx).1.eleven.2.1⟩
 go_cut [5] from 15 to 23 (fun v3 wx=>Hid (Sn.Wr w0 wx base v3 (Sn.num 8 (s 0 % 18446744073709551616) ++ Sn.num 4 (s 1 % 18446744073709551616))))
 case first =>
  refine wp_region_till (h:=8) (S:=fun x=>x.cell? ⟨B,0,none⟩=some (.int .i64 (s 0))∧x.cell? ⟨B,1,none⟩=some (.int .i64 (s 1))) (by kernel_rfl) ?_
  have hS0:=uh hk4 _ (uh hW1).bel
  refine wtk (i:=0) (v:=?_) [8] rfl (by kernel_rfl) (by kernel_rfl) (by kernel_rfl) (by kernel_rfl) (fun _ _ _ h=>h) hS0 (Or.inl ⟨by rfl,?_⟩) ?_
  rotate_left
  ·intro x hSx
   try dsimp only at hSx
   go_simp
   try with_reducible rfl
  simp only [Act.put]
  refine wtk (i:=1) (v:=?_) [8] rfl (by kernel_rfl) (by kernel_rfl) (by kernel_rfl) (by kernel_rfl) (fun _ _ _ h=>h) hS0 (Or.inl ⟨by rfl,?_⟩) ?_
  rotate_left
  ·intro x hSx
   try dsimp only at hSx
   go_simp
   try with_reducible rfl
  simp only [Act.put]
  refine wtk (i:=2) (v:=?_) [8] rfl (by kernel_rfl) (by kernel_rfl) (by kernel_rfl) (by kernel_rfl) (fun _ _ _ h=>h) hS0 (Or.inl ⟨by rfl,?_⟩) ?_
  rotate_left
  ·intro x hSx
   try dsimp only at hSx
   go_simp
   try with_reducible rfl
  simp only [Act.put]
  refine wtk (i:=4) (v:=?_) [8] rfl (by kernel_rfl) (by kernel_rfl) (by kernel_rfl) (by kernel_rfl) (fun _ _ _ h=>h) hS0 (Or.inl ⟨by rfl,?_⟩) ?_
  rotate_left
  ·intro x hSx
   try dsimp only at hSx
   go_simp
   try with_reducible rfl
  simp only [Act.put]
  refine wtk (i:=5) (v:=?_) [8] rfl (by kernel_rfl) (by kernel_rfl) (by kernel_rfl) (by kernel_rfl) (fun _ _ _ h=>h) hS0 (Or.inl ⟨by rfl,?_⟩) ?_
  rotate_left
  ·intro x hSx
   try dsimp only at hSx
   go_simp
   try with_reducible rfl
  simp only [Act.put]
  refine wtk (i:=6) (v:=?_) [8] rfl (by kernel_rfl) (by kernel_rfl) (by kernel_rfl) (by kernel_rfl) (fun _ _ _ h=>h) hS0 (Or.inl ⟨by rfl,?_⟩) ?_
  rotate_left
  ·intro x hSx
   try dsimp only at hSx
   go_simp
   try with_reducible rfl
  simp only [Act.put]
  refine wto (j:=3) (by kernel_rfl) rfl (fun K hK=>?_)
  go_simp
  refine (uh cN 8 _ _ [] _ (by omega) (uh hW1).own ((uh hW1).top (uh HB0)) (by simp)).mono ?_
  rintro e w2 ⟨v2,rfl,hown,hbel⟩
  have hW2:=hide ((uh hW1).adds hown hbel)
  rw [List.nil_append,Sn.wrap64] at hW2
  have hS2:=uh hk4 _ (uh hW2).bel
  clear hown hbel hW1
  try go_simp
  refine hK.out _ _ (fun _=>hS2) ?_
  clear hK K
  refine wto (j:=7) (by kernel_rfl) rfl (fun K hK=>?_)
  go_simp
  refine (uh cN 4 _ _ _ _ (by omega) (uh hW2).own ((uh hW2).top (uh HB0)) (by rw [Sn.num_len];omega)).mono ?_
  rintro e w3 ⟨v3,rfl,hown,hbel⟩
  have hW3:=hide ((uh hW2).adds hown hbel)
  rw [Sn.wrap64] at hW3
  have hS3:=uh hk4 _ (uh hW3).bel
  clear hown hbel hW2
  try go_simp
  refine hK.out _ _ (fun _=>hS3) ?_
  clear hK K
  refine wto (j:=8) (by kernel_rfl) rfl (fun K hK=>?_)
  go_simp
  refine hK.out _ _ (fun hx=>absurd (hx.symm.trans (by kernel_rfl)) Bool.false_ne_true) ?_
  clear hK K
  refine wpTill_done (by kernel_rfl) ?_ _
  go_wp2_with fail
  go_meet
  exact hW3
 case rest =>
 have hW3:Hid (Sn.Wr w0 wc base u5 (Sn.num 8 (s 0 % 18446744073709551616) ++ Sn.num 4 (s 1 % 18446744073709551616))):=hcut
 clear hcut hW1 hk4
 obtain ⟨b0,b1,b2,b3,b4,b5,b6,b7,b8,b9,b10⟩:=(uh hlists wc (uh hW3).bel).1.eleven
 have t2:IntKind.u8.wrap (s 2)=s 2 % 256:=Sn.wrap8 _
 have t3:IntKind.u8.wrap (s 3)=s 3 % 256:=Sn.wrap8 _
 go_upto_region 5 with fail
 go_wp2_with (at_builtin;refine wpList_append_own _ rfl _ _ 25 rfl base 5 i0 (.int .u8 0) 1 1 Try.underlying25 hi hz0 hz1 hz2 rfl (by decide) _ _ _ rfl ((uh hW3).own.alloc _) ⟨wc.heap.size,0,none⟩ 2 2 [.int .u8 (s 2 % 256),.int .u8 (s 3 % 256)] rfl rfl (Sn.news wc #[.int .u8 (s 2 % 256),.int .u8 (s 3 % 256)] _ _ rfl) ?_ ?_ ?_ ?_ ?_)
 ·intro u hu
  simp only [List.mem_cons,List.not_mem_nil,or_false] at hu
  rcases hu with rfl | rfl <;> rfl
 ·simp [Sn.num_len];unfold maxLen;omega
 ·simp [Sn.num_len]
 ·have:=(uh hW3).top (uh HB0);simp;omega
 intro v4 w4 hown hgrow _
 have hW4:Hid (Sn.Wr w0 w4 base v4 (Sn.head s)):=(uh hW3).more (m:=2) (ns:=[s 2 % 256,s 3 % 256]) (uh HB0) (World.grownBy_alloc _ _ _) (by simpa using hown) rfl hgrow
 clear hown hgrow hW3 b0 b1 b2 b3 b4 b5 b6 b7 b8 b9 b10 t2 t3
 go_wp2_with fail
 go_loopw [5,6] (fun v5 v6 wr=>∃k:Nat,k≤4∧v6=.int .i64 (k:Int)∧Hid (Sn.Wr w0 wr base v5 (Sn.head s ++ Sn.golds k g))) (fun _ v6 _=>10 - (intOf v6).toNat)
 case atStart=>exact ⟨0,by omega,rfl,by simpa [Sn.golds] using hW4⟩
 case round =>
  clear hW4
  obtain ⟨k,hk,rfl,hX⟩:=hrel
  have hlen:Hid ((Sn.head s ++ Sn.golds k g).length=14+k*2):=by show (Sn.head s ++ Sn.golds k g).length=_;rw [List.length_append,Sn.head_len,Sn.golds_len]
  by_cases hlt:k<4
  ·have hlt':(k:Int)<4:=by omega
   have HL:=hide hlt
   have bk:wr.cell? ⟨B,7+k,none⟩=some (.int .i64 (g k)):=by
    rw [(uh hlists wr (uh hX).bel).1.cell (c:=7+k) (by omega),Gd.box_gold _ _ _ _ _ _ _ _ k hlt]
   clear hlt hk
   go_wp2_with fail
   refine (uh cN 2 _ _ _ _ (by omega) (uh hX).own ((uh hX).top (uh HB0)) (by have:=uh hlen;have:=uh HL;omega)).mono ?_
   rintro e w5 ⟨v5,rfl,hown,hbel⟩
   have hX2:=hide ((uh hX).adds hown hbel)
   rw [Sn.wrap64,List.append_assoc,←Sn.golds_more] at hX2
   clear hown hbel hX bk hlen
   go_wp2
   go_roundw
   case rel=>exact ⟨k+1,by have:=uh HL;omega,by go_num,hX2⟩
   case measure=>simp [intOf];have:=uh HL;omega
  ·obtain rfl:k=4:=by omega
   have hge:¬((4:Nat):Int)<4:=by omega
   clear hlt hk
   have b4:=(uh hlists wr (uh hX).bel).1.eleven.2.2.2.2.1
   go_upto_region 10 with fail
   go_wp2_with (at_builtin;refine wpList_append_own _ rfl _ _ 25 rfl base 5 i0 (.int .u8 0) 1 1 Try.underlying25 hi hz0 hz1 hz2 rfl (by decide) _ _ _ rfl (uh hX).own ⟨gC,0,none⟩ 384 cC (((List.range 384).map c).map (Value.int .u8)) rfl (by simp) (Sn.cells_src (uh hlists wr (uh hX).bel).2.cells) ?_ ?_ ?_ ?_ ?_)
   ·intro u hu
    obtain ⟨x,_,rfl⟩:=List.mem_map.1 hu
    rfl
   ·have:=Sn.head_len s;have:=Sn.golds_len g 4;unfold maxLen;omega
   ·have:=Sn.head_len s;have:=Sn.golds_len g 4;omega
   ·exact (uh hX).top (uh HB0)
   intro v6 w6 hown hgrow _
   have hW6:Hid (Sn.Wr w0 w6 base v6 (Sn.head s ++ Sn.golds 4 g ++ (List.range 384).map c)):=(uh hX).more (m:=384) (uh HB0) (World.grownBy.refl _ _) hown (by simp) hgrow
   clear hown hgrow hX b4 hlen hge
   go_upto_region 11 with fail
   go_wp2_with fail
   go_loopw [5,7,8] (fun v5 v7 v8 wr=>∃k:Nat,k≤32∧v7=.int .i64 (k:Int)∧Hid (Sn.Wr w0 wr base v5 (Sn.head s ++ Sn.golds 4 g ++ (List.range 384).map c ++ Sn.rows k 11 E))) (fun _ v7 _ _=>40 - (intOf v7).toNat)
   case atStart=>exact ⟨0,by omega,rfl,by simpa [Sn.rows] using hW6⟩
   case round =>
    clear hW6
    obtain ⟨k,hk,rfl,hX⟩:=hrel
    have hlen:Hid ((Sn.head s ++ Sn.golds 4 g ++ (List.range 384).map c ++ Sn.rows k 11 E).length=406+k*11):=by show (Sn.head s ++ Sn.golds 4 g ++ (List.range 384).map c ++ Sn.rows k 11 E).length=_;rw [List.length_append,Sn.len22,Sn.rows_len]
    have b5:=(uh hlists wr (uh hX).bel).1.eleven.2.2.2.2.2.1
    by_cases hlt:k<32
    ·have hlt':(k:Int)<32:=by omega
     have HL:=hide hlt
     obtain ⟨r0,r1,r2,r3,r4,r5,r6,r7,r8,r9,r10⟩:=(uh hlists wr (uh hX).bel).2.own.ents.row hlt
     clear hlt hk
     obtain ⟨l,hl⟩:∃l,Sn.head s ++ Sn.golds 4 g ++ (List.range 384).map c ++ Sn.rows k 11 E=l:=⟨_,rfl⟩
     rw [hl] at hX hlen
     have hl':=hide hl
     clear hl
     go_upto_region 15 with fail
     obtain ⟨wd,hwd⟩:∃wd,wd=wr.alloc (.cells (En.cells (E k)) 45):=⟨_,rfl⟩
     have hgd:wr.grownBy wd none:=by rw [hwd];exact World.grownBy_alloc _ _ _
     have hD:Hid (Lie wd wr.heap.size 45 11 (Ints (E k))):=by show Lie wd _ _ _ _;rw [hwd];exact Sn.born wr (E k) 45
     have hXd:=hide ((uh hX).on (uh HB0) hgd)
     unfold En.cells at hwd
     rw [←hwd]
     clear hwd hgd hX b5 r0 r1 r2 r3 r4 r5 r6 r7 r8 r9 r10
     obtain ⟨D,hDe⟩:∃D,wr.heap.size=D:=⟨_,rfl⟩
     rw [hDe] at hD ⊢
     clear hDe wr
     obtain ⟨d0,d1,d2,d3,d4,d5,d6,d7,d8,d9,d10⟩:=Sn.row (uh hD)
     have tw:∀j,IntKind.u8.wrap (E k j)=E k j % 256:=fun j=>Sn.wrap8 _
     go_wp2_with (at_builtin;refine wpList_append_own _ rfl _ _ 25 rfl base 5 i0 (.int .u8 0) 1 1 Try.underlying25 hi hz0 hz1 hz2 rfl (by decide) _ _ _ rfl ((uh hXd).own.alloc _) ⟨wd.heap.size,0,none⟩ 11 11 (#[.int .u8 (E k 0 % 256),.int .u8 (E k 1 % 256),.int .u8 (E k 2 % 256),.int .u8 (E k 3 % 256),.int .u8 (E k 4 % 256),.int .u8 (E k 5 % 256),.int .u8 (E k 6 % 256),.int .u8 (E k 7 % 256),.int .u8 (E k 8 % 256),.int .u8 (E k 9 % 256),.int .u8 (E k 10 % 256)]:Array Value).toList rfl rfl (Sn.news wd _ _ _ rfl) ?_ ?_ ?_ ?_ ?_)
     ·exact ⟨rfl,rfl,rfl,rfl,rfl,rfl,rfl,rfl,rfl,rfl,rfl⟩
     ·have:=uh hlen;have:=uh HL;unfold maxLen;omega
     ·have:=uh hlen;have:=uh HL;omega
     ·have:=(uh hXd).top (uh HB0);simp;omega
     intro v8 w8 hown hgrow _
     have hX2:Hid (Sn.Wr w0 w8 base v8 (l ++ (List.range 11).map fun j=>E k j % 256)):=(uh hXd).more (m:=11) (uh HB0) (World.grownBy_alloc _ _ _) hown (by simp) hgrow
     rw [←uh hl',List.append_assoc,←Sn.rows_more] at hX2
     clear hown hgrow hXd hD d0 d1 d2 d3 d4 d5 d6 d7 d8 d9 d10 tw hlen
     go_wp2
     go_roundw
     case rel=>exact ⟨k+1,by have:=uh HL;omega,by go_num,hX2⟩
     case measure=>simp [intOf];have:=uh HL;omega
    ·obtain rfl:k=32:=by omega
     have hge:¬((32:Nat):Int)<32:=by omega
     clear hlt hk
     go_upto_region 16 with fail
     go_wp2_with fail
     go_loopw [5,9] (fun v5 v9 wr=>∃k:Nat,k≤40∧v9=.int .i64 (k:Int)∧Hid (Sn.Wr w0 wr base v5 (Sn.head s ++ Sn.golds 4 g ++ (List.range 384).map c ++ Sn.rows 32 11 E ++ Sn.rows k 4 I))) (fun _ v9 _=>50 - (intOf v9).toNat)
     case atStart=>exact ⟨0,by omega,rfl,by simpa [Sn.rows] using hX⟩
     case round =>
      clear hX b5 hge hlen
      obtain ⟨k,hk,rfl,hX⟩:=hrel
      have hlen:Hid ((Sn.head s ++ Sn.golds 4 g ++ (List.range 384).map c ++ Sn.rows 32 11 E ++ Sn.rows k 4 I).length=758+k*4):=by show (Sn.head s ++ Sn.golds 4 g ++ (List.range 384).map c ++ Sn.rows 32 11 E ++ Sn.rows k 4 I).length=_;rw [List.length_append,Sn.len406,Sn.rows_len]
      have b6:=(uh hlists wr (uh hX).bel).1.eleven.2.2.2.2.2.2.1
      by_cases hlt:k<40
      ·have hlt':(k:Int)<40:=by omega
       have HL:=hide hlt
       obtain ⟨l,hl⟩:∃l,Sn.head s ++ Sn.golds 4 g ++ (List.range 384).map c ++ Sn.rows 32 11 E ++ Sn.rows k 4 I=l:=⟨_,rfl⟩
       rw [hl] at hX hlen
       have hl':=hide hl
       clear hl
       have hks:Hid (∀x,Below base w0 x→x.cell? ⟨B,6,none⟩=some (.slice (some ⟨gI,0,none⟩) 40 cI)∧x.cell? ⟨gI,k*4,none⟩=some (.int .i64 (I k 0))∧x.cell? ⟨gI,k*4+1,none⟩=some (.int .i64 (I k 1))∧x.cell? ⟨gI,k*4+2,none⟩=some (.int .i64 (I k 2))∧x.cell? ⟨gI,k*4+3,none⟩=some (.int .i64 (I k 3))):=fun x hx=>⟨(uh hlists x hx).1.eleven.2.2.2.2.2.2.1,(uh hlists x hx).2.its.row (uh HL)⟩
       have tw:∀j,IntKind.u8.wrap (I k j)=I k j % 256:=fun j=>Sn.wrap8 _
       clear hlt hk
       have hXd':Hid (Sn.Wr w0 wr.drew base u5 l):=(uh hX).on (uh HB0) (gd1 (World.grownBy.refl _ none))
       go_upto_region 19 with fail
       clear b6
       have hsrc0:∀j u,(#[.int .u8 (I k 0 % 256),.int .u8 (I k 1 % 256),.int .u8 (I k 2 % 256),.int .u8 (I k 3 % 256)]:Array Value).toList[j]?=some u→(wr.drew.alloc (.cells #[.int .u8 (I k 0 % 256),.int .u8 (I k 1 % 256),.int .u8 (I k 2 % 256),.int .u8 (I k 3 % 256)] 5)).cell? ((⟨wr.heap.size,0,none⟩:Addr).add j)=some u:=Sn.news wr.drew _ _ _ (by simp)
       have hsrc:=hide hsrc0
       clear hsrc0
       have hSb:=uh hks (wr.drew.alloc (.cells #[.int .u8 (I k 0 % 256),.int .u8 (I k 1 % 256),.int .u8 (I k 2 % 256),.int .u8 (I k 3 % 256)] 5)) ((uh hXd').on (uh HB0) (World.grownBy_alloc _ _ _)).bel
       have hS0:=uh hks wr.drew (uh hXd').bel
       clear hX
       refine wp_region_till (h:=31) (S:=fun x=>x.cell? ⟨B,6,none⟩=some (.slice (some ⟨gI,0,none⟩) 40 cI)∧x.cell? ⟨gI,k*4,none⟩=some (.int .i64 (I k 0))∧x.cell? ⟨gI,k*4+1,none⟩=some (.int .i64 (I k 1))∧x.cell? ⟨gI,k*4+2,none⟩=some (.int .i64 (I k 2))∧x.cell? ⟨gI,k*4+3,none⟩=some (.int .i64 (I k 3))) (by kernel_rfl) ?_
       refine wtk (i:=0) (v:=?_) [31] rfl (by kernel_rfl) (by kernel_rfl) (by kernel_rfl) (by kernel_rfl) (fun _ _ _ h=>h) hS0 (Or.inl ⟨by rfl,?_⟩) ?_
       rotate_left
       ·intro x hSx
        try dsimp only at hSx
        go_simp
        try with_reducible rfl
       simp only [Act.put]
       refine wtk (i:=1) (v:=?_) [31] rfl (by kernel_rfl) (by kernel_rfl) (by kernel_rfl) (by kernel_rfl) (fun _ _ _ h=>h) hS0 (Or.inl ⟨by rfl,?_⟩) ?_
       rotate_left
       ·intro x hSx
        try dsimp only at hSx
        go_simp
        try with_reducible rfl
       simp only [Act.put]
       refine wtk (i:=2) (v:=?_) [31] rfl (by kernel_rfl) (by kernel_rfl) (by kernel_rfl) (by kernel_rfl) (fun _ _ _ h=>h) hS0 (Or.inl ⟨by rfl,?_⟩) ?_
       rotate_left
       ·intro x hSx
        try dsimp only at hSx
        go_simp
        try with_reducible rfl
       simp only [Act.put]
       refine wtk (i:=3) (v:=?_) [31] rfl (by kernel_rfl) (by kernel_rfl) (by kernel_rfl) (by kernel_rfl) (fun _ _ _ h=>h) hS0 (Or.inl ⟨by rfl,?_⟩) ?_
       rotate_left
       ·intro x hSx
        try dsimp only at hSx
        go_simp
        try with_reducible rfl
       simp only [Act.put]
       refine wtk (i:=4) (v:=?_) [31] rfl (by kernel_rfl) (by kernel_rfl) (by kernel_rfl) (by kernel_rfl) (fun _ _ _ h=>h) hS0 (Or.inl ⟨by rfl,?_⟩) ?_
       rotate_left
       ·intro x hSx
        try dsimp only at hSx
        go_simp
        try with_reducible rfl
       simp only [Act.put]
       refine wtk (i:=5) (v:=?_) [31] rfl (by kernel_rfl) (by kernel_rfl) (by kernel_rfl) (by kernel_rfl) (fun _ _ _ h=>h) hS0 (Or.inl ⟨by rfl,?_⟩) ?_
       rotate_left
       ·intro x hSx
        try dsimp only at hSx
        go_simp
        try with_reducible rfl
       simp only [Act.put]
       refine wtk (i:=6) (v:=?_) [31] rfl (by kernel_rfl) (by kernel_rfl) (by kernel_rfl) (by kernel_rfl) (fun _ _ _ h=>h) hS0 (Or.inl ⟨by rfl,?_⟩) ?_
       rotate_left
       ·intro x hSx
        try dsimp only at hSx
        go_simp
        try with_reducible rfl
       simp only [Act.put]
       refine wtk (i:=7) (v:=?_) [31] rfl (by kernel_rfl) (by kernel_rfl) (by kernel_rfl) (by kernel_rfl) (fun _ _ _ h=>h) hS0 (Or.inl ⟨by rfl,?_⟩) ?_
       rotate_left
       ·intro x hSx
        try dsimp only at hSx
        go_simp
        try with_reducible rfl
       simp only [Act.put]
       refine wtk (i:=8) (v:=?_) [31] rfl (by kernel_rfl) (by kernel_rfl) (by kernel_rfl) (by kernel_rfl) (fun _ _ _ h=>h) hS0 (Or.inl ⟨by rfl,?_⟩) ?_
       rotate_left
       ·intro x hSx
        try dsimp only at hSx
        go_simp
        try with_reducible rfl
       simp only [Act.put]
       refine wtk (i:=9) (v:=?_) [31] rfl (by kernel_rfl) (by kernel_rfl) (by kernel_rfl) (by kernel_rfl) (fun _ _ _ h=>h) hS0 (Or.inl ⟨by rfl,?_⟩) ?_
       rotate_left
       ·intro x hSx
        try dsimp only at hSx
        go_simp
        try with_reducible rfl
       simp only [Act.put]
       refine wtk (i:=10) (v:=?_) [31] rfl (by kernel_rfl) (by kernel_rfl) (by kernel_rfl) (by kernel_rfl) (fun _ _ _ h=>h) hS0 (Or.inl ⟨by rfl,?_⟩) ?_
       rotate_left
       ·intro x hSx
        try dsimp only at hSx
        go_simp
        try with_reducible rfl
       simp only [Act.put]
       refine wtk (i:=11) (v:=?_) [31] rfl (by kernel_rfl) (by kernel_rfl) (by kernel_rfl) (by kernel_rfl) (fun _ _ _ h=>h) hS0 (Or.inl ⟨by rfl,?_⟩) ?_
       rotate_left
       ·intro x hSx
        try dsimp only at hSx
        go_simp
        try with_reducible rfl
       simp only [Act.put]
       refine wtk (i:=12) (v:=?_) [31] rfl (by kernel_rfl) (by kernel_rfl) (by kernel_rfl) (by kernel_rfl) (fun _ _ _ h=>h) hS0 (Or.inl ⟨by rfl,?_⟩) ?_
       rotate_left
       ·intro x hSx
        try dsimp only at hSx
        go_simp
        try with_reducible rfl
       simp only [Act.put]
       refine wtk (i:=13) (v:=?_) [31] rfl (by kernel_rfl) (by kernel_rfl) (by kernel_rfl) (by kernel_rfl) (fun _ _ _ h=>h) hS0 (Or.inl ⟨by rfl,?_⟩) ?_
       rotate_left
       ·intro x hSx
        try dsimp only at hSx
        go_simp
        try with_reducible rfl
       simp only [Act.put]
       refine wtk (i:=14) (v:=?_) [31] rfl (by kernel_rfl) (by kernel_rfl) (by kernel_rfl) (by kernel_rfl) (fun _ _ _ h=>h) hS0 (Or.inl ⟨by rfl,?_⟩) ?_
       rotate_left
       ·intro x hSx
        try dsimp only at hSx
        go_simp
        try with_reducible rfl
       simp only [Act.put]
       refine wtk (i:=15) (v:=?_) [31] rfl (by kernel_rfl) (by kernel_rfl) (by kernel_rfl) (by kernel_rfl) (fun _ _ _ h=>h) hS0 (Or.inl ⟨by rfl,?_⟩) ?_
       rotate_left
       ·intro x hSx
        try dsimp only at hSx
        go_simp
        try with_reducible rfl
       simp only [Act.put]
       refine wtk (i:=16) (v:=?_) [31] rfl (by kernel_rfl) (by kernel_rfl) (by kernel_rfl) (by kernel_rfl) (fun _ _ _ h=>h) hS0 (Or.inl ⟨by rfl,?_⟩) ?_
       rotate_left
       ·intro x hSx
        try dsimp only at hSx
        go_simp
        try with_reducible rfl
       simp only [Act.put]
       refine wtk (i:=17) (v:=?_) [31] rfl (by kernel_rfl) (by kernel_rfl) (by kernel_rfl) (by kernel_rfl) (fun _ _ _ h=>h) hS0 (Or.inl ⟨by rfl,?_⟩) ?_
       rotate_left
       ·intro x hSx
        try dsimp only at hSx
        go_simp
        try with_reducible rfl
       simp only [Act.put]
       refine wtk (i:=18) (v:=?_) [31] rfl (by kernel_rfl) (by kernel_rfl) (by kernel_rfl) (by kernel_rfl) (fun _ _ _ h=>h) hS0 (Or.inl ⟨by rfl,?_⟩) ?_
       rotate_left
       ·intro x hSx
        try dsimp only at hSx
        go_simp
        try with_reducible rfl
       simp only [Act.put]
       refine wtk (i:=19) (v:=?_) [31] rfl (by kernel_rfl) (by kernel_rfl) (by kernel_rfl) (by kernel_rfl) (fun _ _ _ h=>h) hS0 (Or.inl ⟨by rfl,?_⟩) ?_
       rotate_left
       ·intro x hSx
        try dsimp only at hSx
        go_simp
        try with_reducible rfl
       simp only [Act.put]
       refine wtk (i:=20) (v:=?_) [31] rfl (by kernel_rfl) (by kernel_rfl) (by kernel_rfl) (by kernel_rfl) (fun _ _ _ h=>h) hS0 (Or.inl ⟨by rfl,?_⟩) ?_
       rotate_left
       ·intro x hSx
        try dsimp only at hSx
        go_simp
        try with_reducible rfl
       simp only [Act.put]
       refine wtk (i:=21) (v:=?_) [31] rfl (by kernel_rfl) (by kernel_rfl) (by kernel_rfl) (by kernel_rfl) (fun _ _ _ h=>h) hS0 (Or.inl ⟨by rfl,?_⟩) ?_
       rotate_left
       ·intro x hSx
        try dsimp only at hSx
        go_simp
        try with_reducible rfl
       simp only [Act.put]
       refine wtk (i:=22) (v:=?_) [31] rfl (by kernel_rfl) (by kernel_rfl) (by kernel_rfl) (by kernel_rfl) (fun _ _ _ h=>h) hS0 (Or.inl ⟨by rfl,?_⟩) ?_
       rotate_left
       ·intro x hSx
        try dsimp only at hSx
        go_simp
        try with_reducible rfl
       simp only [Act.put]
       refine wtk (i:=23) (v:=?_) [31] rfl (by kernel_rfl) (by kernel_rfl) (by kernel_rfl) (by kernel_rfl) (fun _ _ _ h=>h) hS0 (Or.inl ⟨by rfl,?_⟩) ?_
       rotate_left
       ·intro x hSx
        try dsimp only at hSx
        go_simp
        try with_reducible rfl
       simp only [Act.put]
       refine wtk (i:=24) (v:=?_) [31] rfl (by kernel_rfl) (by kernel_rfl) (by kernel_rfl) (by kernel_rfl) (fun _ _ _ h=>h) hS0 (Or.inl ⟨by rfl,?_⟩) ?_
       rotate_left
       ·intro x hSx
        try dsimp only at hSx
        go_simp
        try with_reducible rfl
       simp only [Act.put]
       refine wtk (i:=25) (v:=?_) [31] rfl (by kernel_rfl) (by kernel_rfl) (by kernel_rfl) (by kernel_rfl) (fun _ _ _ h=>h) hS0 (Or.inl ⟨by rfl,?_⟩) ?_
       rotate_left
       ·intro x hSx
        try dsimp only at hSx
        go_simp
        try with_reducible rfl
       simp only [Act.put]
       refine wtk (i:=26) (v:=?_) [31] rfl (by kernel_rfl) (by kernel_rfl) (by kernel_rfl) (by kernel_rfl) (fun _ _ _ h=>h) hS0 (Or.inl ⟨by rfl,?_⟩) ?_
       rotate_left
       ·intro x hSx
        try dsimp only at hSx
        go_simp
        try with_reducible rfl
       simp only [Act.put]
       refine wtk (i:=27) (v:=?_) [31] rfl (by kernel_rfl) (by kernel_rfl) (by kernel_rfl) (by kernel_rfl) (fun _ _ _ h=>h) hS0 (Or.inl ⟨by rfl,?_⟩) ?_
       rotate_left
       ·intro x hSx
        try dsimp only at hSx
        go_simp
        try with_reducible rfl
       simp only [Act.put]
       refine wtk (i:=28) (v:=?_) [31] rfl (by kernel_rfl) (by kernel_rfl) (by kernel_rfl) (by kernel_rfl) (fun _ _ _ h=>h) hS0 (Or.inl ⟨by rfl,?_⟩) ?_
       rotate_left
       ·intro x hSx
        try dsimp only at hSx
        go_simp
        try with_reducible rfl
       simp only [Act.put]
       refine wto (j:=29) (by kernel_rfl) rfl (fun K hK=>?_)
       go_simp
       try go_simp
       refine hK.out _ _ (fun _=>hSb) ?_
       clear hK K
       refine wto (j:=30) (by kernel_rfl) rfl (fun K hK=>?_)
       refine Sn.wanted (by rfl) ?_
       refine wp_append_own _ _ _ 25 rfl base 5 i0 (.int .u8 0) 1 1 Try.underlying25 hi hz0 hz1 hz2 rfl (by decide) u5 l.length (l.map (Value.int .u8)) rfl ((uh hXd').own.alloc _) ⟨wr.heap.size,0,none⟩ 4 4 (#[.int .u8 (I k 0 % 256),.int .u8 (I k 1 % 256),.int .u8 (I k 2 % 256),.int .u8 (I k 3 % 256)]:Array Value).toList rfl rfl (uh hsrc) (by simp [Value.oneCell']) (by have:=uh hlen;have:=uh HL;unfold maxLen;omega) (by have:=uh hlen;have:=uh HL;omega) (by have:=(uh hXd').top (uh HB0);simp at this ⊢;omega) ?_
       intro v8 w8 hown hgrow _
       have hX2:Hid (Sn.Wr w0 w8 base v8 (l ++ (List.range 4).map fun j=>I k j % 256)):=(uh hXd').more (m:=4) (uh HB0) (World.grownBy_alloc _ _ _) hown (by simp) hgrow
       rw [←uh hl',List.append_assoc,←Sn.rows_more] at hX2
       have hSc:=uh hks w8 (uh hX2).bel
       clear hown hgrow hsrc
       refine hK.out _ _ (fun _=>hSc) ?_
       clear hK K
       refine wto (j:=31) (by kernel_rfl) rfl (fun K hK=>?_)
       go_simp
       refine hK.out _ _ (fun hx=>absurd (hx.symm.trans (by kernel_rfl)) Bool.false_ne_true) ?_
       clear hK K
       refine wpTill_done (by kernel_rfl) ?_ _
       go_wp2
       go_roundw
       case rel=>exact ⟨k+1,by have:=uh HL;omega,by go_num,hX2⟩
       case measure=>simp [intOf];have:=uh HL;omega
      ·obtain rfl:k=40:=by omega
       have hge:¬((40:Nat):Int)<40:=by omega
       have hfin:Hid (∀v,Sn.Wr w0 wr base v (Sn.bytes s g c E I)→Sn.Encodes w s g c E I (.returned (.tuple #[v,.int .i64 0])) wr):=fun v hv=>by
        have e1:=uh HB
        exact ⟨v,0,rfl,uh HC,fun h=>absurd rfl h,fun _=>hv.own.mono (by omega),below_grown (Sn.below_trans (none_below (uh hG0)) (hv.bel.mono (by omega)))⟩
       have hf:=hide (uh hfin _ (uh hX))
       clear hlt hk hX hfin
       go_wp2
       go_ret2
       exact uh hf


open Go.RowKit

set_option maxHeartbeats 3200000 in
theorem refPlaced_any (s g c:Nat→Int) (gC gE gI cC cE cI:Nat) (k p a b:Int) (w:World) (hC:Vec w.heap.size w (some ⟨gC,0,none⟩) 384 (Byts c)) (hc:∀i,0≤c i∧c i≤255) (k1:1≤k) (k5:k≤4) :
  Calls Try.prog 57 #[.agg (Gd.world s gC gE gI cC cE cI g),.agg #[.int .i64 k,.int .i64 p,.int .i64 a,.int .i64 b]] w (Says w (.bool (Gd.fitsB c k p a b))):=by
 obtain ⟨r,hr⟩:∃r,Gd.fitsB c k p a b=r:=⟨_,rfl⟩
 rw [hr]
 have hr':=hide hr
 have hg:=hide (fun (o1 o2:Obj)=>gal (World.grownBy_alloc w o1 none) o2)
 have hC':=hide hC
 have hc':=hide hc
 have ek:Hid (decide (1≤k∧k≤4)=true):=decide_eq_true ⟨k1,k5⟩
 unfold Gd.world
 clear hr hC hc
 by_cases p1:p=1
 ·subst p1
  have he:=uh hr'
  unfold Gd.fitsB at he
  rw [uh ek,Bool.true_and,if_pos rfl] at he
  have he':=hide he
  clear he
  have cI:=fun wx=>refIn_any a b wx
  by_cases hin:Gr.inB a b=true
  ·rw [hin] at cI
   have cI':=hide cI
   have cA:Hid (∀o o':Obj,Calls Try.prog 56 #[.slice (some ⟨gC,0,none⟩) 384 cC,.int .i64 a,.int .i64 b] ((w.alloc o).alloc o') fun e w'=>e=.returned (.int .i64 (Gr.at 384 c a b))∧w'=(w.alloc o).alloc o'):=fun o o'=>refAt_any w.heap.size (some ⟨gC,0,none⟩) 384 cC c a b _ ((uh hC').kept (none_below (uh hg o o'))) (uh hc')
   obtain ⟨A,hA⟩:∃A,Gr.at 384 c a b=A:=⟨_,rfl⟩
   rw [hA] at cA he'
   clear hA cI
   go_enter Try.func57,Try.ntmps57
   go_wp2_with fail
   refine (uh cI' _).mono ?_
   rintro e w' ⟨rfl,hw⟩
   subst w'
   go_wp2_with fail
   refine (uh cA _ _).mono ?_
   rintro e w' ⟨rfl,hw⟩
   subst w'
   go_wp2_with fail
   refine (refWalk_any A _).mono ?_
   rintro e w' ⟨rfl,hw⟩
   subst w'
   go_wp2
   go_ret
   exact ret_says (uh he') (uh hg _ _)
  ·have hin':Gr.inB a b=false:=by simpa using hin
   rw [hin'] at cI
   have cI':=hide cI
   have hf:=hide (show false=r by rw [←uh he',Gd.at_out hin'];rfl)
   clear cI hin
   go_enter Try.func57,Try.ntmps57
   go_wp2_with fail
   refine (uh cI' _).mono ?_
   rintro e w' ⟨rfl,hw⟩
   subst w'
   go_wp2
   go_ret
   exact ret_says (uh hf) (uh hg _ _)
 ·by_cases p2:p=2
  ·subst p2
   have he:=uh hr'
   unfold Gd.fitsB at he
   rw [uh ek,Bool.true_and,if_neg (by decide),if_pos rfl] at he
   have he':=hide he
   clear he p1
   unfold Gd.isSeat at he'
   by_cases a0:0≤a
   ·by_cases a4:a<4
    ·by_cases b0:0≤b
     ·by_cases b4:b<4
      ·by_cases k4:k=4
       ·have hf:=hide (show false=r by rw [←uh he'];simp [k4])
        subst k4
        go_enter Try.func57,Try.ntmps57
        go_wp2
        go_ret
        exact ret_says (uh hf) (uh hg _ _)
       ·have hf:=hide (show true=r by rw [←uh he'];simp [k4,a0,a4,b0,b4])
        have k4':(k == 4)=false:=by simp [k4]
        go_enter Try.func57,Try.ntmps57
        go_wp2
        go_ret
        exact ret_says (by rw [←uh hf];simp [k4]) (uh hg _ _)
      ·have hf:=hide (show false=r by rw [←uh he'];simp [b4])
       go_enter Try.func57,Try.ntmps57
       go_wp2
       go_ret
       exact ret_says (uh hf) (uh hg _ _)
     ·have hf:=hide (show false=r by rw [←uh he'];simp [b0])
      go_enter Try.func57,Try.ntmps57
      go_wp2
      go_ret
      exact ret_says (uh hf) (uh hg _ _)
    ·have hf:=hide (show false=r by rw [←uh he'];simp [a4])
     go_enter Try.func57,Try.ntmps57
     go_wp2
     go_ret
     exact ret_says (uh hf) (uh hg _ _)
   ·have hf:=hide (show false=r by rw [←uh he'];simp [a0])
    go_enter Try.func57,Try.ntmps57
    go_wp2
    go_ret
    exact ret_says (uh hf) (uh hg _ _)
  ·by_cases p3:p=3
   ·subst p3
    have he:=uh hr'
    unfold Gd.fitsB at he
    rw [uh ek,Bool.true_and,if_neg (by decide),if_neg (by decide),if_pos rfl,Gd.serves_7] at he
    have he':=hide he
    clear he p1 p2
    unfold Gd.isSeat at he'
    by_cases a0:0≤a
    ·by_cases a4:a<4
     ·by_cases k2:k=2
      ·subst k2
       by_cases b0:b=0
       ·have hf:=hide (show true=r by rw [←uh he'];simp [a0,a4,b0])
        subst b0
        go_enter Try.func57,Try.ntmps57
        go_wp2
        go_ret
        exact ret_says (uh hf) (uh hg _ _)
       ·have hf:=hide (show false=r by rw [←uh he'];simp [b0])
        have b0':(b == 0)=false:=by simp [b0]
        go_enter Try.func57,Try.ntmps57
        go_wp2
        go_ret
        exact ret_says (uh hf) (uh hg _ _)
      ·have k2':(k == 2)=false:=by simp [k2]
       by_cases k3:k=3
       ·subst k3
        by_cases b1:b=1
        ·have hf:=hide (show true=r by rw [←uh he'];simp [a0,a4,b1])
         subst b1
         go_enter Try.func57,Try.ntmps57
         go_wp2
         go_ret
         exact ret_says (uh hf) (uh hg _ _)
        ·have hf:=hide (show false=r by rw [←uh he'];simp [b1])
         have b1':(b == 1)=false:=by simp [b1]
         go_enter Try.func57,Try.ntmps57
         go_wp2
         go_ret
         exact ret_says (uh hf) (uh hg _ _)
       ·have hf:=hide (show false=r by rw [←uh he'];simp [k2,k3])
        have k3':(k == 3)=false:=by simp [k3]
        go_enter Try.func57,Try.ntmps57
        go_wp2
        go_ret
        exact ret_says (uh hf) (uh hg _ _)
     ·have hf:=hide (show false=r by rw [←uh he'];simp [a4])
      go_enter Try.func57,Try.ntmps57
      go_wp2
      go_ret
      exact ret_says (uh hf) (uh hg _ _)
    ·have hf:=hide (show false=r by rw [←uh he'];simp [a0])
     go_enter Try.func57,Try.ntmps57
     go_wp2
     go_ret
     exact ret_says (uh hf) (uh hg _ _)
   ·by_cases p4:p=4
    ·subst p4
     have he:=uh hr'
     unfold Gd.fitsB at he
     rw [uh ek,Bool.true_and,if_neg (by decide),if_neg (by decide),if_neg (by decide),if_pos rfl] at he
     have he':=hide he
     clear he p1 p2 p3
     by_cases a0:0≤a
     ·by_cases a3:a<3
      ·by_cases b0:b=0
       ·by_cases k4:k=4
        ·have hf:=hide (show false=r by rw [←uh he'];simp [k4])
         subst k4
         go_enter Try.func57,Try.ntmps57
         go_wp2
         go_ret
         exact ret_says (uh hf) (uh hg _ _)
        ·have hf:=hide (show true=r by rw [←uh he'];simp [k4,a0,a3,b0])
         have k4':(k == 4)=false:=by simp [k4]
         subst b0
         go_enter Try.func57,Try.ntmps57
         go_wp2
         go_ret
         exact ret_says (by rw [←uh hf];simp [k4]) (uh hg _ _)
       ·have hf:=hide (show false=r by rw [←uh he'];simp [b0])
        have b0':(b == 0)=false:=by simp [b0]
        go_enter Try.func57,Try.ntmps57
        go_wp2
        go_ret
        exact ret_says (uh hf) (uh hg _ _)
      ·have hf:=hide (show false=r by rw [←uh he'];simp [a3])
       go_enter Try.func57,Try.ntmps57
       go_wp2
       go_ret
       exact ret_says (uh hf) (uh hg _ _)
     ·have hf:=hide (show false=r by rw [←uh he'];simp [a0])
      go_enter Try.func57,Try.ntmps57
      go_wp2
      go_ret
      exact ret_says (uh hf) (uh hg _ _)
    ·have he:=uh hr'
     unfold Gd.fitsB at he
     rw [uh ek,Bool.true_and,if_neg p1,if_neg p2,if_neg p3,if_neg p4] at he
     have he':=hide he
     clear he
     go_enter Try.func57,Try.ntmps57
     go_wp2
     go_ret
     exact ret_says (uh he') (uh hg _ _)


open Go.RowKit

theorem Gd.find_self {I:Nat→Nat→Int} {k:Nat} (hk:k<40):Gd.find I 40 (I k 1) (I k 2) (I k 3)=(k:Int)↔∀j,j<k→¬(I j 1=I k 1∧I j 2=I k 2∧I j 3=I k 3):=by
 rcases Gd.find_cases I 40 (I k 1) (I k 2) (I k 3) with ⟨_,hno⟩ | ⟨m,hm,e,h1,h2,h3,hlow⟩
 ·exact absurd ⟨rfl,rfl,rfl⟩ (hno k hk)
 ·rw [e]
  constructor
  ·intro h j hj
   exact hlow j (by omega)
  ·intro h
   by_cases lt:m<k
   ·exact absurd ⟨h1,h2,h3⟩ (h m lt)
   ·by_cases gt:k<m
    ·exact absurd ⟨rfl,rfl,rfl⟩ (hlow k gt)
    ·have:m=k:=by omega
     rw [this]

theorem Gd.fits_where {c:Nat→Int} {k p a b:Int} (h:Gd.fitsB c k p a b=true):p≠0∧1≤k∧k≤4:=by
 have:=(Gd.fits_iff c (Gd.row k p a b)).1 h
 exact ⟨this.where_ne,this.1,this.2.1⟩

set_option maxHeartbeats 6400000 in
theorem refCheck_any (s g c:Nat→Int) (E I:Nat→Nat→Int) (gC gE gI cC cE cI:Nat) (w:World) (hL:Gd.Lists w gC gE gI c E I) (hc:∀i,0≤c i∧c i≤255) :
  Calls Try.prog 34 #[.agg (Gd.world s gC gE gI cC cE cI g)] w (Tells7 w (Gd.Ok c 40 I)):=by
 obtain ⟨w0,hw0⟩:∃w0,w0=w.alloc (.cells (Gd.world s gC gE gI cC cE cI g) 29):=⟨_,rfl⟩
 have hbox:Lie w0 w.heap.size 29 11 (Gd.box s gC gE gI cC cE cI g):=by rw [hw0];exact (Arr.world (heap_alloc_new w _)).lie
 have hg0:w.grownBy w0 none:=by rw [hw0];exact World.grownBy_alloc _ _ _
 have hL0:=hide (hL.on hg0)
 obtain ⟨B,hB⟩:∃B,w.heap.size=B:=⟨_,rfl⟩
 rw [hB] at hbox
 have hbox':=hide hbox
 have hg0':=hide hg0
 have hc':=hide hc
 obtain ⟨_,_,_,_,_,_,b6,_⟩:=hbox.eleven
 clear hL hc hbox hg0
 unfold Gd.world at hw0 ⊢
 go_enter Try.func34,Try.ntmps34
 go_upto_region 1 with fail
 rw [←hw0]
 clear hw0 hB
 go_wp2_with fail
 go_loopw [3] (fun i wr=>∃k:Nat,k≤40∧i=.int .i64 (k:Int)∧(∀j,j<k→Gd.good c I j)∧w0.grownBy wr none) (fun i _=>200 - (intOf i).toNat)
 case atStart=>exact ⟨0,by omega,rfl,fun j hj=>by omega,World.grownBy.refl _ _⟩
 case round =>
  obtain ⟨k,hk,rfl,hno,hgr⟩:=hrel
  have hno':=hide hno
  have hgr':=hide hgr
  clear hno hgr b6
  obtain ⟨b0,b1,b2,b3,b4,b5,b6,b7,b8,b9,b10⟩:=((uh hbox').on (uh hgr')).eleven
  by_cases hlt:k<40
  ·obtain ⟨u0,u1,u2,u3⟩:=((uh hL0).on (uh hgr')).its.row hlt
   have hlt':(k:Int)<40:=by omega
   have HL:=hide hlt
   have lB:=((uh hbox').on (uh hgr')).lt
   clear hlt
   have hnx:=hide (fun (o:Obj)=>gal (uh hgr') o)
   by_cases hz:Gd.zeroB (I k 0) (I k 1) (I k 2) (I k 3)=true
   ·have hq:Hid (Gd.good c I k):=.inl hz
    obtain ⟨e0,e1,e2,e3⟩:I k 0=0∧I k 1=0∧I k 2=0∧I k 3=0:=of_decide_eq_true hz
    rw [e0] at u0
    rw [e1] at u1
    rw [e2] at u2
    rw [e3] at u3
    clear hz e0 e1 e2 e3
    go_wp2
    go_roundw
    case rel=>exact ⟨k+1,by have:=uh HL;omega,by go_num,fun j hj=>by
     by_cases e:j=k
     ·rw [e];exact uh hq
     ·exact uh hno' j (by omega),uh hnx _⟩
    case measure=>simp [intOf];omega
   ·have hz':Gd.zeroB (I k 0) (I k 1) (I k 2) (I k 3)=false:=by simpa using hz
    have hcmp:∀wx:World,(binOp .eql 47 (.agg #[.int .i64 (I k 0),.int .i64 (I k 1),.int .i64 (I k 2),.int .i64 (I k 3)]) (.agg #[.int .i64 0,.int .i64 0,.int .i64 0,.int .i64 0])).run Try.prog wx=.ok (.bool false) wx:=fun wx=>by
     rw [run_eq_item]
     refine congrArg (fun z=>Result.ok (Value.bool z) wx) ?_
     have h:=of_decide_eq_false hz'
     rw [←Bool.not_eq_true]
     simp only [Bool.and_eq_true,decide_eq_true_eq]
     exact h
    have nz:=hide hz'
    clear hz hz'
    by_cases k1:1≤I k 0
    ·by_cases k4:I k 0≤4
     ·have nk1:¬I k 0<1:=by omega
      have nk4:¬I k 0 > 4:=by omega
      have cpl0:=fun (o:Obj)=>refPlaced_any s g c gC gE gI cC cE cI (I k 0) (I k 1) (I k 2) (I k 3) (wr.alloc o) ((uh hL0).on (uh hnx o)).vec (uh hc') k1 k4
      unfold Gd.world at cpl0
      obtain ⟨V,hV⟩:∃V,Gd.fitsB c (I k 0) (I k 1) (I k 2) (I k 3)=V:=⟨_,rfl⟩
      rw [hV] at cpl0
      have hV':=hide hV
      have cpl:=hide cpl0
      clear cpl0 hV k1 k4
      have hnew:=hide (Arr.lit (heap_alloc_new wr (.cells #[.int .i64 (I k 0),.int .i64 (I k 1),.int .i64 (I k 2),.int .i64 (I k 3)] 47))).lie
      have hgb:=hide (uh hnx (.cells #[.int .i64 (I k 0),.int .i64 (I k 1),.int .i64 (I k 2),.int .i64 (I k 3)] 47))
      go_wp2_with fail
      refine (uh cpl _).mono ?_
      rintro e w1 ⟨rfl,hg1⟩
      have hn1:=hide ((uh hnew).on hg1)
      have hg1':=hide (gtr (uh hgb) hg1)
      obtain ⟨P,hP⟩:∃P,wr.heap.size=P:=⟨_,rfl⟩
      rw [hP] at hn1 ⊢
      clear hP hnew hgb hg1 cpl hcmp u0 u1 u2 u3 b0 b1 b2 b3 b4 b5 b6 b7 b8 b9 b10 lB
      cases V with
      | false =>
       have hnok:=hide (show ¬Gd.Ok c 40 I from fun h=>by
        rcases Gd.ok_good h (uh HL) with h1 | ⟨h1,_⟩
        ·rw [uh nz] at h1;cases h1
        ·rw [uh hV'] at h1;cases h1)
       have hfin:=hide (gtr (uh hg0') (uh hg1'))
       go_wp2
       go_ret
       exact ⟨false,rfl,⟨(fun h=>absurd h (by simp)),(fun h=>absurd h (uh hnok))⟩,uh hfin⟩
      | true =>
       have hwh:=hide (Gd.fits_where (uh hV')).1
       go_wp2_with fail
       go_loopw [5] (fun i wz=>∃j:Nat,j≤k∧i=.int .i64 (j:Int)∧(∀q,q<j→¬(I q 1=I k 1∧I q 2=I k 2∧I q 3=I k 3))∧w1.grownBy wz none) (fun i _=>200 - (intOf i).toNat)
       case atStart=>exact ⟨0,by omega,rfl,fun j hj=>by omega,World.grownBy.refl _ _⟩
       case round =>
        obtain ⟨j,hj,rfl,hlow,hgz⟩:=hrel
        have hlow':=hide hlow
        have hgz':=hide hgz
        clear hlow hgz
        have x1:wr.cell? ⟨P,1,none⟩=some (.int .i64 (I k 1)):=((uh hn1).on (uh hgz')).cell (c:=1) (by simp)
        have x2:wr.cell? ⟨P,2,none⟩=some (.int .i64 (I k 2)):=((uh hn1).on (uh hgz')).cell (c:=2) (by simp)
        have x3:wr.cell? ⟨P,3,none⟩=some (.int .i64 (I k 3)):=((uh hn1).on (uh hgz')).cell (c:=3) (by simp)
        have lP:=((uh hn1).on (uh hgz')).lt
        have hgt:=hide (gtr (uh hg1') (uh hgz'))
        have b6:=((uh hbox').on (uh hgt)).eleven.2.2.2.2.2.2.1
        by_cases hjk:j<k
        ·have hj40:j<40:=by have:=uh HL;omega
         obtain ⟨v0,v1,v2,v3⟩:=((uh hL0).on (uh hgt)).its.row hj40
         have hj40':(j:Int)<40:=by omega
         have hjk':(j:Int)<(k:Int):=by omega
         have hnz:=hide (fun (o:Obj)=>gal (uh hgz') o)
         have hft:=hide (fun (o:Obj)=>gtr (uh hg0') (gal (uh hgt) o))
         have HJ:=hide hjk
         clear hjk hj40
         by_cases c1:I j 1=I k 1
         ·by_cases c2:I j 2=I k 2
          ·by_cases c3:I j 3=I k 3
           ·have hnok:=hide (show ¬Gd.Ok c 40 I from fun h=>by
             rcases Gd.ok_good h (uh HL) with h1 | ⟨_,h1⟩
             ·rw [uh nz] at h1;cases h1
             ·exact (Gd.find_self (uh HL)).1 h1 j (uh HJ) ⟨c1,c2,c3⟩)
            have hne:¬I k 1=0:=uh hwh
            have hne':(I k 1 == 0)=false:=by simp [hne]
            rw [c1] at v1
            rw [c2] at v2
            rw [c3] at v3
            clear c1 c2 c3
            go_wp2
            go_ret
            exact ⟨false,rfl,⟨(fun h=>absurd h (by simp)),(fun h=>absurd h (uh hnok))⟩,uh hft _⟩
           ·have c3':(I j 3 == I k 3)=false:=by simp [c3]
            rw [c1] at v1
            rw [c2] at v2
            have hq:=hide (show ¬(I j 1=I k 1∧I j 2=I k 2∧I j 3=I k 3) from fun h=>c3 h.2.2)
            clear c1 c2
            go_wp2
            go_roundw
            case rel=>exact ⟨j+1,by have:=uh HJ;omega,by go_num,fun q hq1=>by
             by_cases e:q=j
             ·rw [e];exact uh hq
             ·exact uh hlow' q (by omega),uh hnz _⟩
            case measure=>simp [intOf];omega
          ·have c2':(I j 2 == I k 2)=false:=by simp [c2]
           rw [c1] at v1
           have hq:=hide (show ¬(I j 1=I k 1∧I j 2=I k 2∧I j 3=I k 3) from fun h=>c2 h.2.1)
           clear c1
           go_wp2
           go_roundw
           case rel=>exact ⟨j+1,by have:=uh HJ;omega,by go_num,fun q hq1=>by
            by_cases e:q=j
            ·rw [e];exact uh hq
            ·exact uh hlow' q (by omega),uh hnz _⟩
           case measure=>simp [intOf];omega
         ·have c1':(I j 1 == I k 1)=false:=by simp [c1]
          have hq:=hide (show ¬(I j 1=I k 1∧I j 2=I k 2∧I j 3=I k 3) from fun h=>c1 h.1)
          go_wp2
          go_roundw
          case rel=>exact ⟨j+1,by have:=uh HJ;omega,by go_num,fun q hq1=>by
           by_cases e:q=j
           ·rw [e];exact uh hq
           ·exact uh hlow' q (by omega),uh hnz _⟩
          case measure=>simp [intOf];omega
        ·have hge:¬(j:Int)<(k:Int):=by omega
         have hq:Hid (Gd.good c I k):=.inr ⟨uh hV',(Gd.find_self (uh HL)).2 (fun q hq1=>uh hlow' q (by omega))⟩
         go_wp2
         go_roundw
         case rel=>exact ⟨k+1,by have:=uh HL;omega,by go_num,fun q hq1=>by
          by_cases e:q=k
          ·rw [e];exact uh hq
          ·exact uh hno' q (by omega),uh hgt⟩
         case measure=>simp [intOf];omega
     ·have nk1:¬I k 0<1:=by omega
      have nk4:I k 0 > 4:=by omega
      have hnok:=hide (show ¬Gd.Ok c 40 I from fun h=>by
       rcases Gd.ok_good h (uh HL) with h1 | ⟨h1,_⟩
       ·rw [uh nz] at h1;cases h1
       ·have:=(Gd.fits_where h1).2
        omega)
      have hfin:=hide (fun (o:Obj)=>gtr (uh hg0') (uh hnx o))
      go_wp2
      go_ret
      exact ⟨false,rfl,⟨(fun h=>absurd h (by simp)),(fun h=>absurd h (uh hnok))⟩,uh hfin _⟩
    ·have nk1:I k 0<1:=by omega
     have hnok:=hide (show ¬Gd.Ok c 40 I from fun h=>by
      rcases Gd.ok_good h (uh HL) with h1 | ⟨h1,_⟩
      ·rw [uh nz] at h1;cases h1
      ·have:=(Gd.fits_where h1).2
       omega)
     have hfin:=hide (fun (o:Obj)=>gtr (uh hg0') (uh hnx o))
     go_wp2
     go_ret
     exact ⟨false,rfl,⟨(fun h=>absurd h (by simp)),(fun h=>absurd h (uh hnok))⟩,uh hfin _⟩
  ·have hge:¬(k:Int)<40:=by omega
   have he:=hide (Gd.good_ok (fun j hj=>uh hno' j (by omega)))
   have hfin:=hide (gtr (uh hg0') (uh hgr'))
   go_wp2
   go_ret
   exact ⟨true,rfl,⟨fun _=>uh he,fun _=>rfl⟩,uh hfin⟩

end Go.Proofs.Ytapgkgbpekkdjaa
