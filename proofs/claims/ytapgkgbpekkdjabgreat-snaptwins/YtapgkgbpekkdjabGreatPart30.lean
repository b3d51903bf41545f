import Derived.Test.YtapgkgbpekkdjabGreatPart29
import Derived.Laws.Bits64b
import Derived.BigRegion
namespace Go.Proofs.YtapgkgbpekkdjabGreat
open Go.RowKit

def Sn.Bytes (w:World) (base:Nat) (v:Value) (l:List Int):Prop:=w.ownsRow base 5 1 v l.length (l.map (Value.int .u8))

theorem Sn.Bytes.lt {w:World} {base:Nat} {v:Value} {l:List Int} (h:Sn.Bytes w base v l):∀k,v.ownBlock=some k→base≤k∧k<w.heap.size:=World.ownsRow.lt h

theorem Sn.Bytes.on {w w':World} {base:Nat} {v:Value} {l:List Int} (h:Sn.Bytes w base v l) (hg:w.grownBy w' none):Sn.Bytes w' base v l:=World.ownsRow.kept h hg (by cases v.ownBlock <;> simp)

theorem Sn.below {w w':World} {base:Nat} {r:Option Nat} (h:w.grownBy w' r) (hr:∀k,r=some k→base≤k) (hb:base≤w.heap.size):Below base w w' :=
 ⟨h.os,h.tape,h.output,h.size,fun i hi=>h.block i (by omega) (fun e=>by have:=hr i e.symm;omega)⟩

theorem Sn.below_trans {a b c:World} {base:Nat} (h:Below base a b) (k:Below base b c):Below base a c :=
 ⟨k.os.trans h.os,k.tape.trans h.tape,k.output.trans h.output,Nat.le_trans h.size k.size,fun i hi=>(k.block i hi).trans (h.block i hi)⟩

theorem Sn.bt_two (x:Int) (L:Nat):x / 2 ^ (8*L) % 256=Sn.bt x L:=by
 unfold Sn.bt
 rw [Int.pow_mul]
 rfl

theorem Sn.snoc {w:World} {base m:Nat} {v:Value} {l:List Int} {f:Nat→Int} (h:w.ownsRow base 5 1 v (l.length+m+1) (List.map (Value.int .u8) l ++ (List.map (Value.int .u8 ∘ f) (List.range m) ++ [Value.int .u8 (f m)]))):Sn.Bytes w base v (l ++ (List.range (m+1)).map f):=by
 unfold Sn.Bytes
 rw [List.range_succ]
 simpa [Nat.add_assoc] using h

def Sn.Adds (w:World) (base:Nat) (l:List Int) (e:Ending) (w':World):Prop:=∃v,e=.returned v∧Sn.Bytes w' base v l∧Below base w w'

set_option maxRecDepth 8000 in
set_option maxHeartbeats 1600000 in
theorem withNumber_any (n base:Nat) (x:Int) (v:Value) (l:List Int) (w:World) (hn:n≤8) (h:Sn.Bytes w base v l) (hb:base≤w.heap.size) (hl:l.length≤1000) :
  Calls Tryz.prog 53 #[v,.int .i64 (n:Int),.int .u64 x] w (Sn.Adds w base (l ++ Sn.num n x)):=by
 have hH:Hid (Sn.Bytes w base v l):=h
 have hB:=hide hb
 have hN:=hide hn
 have hLl:=hide hl
 obtain ⟨i0,hi,hz0,hz1,hz2⟩:=info_parts info_byte
 have hs1:IntKind.i64.wrap ((n:Int) - 1)=(n:Int) - 1:=by rw [IntKind.wrap_i64];omega
 clear h hb hn hl
 go_enter Tryz.func53,Tryz.ntmps53
 go_wp2_with fail
 go_loopw [0,7] (fun v0 v7 wr=>∃m:Nat,m≤n∧v7=.int .i64 ((n:Int) - 1 - (m:Int))∧Hid (Sn.Bytes wr base v0 (l ++ (List.range m).map fun j=>Sn.bt x (n - 1 - j))∧Below base w wr)) (fun _ v7 _=>(intOf v7+1).toNat)
 case atStart=>exact ⟨0,by omega,by simp,by simpa using uh hH,Below.refl _ _⟩
 case round =>
  obtain ⟨m,hm,rfl,hX⟩:=hrel
  clear hH hs1
  by_cases hlt:m<n
  ·obtain ⟨L,hL⟩:∃L:Nat,L=n - 1 - m:=⟨_,rfl⟩
   have hLe:(n:Int) - 1 - (m:Int)=(L:Int):=by omega
   have hL8:(L:Int)<8:=by have:=uh hN;omega
   have hmul:IntKind.i64.wrap (8*(L:Int))=8*(L:Int):=by rw [IntKind.wrap_i64];omega
   have hge:(L:Int)≥0:=by omega
   have hs1:IntKind.i64.wrap ((L:Int) - 1)=(L:Int) - 1:=by rw [IntKind.wrap_i64];omega
   have hbt:Hid (x / 2 ^ (8*L) % 256=Sn.bt x (n - 1 - m)):=by
    show x / 2 ^ (8*L) % 256=_
    rw [←hL]
    exact Sn.bt_two x L
   have HM:=hide hm
   have HLT:=hide hlt
   have HL:=hide hLe
   rw [hLe]
   clear hm hlt hLe hL
   go_wp2_with (at_builtin;refine wpList_append_own _ rfl _ _ 26 rfl base 5 i0 (.int .u8 0) 1 1 Tryz.underlying26 hi hz0 hz1 hz2 rfl (by decide) _ _ _ rfl ((uh hX).1.alloc _) ⟨wr.heap.size,0,none⟩ 1 1 [.int .u8 (x / 2 ^ (8*L) % 256)] rfl rfl ?_ ?_ ?_ ?_ ?_ ?_)
   ·exact one_at _ _ _ _ rfl
   ·intro u hu;simp at hu;subst hu;rfl
   ·have:=uh hLl;have:=uh HM;have:=uh hN;simp;unfold maxLen;omega
   ·have:=uh hLl;have:=uh HM;have:=uh hN;simp;omega
   ·have:=(uh hX).2.size;have:=uh hB;simp;omega
   intro v' w1 hown' hgrow _
   have hX2:Hid (Sn.Bytes w1 base v' (l ++ (List.range (m+1)).map fun j=>Sn.bt x (n - 1 - j))∧Below base w w1):=by
    refine ⟨?_,?_⟩
    ·rw [uh hbt] at hown'
     exact Sn.snoc hown'
    ·have hb1:Below base wr (wr.alloc (.cells #[.int .u8 (x / 2 ^ (8*L) % 256)] 5)):=Sn.below (World.grownBy_alloc wr _ none) (fun k e=>by cases e) (Nat.le_trans (uh hB) (uh hX).2.size)
     have hb2:=Sn.below hgrow (fun k e=>((uh hX).1.lt k e).1) (Nat.le_trans (Nat.le_trans (uh hB) (uh hX).2.size) hb1.size)
     exact (uh hX).2.trans (hb1.trans hb2)
   clear hown' hgrow hX
   go_wp2
   go_roundw
   case rel=>exact ⟨m+1,by have:=uh HLT;omega,by have:=uh HL;rw [show (L:Int) - 1=(n:Int) - 1 - ((m+1:Nat):Int) by omega],hX2⟩
   case measure=>simp [intOf]
  ·obtain rfl:m=n:=by omega
   have hge:¬((m:Int) - 1 - (m:Int))≥0:=by omega
   have hfin:Hid (Sn.Adds w base (l ++ Sn.num m x)=Sn.Adds w base (l ++ (List.range m).map fun j=>Sn.bt x (m - 1 - j))):=rfl
   clear hlt hm
   go_wp2
   go_ret
   rw [uh hfin]
   exact ⟨_,rfl,(uh hX).1,(uh hX).2⟩

end Go.Proofs.YtapgkgbpekkdjabGreat

namespace Go.Proofs.YtapgkgbpekkdjabGreat

def Sn.goldB (g:Nat→Int) (t:Nat):Bool:=decide (0≤g t∧g t≤999)
def Sn.numB (s:Nat→Int):Bool:=decide (0≤s 1∧s 1<1073741824∧1≤s 2∧s 2≤3∧0≤s 3∧s 3≤2)
def Sn.goldsB (g:Nat→Int):Nat→Bool
 | 0=>true
 | n+1=>Sn.goldsB g n && Sn.goldB g n
def Sn.headB (s g:Nat→Int):Bool:=Sn.goldsB g 4 && Sn.numB s

theorem Sn.goldsB_of {g:Nat→Int}:∀{n:Nat},(∀t,t<n→Sn.goldB g t=true)→Sn.goldsB g n=true
 | 0,_=>rfl
 | n+1,h=>by
  show (Sn.goldsB g n && Sn.goldB g n)=true
  rw [Sn.goldsB_of (fun t ht=>h t (by omega)),h n (by omega)]
  rfl

theorem Sn.goldsB_no {g:Nat→Int} {t:Nat} (ht:Sn.goldB g t=false):∀{n:Nat},t<n→Sn.goldsB g n=false
 | 0,h=>absurd h (by omega)
 | n+1,h=>by
  show (Sn.goldsB g n && Sn.goldB g n)=false
  by_cases e:t=n
  ·rw [←e,ht,Bool.and_false]
  ·rw [Sn.goldsB_no ht (by omega),Bool.false_and]

def Sn.cnt (c:Nat→Int) (kind:Int):Nat→Int
 | 0=>0
 | n+1=>Sn.cnt c kind n+if c n=kind then 1 else 0

theorem Sn.cnt_bound (c:Nat→Int) (kind:Int):∀n,0≤Sn.cnt c kind n∧Sn.cnt c kind n≤(n:Int)
 | 0=>⟨Int.le_refl _,Int.le_refl _⟩
 | n+1=>by
  have:=Sn.cnt_bound c kind n
  unfold Sn.cnt
  split <;> omega

theorem Sn.cnt_none {c:Nat→Int} {kind:Int}:∀{n:Nat},(∀i,i<n→c i≠kind)→Sn.cnt c kind n=0
 | 0,_=>rfl
 | n+1,h=>by
  unfold Sn.cnt
  rw [Sn.cnt_none (fun i hi=>h i (by omega)),if_neg (h n (by omega))]
  rfl

theorem Sn.cnt_one {c:Nat→Int} {kind:Int} {u:Nat} (hu:c u=kind):∀{n:Nat},u<n→(∀i,i<n→c i=kind→i=u)→Sn.cnt c kind n=1
 | 0,h,_=>absurd h (by omega)
 | n+1,h,h1=>by
  unfold Sn.cnt
  by_cases e:u=n
  ·subst e
   rw [Sn.cnt_none (fun i hi e'=>by have:=h1 i (by omega) e';omega),if_pos hu]
   rfl
  ·rw [Sn.cnt_one hu (by omega) (fun i hi=>h1 i (by omega)),if_neg (fun e'=>e (h1 n (by omega) e').symm)]
   rfl

def Sn.mx (c:Nat→Int):Nat→Int
 | 0=>c 0
 | n+1=>max (Sn.mx c n) (c (n+1))

theorem Sn.mx_le {c:Nat→Int} {m:Int}:∀{n:Nat},Sn.mx c n≤m↔∀i,i≤n→c i≤m
  | 0 => ⟨fun h i hi => by obtain rfl : i = 0 := by omega
                           exact h, fun h => h 0 (by omega)⟩
  | n+1=>by
    unfold Sn.mx
    rw [Int.max_le,Sn.mx_le]
    constructor
    · rintro ⟨h1,h2⟩ i hi
      by_cases e:i=n+1
      · rw [e];exact h2
      · exact h1 i (by omega)
    · intro h
      exact ⟨fun i hi=>h i (by omega),h (n+1) (by omega)⟩

def Sn.freeB (e:Nat→Int):Bool:=decide (e 2=0∧e 3=0∧e 4=0∧e 5=0∧e 6=0∧e 7=0∧e 8=0∧e 9=0∧e 10=0)
def Sn.soundB (e:Nat→Int):Bool:=decide (e 6=En.stats (e 0) 6∧e 7=En.stats (e 0) 7∧e 8=En.stats (e 0) 8∧1≤e 5∧e 5≤e 6∧0≤e 9∧e 9≤9∧0≤e 10∧e 10≤9)
def Sn.aloneB (c:Nat→Int) (E:Nat→Nat→Int) (k:Nat):Bool:=Gr.walkB (Gr.at 384 c (E k 3) (E k 4)) && decide (En.first (En.atQ E (E k 3) (E k 4)) k=-1)
def Sn.seatedB (E:Nat→Nat→Int) (k:Nat):Bool:=if E k 0=1 then decide (0≤E k 2∧E k 2≤3∧En.first (En.heroQ E (E k 2)) k=-1) else decide (E k 2=0)

def Sn.entC (c:Nat→Int) (E:Nat→Nat→Int) (k:Nat):Int :=
 if 0≤E k 0∧E k 0≤4 then
  if 0≤E k 1∧E k 1≤255 then
   if E k 0=0 then (if Sn.freeB (E k)=true then 0 else 9)
   else if Sn.soundB (E k)=true∧Sn.aloneB c E k=true∧Sn.seatedB E k=true then 0 else 9
  else 9
 else 3

def Sn.rowC (c:Nat→Int) (E:Nat→Nat→Int):Nat→Int
 | 0=>0
 | n+1=>if Sn.rowC c E n=0 then Sn.entC c E n else Sn.rowC c E n

theorem Sn.rowC_stays {c:Nat→Int} {E:Nat→Nat→Int} {n:Nat} {v:Int} (h:Sn.rowC c E n=v) (hv:v≠0):∀m,n≤m→Sn.rowC c E m=v:=by
  intro m hm
  induction m with
  | zero => obtain rfl : n = 0 := by omega
            exact h
  | succ m ih =>
    by_cases e:n=m+1
    · rw [←e];exact h
    · have:=ih (by omega)
      unfold Sn.rowC
      rw [this,if_neg hv]

theorem Sn.rowC_zero {c:Nat→Int} {E:Nat→Nat→Int}:∀{n:Nat},(∀k,k<n→Sn.entC c E k=0)→Sn.rowC c E n=0
 | 0,_=>rfl
 | n+1,h=>by
  unfold Sn.rowC
  rw [Sn.rowC_zero (fun k hk=>h k (by omega)),if_pos rfl]
  exact h n (by omega)

def Sn.Chk (s g c:Nat→Int) (E I:Nat→Nat→Int) (v:Int):Prop :=
 if Sn.headB s g=true then
  if Sn.mx c 383≤5 then
   if Sn.cnt c 3 384=1∧Sn.cnt c 4 384=1 then
    if Sn.rowC c E 32=0 then (v=0∧Gd.Ok c 40 I)∨(v=9∧¬Gd.Ok c 40 I)
    else v=Sn.rowC c E 32
   else v=2
  else v=3
 else v=1

theorem Sn.Chk.one {s g c:Nat→Int} {E I:Nat→Nat→Int} {v u:Int} (h:Sn.Chk s g c E I v) (h':Sn.Chk s g c E I u):u=v:=by
 unfold Sn.Chk at h h'
 split at h
 ·rename_i h1
  rw [if_pos h1] at h'
  split at h
  ·rename_i h2
   rw [if_pos h2] at h'
   split at h
   ·rename_i h3
    rw [if_pos h3] at h'
    split at h
    ·rename_i h4
     rw [if_pos h4] at h'
     rcases h with ⟨rfl,a⟩ | ⟨rfl,a⟩ <;> rcases h' with ⟨rfl,b⟩ | ⟨rfl,b⟩
     ·rfl
     ·exact absurd a b
     ·exact absurd b a
     ·rfl
    ·rename_i h4
     rw [if_neg h4] at h'
     rw [h,h']
   ·rename_i h3
    rw [if_neg h3] at h'
    rw [h,h']
  ·rename_i h2
   rw [if_neg h2] at h'
   rw [h,h']
 ·rename_i h1
  rw [if_neg h1] at h'
  rw [h,h']


open Go.RowKit

theorem Sn.born (x:World) (e:Nat→Int) (T:TypeId):Lie (x.alloc (.cells (En.cells e) T)) x.heap.size T 11 (Ints e) :=
 Lie.congr (m:=11) (Arr.lit (heap_alloc_new x (.cells (En.cells e) T))).lie fun j hj=>by
  rcases (show j=0∨j=1∨j=2∨j=3∨j=4∨j=5∨j=6∨j=7∨j=8∨j=9∨j=10 by omega) with rfl | rfl | rfl | rfl | rfl | rfl | rfl | rfl | rfl | rfl | rfl <;> rfl

theorem Sn.row {x:World} {D:Nat} {T:TypeId} {e:Nat→Int} (h:Lie x D T 11 (Ints e)) :
  x.cell? ⟨D,0,none⟩=some (.int .i64 (e 0))∧x.cell? ⟨D,1,none⟩=some (.int .i64 (e 1))∧x.cell? ⟨D,2,none⟩=some (.int .i64 (e 2))∧x.cell? ⟨D,3,none⟩=some (.int .i64 (e 3))∧x.cell? ⟨D,4,none⟩=some (.int .i64 (e 4))∧x.cell? ⟨D,5,none⟩=some (.int .i64 (e 5))∧x.cell? ⟨D,6,none⟩=some (.int .i64 (e 6))∧x.cell? ⟨D,7,none⟩=some (.int .i64 (e 7))∧x.cell? ⟨D,8,none⟩=some (.int .i64 (e 8))∧x.cell? ⟨D,9,none⟩=some (.int .i64 (e 9))∧x.cell? ⟨D,10,none⟩=some (.int .i64 (e 10)) :=
 ⟨h.cell (c:=0) (by omega),h.cell (c:=1) (by omega),h.cell (c:=2) (by omega),h.cell (c:=3) (by omega),h.cell (c:=4) (by omega),h.cell (c:=5) (by omega),h.cell (c:=6) (by omega),h.cell (c:=7) (by omega),h.cell (c:=8) (by omega),h.cell (c:=9) (by omega),h.cell (c:=10) (by omega)⟩

def Sn.inB (n a b:Int):Bool:=decide (a≤n∧n≤b)

set_option maxHeartbeats 400000 in
theorem snWithin_any (n a b:Int) (w:World):Calls Tryz.prog 76 #[.int .i64 n,.int .i64 a,.int .i64 b] w fun e w'=>e=.returned (.bool (Sn.inB n a b))∧w'=w:=by
 by_cases h1:a≤n
 ·have h1':n≥a:=h1
  by_cases h2:n≤b
  ·have hd:Hid (Sn.inB n a b=true):=by show Sn.inB n a b=true;unfold Sn.inB;rw [decide_eq_true_eq];exact ⟨h1,h2⟩
   clear h1
   go_enter Tryz.func76,Tryz.ntmps76
   go_wp2
   go_ret
   exact ⟨ret_bool (uh hd).symm,rfl⟩
  ·have hd:Hid (Sn.inB n a b=false):=by show Sn.inB n a b=false;unfold Sn.inB;rw [decide_eq_false_iff_not];exact fun h=>h2 h.2
   clear h1
   go_enter Tryz.func76,Tryz.ntmps76
   go_wp2
   go_ret
   exact ⟨ret_bool (uh hd).symm,rfl⟩
 ·have h1':¬n≥a:=h1
  have hd:Hid (Sn.inB n a b=false):=by show Sn.inB n a b=false;unfold Sn.inB;rw [decide_eq_false_iff_not];exact fun h=>h1 h.1
  clear h1
  go_enter Tryz.func76,Tryz.ntmps76
  go_wp2
  go_ret
  exact ⟨ret_bool (uh hd).symm,rfl⟩

set_option maxRecDepth 8000 in
set_option maxHeartbeats 800000 in
theorem snCount_any (G cap:Nat) (c:Nat→Int) (kind:Int) (w:World) (hC:Lie w G 5 384 (Byts c)) :
  Calls Tryz.prog 50 #[.slice (some ⟨G,0,none⟩) 384 cap,.int .u8 kind] w fun e w'=>e=.returned (.int .i64 (Sn.cnt c kind 384))∧w'=w:=by
 have hC':=hide hC
 clear hC
 go_enter Tryz.func50,Tryz.ntmps50
 go_wp2_with fail
 go_loop [5,10] (fun v5 v10=>∃i:Nat,i≤384∧v5=.int .i64 (Sn.cnt c kind i)∧v10=.int .i64 (i:Int)) (fun _ v10=>400 - (intOf v10).toNat)
 case atStart=>exact ⟨0,by omega,rfl,rfl⟩
 case round =>
  obtain ⟨i,hi,rfl,rfl⟩:=hrel
  by_cases hlt:i<384
  ·have hlt':(i:Int)<384:=by omega
   have HL:=hide hlt
   have u0:w.cell? ⟨G,i,none⟩=some (.int .u8 (c i)):=(uh hC').cell hlt
   have hb:=Sn.cnt_bound c kind i
   obtain ⟨X,hX⟩:∃X,Sn.cnt c kind i=X:=⟨_,rfl⟩
   have hn:Hid (Sn.cnt c kind (i+1)=X+if c i=kind then 1 else 0):=by
    show Sn.cnt c kind (i+1)=_
    rw [←hX]
    rfl
   rw [hX] at hb ⊢
   clear hlt hi hX
   by_cases k3:c i=kind
   ·have k3':(c i == kind)=true:=by simp [k3]
    rw [if_pos k3] at hn
    clear k3
    go_wp2
    go_round
    case rel=>exact ⟨i+1,by have:=uh HL;omega,by rw [uh hn],by go_num⟩
    case measure=>simp [intOf];have:=uh HL;omega
   ·have k3':(c i == kind)=false:=by simp [k3]
    rw [if_neg k3] at hn
    clear k3
    go_wp2
    go_round
    case rel=>exact ⟨i+1,by have:=uh HL;omega,by rw [uh hn];simp,by go_num⟩
    case measure=>simp [intOf];have:=uh HL;omega
  ·obtain rfl:i=384:=by omega
   have hge:¬((384:Nat):Int)<384:=by omega
   clear hlt hi
   obtain ⟨X,hX⟩:∃X,Sn.cnt c kind 384=X:=⟨_,rfl⟩
   rw [hX]
   have hX':=hide hX
   clear hX
   go_wp2
   go_ret
   exact ⟨rti (uh hX').symm,rfl⟩

set_option maxRecDepth 8000 in
set_option maxHeartbeats 800000 in
theorem snMax_any (G cap:Nat) (c:Nat→Int) (w:World) (hC:Lie w G 5 384 (Byts c)) :
  Calls Tryz.prog 49 #[.slice (some ⟨G,0,none⟩) 384 cap] w fun e w'=>e=.returned (.int .u8 (Sn.mx c 383))∧w'=w:=by
 have hC':=hide hC
 have u0:w.cell? ⟨G,0,none⟩=some (.int .u8 (c 0)):=hC.cell (by omega)
 clear hC
 go_enter Tryz.func49,Tryz.ntmps49
 go_wp2_with fail
 go_loop [3,4] (fun v3 v4=>∃i:Nat,1≤i∧i≤384∧v3=.int .u8 (Sn.mx c (i - 1))∧v4=.int .i64 (i:Int)) (fun _ v4=>400 - (intOf v4).toNat)
 case atStart=>exact ⟨1,by omega,by omega,rfl,rfl⟩
 case round =>
  obtain ⟨i,h1,hi,rfl,rfl⟩:=hrel
  by_cases hlt:i<384
  ·have hlt':(i:Int)<384:=by omega
   have HL:=hide hlt
   have u0:w.cell? ⟨G,i,none⟩=some (.int .u8 (c i)):=(uh hC').cell hlt
   obtain ⟨X,hX⟩:∃X,Sn.mx c (i - 1)=X:=⟨_,rfl⟩
   have hn:Hid (Sn.mx c (i+1 - 1)=max X (c i)):=by
    show Sn.mx c (i+1 - 1)=_
    rw [←hX,show i+1 - 1=(i - 1)+1 by omega]
    show max _ (c (i - 1+1))=_
    rw [show i - 1+1=i by omega]
   rw [hX]
   clear hlt hi hX
   have hm:(if X<c i then c i else X)=max X (c i):=by split <;> omega
   rw [←hm] at hn
   clear hm
   go_wp2
   go_round
   case rel=>exact ⟨i+1,by omega,by have:=uh HL;omega,by rw [uh hn],by go_num⟩
   case measure=>simp [intOf];have:=uh HL;omega
  ·have hge:¬(i:Int)<384:=by omega
   have hie:i=384:=by omega
   obtain ⟨X,hX⟩:∃X,Sn.mx c (i - 1)=X:=⟨_,rfl⟩
   have hX':Hid (Sn.mx c 383=X):=by
    rw [←hX,hie]
    exact rfl
   clear hlt hi h1 hie
   rw [hX]
   clear hX
   go_wp2
   go_ret
   exact ⟨rti (uh hX').symm,rfl⟩

theorem run_index_gold (g:Nat→Int) (t:Nat) (ht:t<4) (w:World):(Instr.index 29 (.agg #[.int .i64 (g 0),.int .i64 (g 1),.int .i64 (g 2),.int .i64 (g 3)]) (.int .i64 (t:Int))).run Tryz.prog w=.ok (.int .i64 (g t)) w:=by
 rcases (show t=0∨t=1∨t=2∨t=3 by omega) with rfl | rfl | rfl | rfl <;> kernel_rfl

set_option maxRecDepth 8000 in
set_option maxHeartbeats 1600000 in
theorem headFits_any (s g:Nat→Int) (nC nE nI cC cE cI:Nat) (aC aE aI:Option Addr) (w:World) :
  Calls Tryz.prog 48 #[.agg #[.int .i64 (s 0),.int .i64 (s 1),.int .i64 (s 2),.int .i64 (s 3),.slice aC nC cC,.slice aE nE cE,.slice aI nI cI,.int .i64 (g 0),.int .i64 (g 1),.int .i64 (g 2),.int .i64 (g 3)]] w (Says w (.bool (Sn.headB s g))):=by
 obtain ⟨w0,hw0⟩:∃w0,w0=w.alloc (.cells #[.int .i64 (s 0),.int .i64 (s 1),.int .i64 (s 2),.int .i64 (s 3),.slice aC nC cC,.slice aE nE cE,.slice aI nI cI,.int .i64 (g 0),.int .i64 (g 1),.int .i64 (g 2),.int .i64 (g 3)] 31):=⟨_,rfl⟩
 have hg0:w.grownBy w0 none:=by rw [hw0];exact World.grownBy_alloc _ _ _
 have hB:=(Arr.lit (heap_alloc_new w (.cells #[.int .i64 (s 0),.int .i64 (s 1),.int .i64 (s 2),.int .i64 (s 3),.slice aC nC cC,.slice aE nE cE,.slice aI nI cI,.int .i64 (g 0),.int .i64 (g 1),.int .i64 (g 2),.int .i64 (g 3)] 31))).lie
 rw [←hw0] at hB
 have hgr:=hide hg0
 clear hg0
 go_enter Tryz.func48,Tryz.ntmps48
 go_upto_region 1 with fail
 rw [←hw0]
 clear hw0
 obtain ⟨B,hBe⟩:∃B,w.heap.size=B:=⟨_,rfl⟩
 rw [hBe] at hB ⊢
 clear hBe
 have b1:w0.cell? ⟨B,1,none⟩=some (.int .i64 (s 1)):=hB.cell (c:=1) (by simp)
 have b2:w0.cell? ⟨B,2,none⟩=some (.int .i64 (s 2)):=hB.cell (c:=2) (by simp)
 have b3:w0.cell? ⟨B,3,none⟩=some (.int .i64 (s 3)):=hB.cell (c:=3) (by simp)
 have b7:w0.cell? ⟨B,7,none⟩=some (.int .i64 (g 0)):=hB.cell (c:=7) (by simp)
 have b8:w0.cell? ⟨B,8,none⟩=some (.int .i64 (g 1)):=hB.cell (c:=8) (by simp)
 have b9:w0.cell? ⟨B,9,none⟩=some (.int .i64 (g 2)):=hB.cell (c:=9) (by simp)
 have b10:w0.cell? ⟨B,10,none⟩=some (.int .i64 (g 3)):=hB.cell (c:=10) (by simp)
 clear hB
 go_wp2_with fail
 go_loop [7] (fun v7=>∃t:Nat,t≤4∧v7=.int .i64 (t:Int)∧Hid (∀j,j<t→Sn.goldB g j=true)) (fun v7=>10 - (intOf v7).toNat)
 case atStart=>exact ⟨0,by omega,rfl,fun j hj=>absurd hj (by omega)⟩
 case round =>
  obtain ⟨t,ht,rfl,hall⟩:=hrel
  by_cases hlt:t<4
  ·have hlt':(t:Int)<4:=by omega
   have HL:=hide hlt
   have hix:=fun x=>run_index_gold g t hlt x
   have cw:=hide (fun x=>snWithin_any (g t) 0 999 x)
   have hq:Hid (Sn.goldB g t=Sn.inB (g t) 0 999):=rfl
   obtain ⟨q,hqe⟩:∃q,Sn.inB (g t) 0 999=q:=⟨_,rfl⟩
   rw [hqe] at cw hq
   clear hlt ht hqe
   go_wp2_with fail
   refine (uh cw _).mono ?_
   rintro e w1 ⟨rfl,rfl⟩
   cases q with
   | true =>
    go_wp2
    go_round
    case rel=>exact ⟨t+1,by have:=uh HL;omega,by go_num,fun j hj=>by
     by_cases e:j=t
     ·rw [e];exact uh hq
     ·exact uh hall j (by omega)⟩
    case measure=>simp [intOf];have:=uh HL;omega
   | false =>
    have hno:Hid (Sn.headB s g=false):=by
     show Sn.headB s g=false
     unfold Sn.headB
     rw [Sn.goldsB_no (uh hq) (uh HL),Bool.false_and]
    go_wp2
    go_ret
    exact ⟨ret_bool (uh hno).symm,uh hgr⟩
  ·obtain rfl:t=4:=by omega
   have hge:¬((4:Nat):Int)<4:=by omega
   have c1:=hide (fun x=>snWithin_any (s 1) 0 1073741823 x)
   have c2:=hide (fun x=>snWithin_any (s 2) 1 3 x)
   have c3:=hide (fun x=>snWithin_any (s 3) 0 2 x)
   have hd:Hid (Sn.headB s g=(Sn.inB (s 1) 0 1073741823 && (Sn.inB (s 2) 1 3 && Sn.inB (s 3) 0 2))):=by
    show Sn.headB s g=_
    unfold Sn.headB Sn.numB Sn.inB
    rw [Sn.goldsB_of (uh hall),Bool.true_and,←Bool.decide_and,←Bool.decide_and,decide_eq_decide]
    omega
   obtain ⟨q1,e1⟩:∃q,Sn.inB (s 1) 0 1073741823=q:=⟨_,rfl⟩
   obtain ⟨q2,e2⟩:∃q,Sn.inB (s 2) 1 3=q:=⟨_,rfl⟩
   obtain ⟨q3,e3⟩:∃q,Sn.inB (s 3) 0 2=q:=⟨_,rfl⟩
   rw [e1] at c1 hd
   rw [e2] at c2 hd
   rw [e3] at c3 hd
   clear hlt ht hall e1 e2 e3
   go_wp2_with fail
   refine (uh c1 _).mono ?_
   rintro e w1 ⟨rfl,rfl⟩
   cases q1 with
   | false =>
    go_wp2
    go_ret
    exact ⟨ret_bool (uh hd).symm,uh hgr⟩
   | true =>
    go_wp2_with fail
    refine (uh c2 _).mono ?_
    rintro e w1 ⟨rfl,rfl⟩
    cases q2 with
    | false =>
     go_wp2
     go_ret
     exact ⟨ret_bool (uh hd).symm,uh hgr⟩
    | true =>
     go_wp2_with fail
     refine (uh c3 _).mono ?_
     rintro e w1 ⟨rfl,rfl⟩
     go_wp2
     go_ret
     exact ⟨ret_bool (by rw [uh hd];rfl),uh hgr⟩


open Go.RowKit

set_option maxRecDepth 8000 in
set_option maxHeartbeats 3200000 in
theorem isSound_any (e:Nat→Int) (w:World):Calls Tryz.prog 77 #[.agg (En.cells e)] w (Says w (.bool (Sn.soundB e))):=by
 obtain ⟨w0,hw0⟩:∃w0,w0=w.alloc (.cells (En.cells e) 38):=⟨_,rfl⟩
 have hg0:Hid (w.grownBy w0 none):=by show w.grownBy w0 none;rw [hw0];exact World.grownBy_alloc _ _ _
 have hD:Hid (Lie w0 w.heap.size 38 11 (Ints e)):=by show Lie w0 _ _ _ _;rw [hw0];exact Sn.born w e 38
 obtain ⟨st,hst⟩:∃st,En.stats (e 0)=st:=⟨_,rfl⟩
 have cst:=hide (fun x=>entStats_any (e 0) x)
 rw [hst] at cst
 have hd:Hid (Sn.soundB e=((e 6 == st 6) && ((e 7 == st 7) && ((e 8 == st 8) && (Sn.inB (e 5) 1 (e 6) && (Sn.inB (e 9) 0 9 && Sn.inB (e 10) 0 9)))))):=by
  show Sn.soundB e=_
  unfold Sn.soundB Sn.inB
  rw [hst,Bool.eq_iff_iff]
  simp only [decide_eq_true_eq,Bool.and_eq_true,beq_iff_eq]
  omega
 obtain ⟨k1,h1⟩:∃k,(e 6 == st 6)=k:=⟨_,rfl⟩
 obtain ⟨k2,h2⟩:∃k,(e 7 == st 7)=k:=⟨_,rfl⟩
 obtain ⟨k3,h3⟩:∃k,(e 8 == st 8)=k:=⟨_,rfl⟩
 have c4:=hide (fun x=>snWithin_any (e 5) 1 (e 6) x)
 have c5:=hide (fun x=>snWithin_any (e 9) 0 9 x)
 have c6:=hide (fun x=>snWithin_any (e 10) 0 9 x)
 obtain ⟨k4,h4⟩:∃k,Sn.inB (e 5) 1 (e 6)=k:=⟨_,rfl⟩
 obtain ⟨k5,h5⟩:∃k,Sn.inB (e 9) 0 9=k:=⟨_,rfl⟩
 obtain ⟨k6,h6⟩:∃k,Sn.inB (e 10) 0 9=k:=⟨_,rfl⟩
 rw [h1,h2,h3,h4,h5,h6] at hd
 rw [h4] at c4
 rw [h5] at c5
 rw [h6] at c6
 clear hst h4 h5 h6
 unfold En.cells at hw0 cst ⊢
 go_enter Tryz.func77,Tryz.ntmps77
 go_upto_region 1 with fail
 rw [←hw0]
 clear hw0
 obtain ⟨B,hBe⟩:∃B,w.heap.size=B:=⟨_,rfl⟩
 rw [hBe] at hD ⊢
 clear hBe
 have d0:=(Sn.row (uh hD)).1
 go_wp2_with fail
 refine (uh cst _).mono ?_
 rintro _ w2 ⟨rfl,hg2⟩
 have hF:=hide (Sn.born w2 st 38)
 have hgB:=hide (gtr hg2 (World.grownBy_alloc w2 (.cells (En.cells st) 38) none))
 have hD2:=hide ((uh hD).on (uh hgB))
 have hg3:=hide (gtr (uh hg0) (uh hgB))
 clear hg2 hgB cst d0 hD hg0
 unfold En.cells at hF hD2 hg3
 go_upto_region 2 with fail
 obtain ⟨F,hFe⟩:∃F,w2.heap.size=F:=⟨_,rfl⟩
 rw [hFe] at hF ⊢
 generalize w2.alloc (.cells #[.int .i64 (st 0),.int .i64 (st 1),.int .i64 (st 2),.int .i64 (st 3),.int .i64 (st 4),.int .i64 (st 5),.int .i64 (st 6),.int .i64 (st 7),.int .i64 (st 8),.int .i64 (st 9),.int .i64 (st 10)] 38)=w3 at hF hD2 hg3 ⊢
 clear hFe w2
 obtain ⟨-,-,-,-,-,d5,d6,d7,d8,d9,d10⟩:=Sn.row (uh hD2)
 obtain ⟨-,-,-,-,-,-,z6,z7,z8,-,-⟩:=Sn.row (uh hF)
 clear hF hD2
 cases k1 with
 | false=>go_wp2;go_ret;exact ⟨ret_bool (uh hd).symm,uh hg3⟩
 | true =>
 cases k2 with
 | false=>go_wp2;go_ret;exact ⟨ret_bool (uh hd).symm,uh hg3⟩
 | true =>
 cases k3 with
 | false=>go_wp2;go_ret;exact ⟨ret_bool (uh hd).symm,uh hg3⟩
 | true =>
 go_wp2_with fail
 refine (uh c4 _).mono ?_
 rintro _ w4 ⟨rfl,rfl⟩
 cases k4 with
 | false=>go_wp2;go_ret;exact ⟨ret_bool (uh hd).symm,uh hg3⟩
 | true =>
 go_wp2_with fail
 refine (uh c5 _).mono ?_
 rintro _ w4 ⟨rfl,rfl⟩
 cases k5 with
 | false=>go_wp2;go_ret;exact ⟨ret_bool (uh hd).symm,uh hg3⟩
 | true =>
 go_wp2_with fail
 refine (uh c6 _).mono ?_
 rintro _ w4 ⟨rfl,rfl⟩
 go_wp2
 go_ret
 exact ⟨ret_bool (by rw [uh hd];rfl),uh hg3⟩

theorem Sn.first_row {q:Nat→Bool} {k n:Nat} (hk:k<n) (hq:q k=true):(En.first q n=(k:Int)↔En.first q k=-1):=by
 constructor
 ·intro h
  refine En.first_none fun j hj=>?_
  rcases En.first_cases q n with ⟨h1,_⟩ | ⟨m,_,h1,_,hno⟩
  ·omega
  ·have:m=k:=by omega
   subst this
   exact hno j hj
 ·intro h
  refine En.first_hit (fun j hj=>?_) hq hk
  rcases En.first_cases q k with ⟨_,hno⟩ | ⟨m,_,h1,_,_⟩
  ·exact hno j hj
  ·omega

set_option maxRecDepth 8000 in
set_option maxHeartbeats 3200000 in
theorem standsAlone_any (s g c:Nat→Int) (E I:Nat→Nat→Int) (gC gE gI cC cE cI k:Nat) (w:World) (hL:Gd.Lists w gC gE gI c E I) (hc:∀i,0≤c i∧c i≤255) (hcE:32≤cE) (hk:k<32) (h0:E k 0≠0) :
  Calls Tryz.prog 78 #[.agg (Gd.world s gC gE gI cC cE cI g),.int .i64 (k:Int)] w (Says w (.bool (Sn.aloneB c E k))):=by
 obtain ⟨w0,hw0⟩:∃w0,w0=w.alloc (.cells (Gd.world s gC gE gI cC cE cI g) 31):=⟨_,rfl⟩
 have hg0:w.grownBy w0 none:=by rw [hw0];exact World.grownBy_alloc _ _ _
 have hB:Hid (Lie w0 w.heap.size 31 11 (Gd.box s gC gE gI cC cE cI g)):=by show Lie w0 _ _ _ _;rw [hw0];exact (Arr.world (heap_alloc_new w _)).lie
 have hL0:=hide (hL.on hg0)
 have hgr:=hide hg0
 have HK:=hide hk
 have hk':(k:Int)<32:=by omega
 have ca:=hide (fun z (hz:Gd.Lists z gC gE gI c E I)=>at_any z.heap.size (some ⟨gC,0,none⟩) 384 cC c (E k 3) (E k 4) z hz.vec hc)
 have ck:=hide (fun x=>walk_any (Gr.at 384 c (E k 3) (E k 4)) x)
 have ce:=hide (fun z (hz:Gd.Lists z gC gE gI c E I)=>entAt_any gE 32 cE E (E k 3) (E k 4) z hz.own.ents hcE)
 have hd:Hid (Sn.aloneB c E k=(Gr.walkB (Gr.at 384 c (E k 3) (E k 4)) && (En.first (En.atQ E (E k 3) (E k 4)) 32 == (k:Int)))):=by
  show Sn.aloneB c E k=_
  unfold Sn.aloneB
  have hq:En.atQ E (E k 3) (E k 4) k=true:=by simp [En.atQ,h0]
  rw [Bool.eq_iff_iff]
  simp only [Bool.and_eq_true,decide_eq_true_eq,beq_iff_eq]
  rw [Sn.first_row hk hq]
 obtain ⟨a,ha⟩:∃a,Gr.at 384 c (E k 3) (E k 4)=a:=⟨_,rfl⟩
 rw [ha] at ca ck hd
 obtain ⟨q,hq⟩:∃q,Gr.walkB a=q:=⟨_,rfl⟩
 rw [hq] at ck hd
 obtain ⟨f,hf⟩:∃f,En.first (En.atQ E (E k 3) (E k 4)) 32=f:=⟨_,rfl⟩
 rw [hf] at ce hd
 obtain ⟨p,hp⟩:∃p,(f == (k:Int))=p:=⟨_,rfl⟩
 rw [hp] at hd
 clear hL hc hcE hk h0 hg0 ha hq hf
 unfold Gd.world at hw0 ⊢
 go_enter Tryz.func78,Tryz.ntmps78
 go_upto_region 1 with fail
 rw [←hw0]
 clear hw0
 obtain ⟨B,hBe⟩:∃B,w.heap.size=B:=⟨_,rfl⟩
 rw [hBe] at hB ⊢
 clear hBe
 have b5:=(uh hB).eleven.2.2.2.2.2.1
 obtain ⟨r0,r1,r2,r3,r4,r5,r6,r7,r8,r9,r10⟩:=(uh hL0).own.ents.row (uh HK)
 obtain ⟨w1,hw1⟩:∃w1,w1=w0.alloc (.cells (En.cells (E k)) 38):=⟨_,rfl⟩
 have hgA:w0.grownBy w1 none:=by rw [hw1];exact World.grownBy_alloc _ _ _
 have hD:Hid (Lie w1 w0.heap.size 38 11 (Ints (E k))):=by show Lie w1 _ _ _ _;rw [hw1];exact Sn.born w0 (E k) 38
 have hL1:=hide ((uh hL0).on hgA)
 have hB1:=hide ((uh hB).on hgA)
 have hg1:=hide (gtr (uh hgr) hgA)
 clear hgA hB hL0 hgr
 unfold En.cells at hw1
 go_upto_region 2 with fail
 rw [←hw1]
 clear hw1 b5 r0 r1 r2 r3 r4 r5 r6 r7 r8 r9 r10
 obtain ⟨D,hDe⟩:∃D,w0.heap.size=D:=⟨_,rfl⟩
 rw [hDe] at hD ⊢
 clear hDe w0
 have b4:=(uh hB1).eleven.2.2.2.2.1
 have b5:=(uh hB1).eleven.2.2.2.2.2.1
 obtain ⟨-,-,-,d3,d4,-,-,-,-,-,-⟩:=Sn.row (uh hD)
 go_wp2_with fail
 refine (uh ca _ (uh hL1)).mono ?_
 rintro _ w2 ⟨rfl,rfl⟩
 go_wp2_with fail
 refine (uh ck _).mono ?_
 rintro _ w2 ⟨rfl,rfl⟩
 cases q with
 | false=>go_wp2;go_ret;exact ⟨ret_bool (uh hd).symm,uh hg1⟩
 | true =>
  go_wp2_with fail
  refine (uh ce _ (uh hL1)).mono ?_
  rintro _ w2 ⟨rfl,hg2⟩
  have hgf:=hide (gtr (uh hg1) hg2)
  clear hg2 b4 b5 d3 d4 hL1 hB1 hD hg1
  go_wp2
  go_ret
  exact ⟨ret_bool (by rw [uh hd];rfl),uh hgf⟩

set_option maxRecDepth 8000 in
set_option maxHeartbeats 3200000 in
theorem isSeated_any (gE cE k:Nat) (E:Nat→Nat→Int) (w:World) (hE:Ents w gE 32 E) (hcE:32≤cE) (hk:k<32) :
  Calls Tryz.prog 79 #[.slice (some ⟨gE,0,none⟩) 32 cE,.int .i64 (k:Int)] w (Says w (.bool (Sn.seatedB E k))):=by
 have hk':(k:Int)<32:=by omega
 obtain ⟨r0,-,r2,-,-,-,-,-,-,-,-⟩:=hE.row hk
 have cw:=hide (fun x=>snWithin_any (E k 2) 0 3 x)
 have ch:=hide (hero_any gE 32 cE E (E k 2) w hE hcE)
 by_cases h1:E k 0=1
 ·have hd:Hid (Sn.seatedB E k=(Sn.inB (E k 2) 0 3 && (En.first (En.heroQ E (E k 2)) 32 == (k:Int)))):=by
   show Sn.seatedB E k=_
   unfold Sn.seatedB Sn.inB
   have hq:En.heroQ E (E k 2) k=true:=by simp [En.heroQ,h1]
   rw [if_pos h1,Bool.eq_iff_iff]
   simp only [Bool.and_eq_true,decide_eq_true_eq,beq_iff_eq]
   rw [Sn.first_row hk hq,and_assoc]
  obtain ⟨q,hq⟩:∃q,Sn.inB (E k 2) 0 3=q:=⟨_,rfl⟩
  rw [hq] at cw hd
  obtain ⟨f,hf⟩:∃f,En.first (En.heroQ E (E k 2)) 32=f:=⟨_,rfl⟩
  rw [hf] at ch hd
  obtain ⟨p,hp⟩:∃p,(f == (k:Int))=p:=⟨_,rfl⟩
  rw [hp] at hd
  rw [h1] at r0
  clear hE hcE hk h1 hq hf
  go_enter Tryz.func79,Tryz.ntmps79
  go_wp2_with fail
  refine (uh cw _).mono ?_
  rintro _ w2 ⟨rfl,rfl⟩
  cases q with
  | false=>go_wp2;go_ret;exact ⟨ret_bool (uh hd).symm,World.grownBy.refl _ _⟩
  | true =>
   go_wp2_with fail
   refine (uh ch).mono ?_
   rintro _ w2 ⟨rfl,hg2⟩
   have hgf:=hide hg2
   clear hg2 r0 r2
   go_wp2
   go_ret
   exact ⟨ret_bool (by rw [uh hd];rfl),uh hgf⟩
 ·have h1':(E k 0 != 1)=true:=by simp [h1]
  have hd:Hid (Sn.seatedB E k=(E k 2 == 0)):=by
   show Sn.seatedB E k=_
   unfold Sn.seatedB
   rw [if_neg h1,Bool.eq_iff_iff]
   simp only [decide_eq_true_eq,beq_iff_eq]
  obtain ⟨p,hp⟩:∃p,(E k 2 == 0)=p:=⟨_,rfl⟩
  rw [hp] at hd
  clear hE hcE hk h1 cw ch
  go_enter Tryz.func79,Tryz.ntmps79
  go_wp2
  go_ret
  exact ⟨ret_bool (uh hd).symm,World.grownBy.refl _ _⟩


open Go.RowKit

def Sn.sameE (e f:Nat→Int):Bool:=decide (e 0=f 0) && (decide (e 1=f 1) && (decide (e 2=f 2) && (decide (e 3=f 3) && (decide (e 4=f 4) && (decide (e 5=f 5) && (decide (e 6=f 6) && (decide (e 7=f 7) && (decide (e 8=f 8) && (decide (e 9=f 9) && decide (e 10=f 10))))))))))

def Sn.sameI (e f:Nat→Int):Bool:=decide (e 0=f 0) && (decide (e 1=f 1) && (decide (e 2=f 2) && decide (e 3=f 3)))

theorem Sn.sameE_iff (e f:Nat→Int):Sn.sameE e f=true↔∀j,j<11→e j=f j:=by
 unfold Sn.sameE
 simp only [Bool.and_eq_true,decide_eq_true_eq]
 constructor
 ·rintro ⟨h0,h1,h2,h3,h4,h5,h6,h7,h8,h9,h10⟩ j hj
  rcases (show j=0∨j=1∨j=2∨j=3∨j=4∨j=5∨j=6∨j=7∨j=8∨j=9∨j=10 by omega) with rfl | rfl | rfl | rfl | rfl | rfl | rfl | rfl | rfl | rfl | rfl <;> assumption
 ·intro h
  exact ⟨h 0 (by omega),h 1 (by omega),h 2 (by omega),h 3 (by omega),h 4 (by omega),h 5 (by omega),h 6 (by omega),h 7 (by omega),h 8 (by omega),h 9 (by omega),h 10 (by omega)⟩

theorem Sn.sameI_iff (e f:Nat→Int):Sn.sameI e f=true↔∀j,j<4→e j=f j:=by
 unfold Sn.sameI
 simp only [Bool.and_eq_true,decide_eq_true_eq]
 constructor
 ·rintro ⟨h0,h1,h2,h3⟩ j hj
  rcases (show j=0∨j=1∨j=2∨j=3 by omega) with rfl | rfl | rfl | rfl <;> assumption
 ·intro h
  exact ⟨h 0 (by omega),h 1 (by omega),h 2 (by omega),h 3 (by omega)⟩

set_option maxHeartbeats 1600000 in
theorem run_ne_ent (e f:Nat→Int) (w:World):(binOp .neq 38 (.agg #[.int .i64 (e 0),.int .i64 (e 1),.int .i64 (e 2),.int .i64 (e 3),.int .i64 (e 4),.int .i64 (e 5),.int .i64 (e 6),.int .i64 (e 7),.int .i64 (e 8),.int .i64 (e 9),.int .i64 (e 10)]) (.agg #[.int .i64 (f 0),.int .i64 (f 1),.int .i64 (f 2),.int .i64 (f 3),.int .i64 (f 4),.int .i64 (f 5),.int .i64 (f 6),.int .i64 (f 7),.int .i64 (f 8),.int .i64 (f 9),.int .i64 (f 10)])).run Tryz.prog w=.ok (.bool (!Sn.sameE e f)) w:=by
 unfold Sn.sameE
 by_cases h0:e 0=f 0
 ·by_cases h1:e 1=f 1
  ·by_cases h2:e 2=f 2
   ·by_cases h3:e 3=f 3
    ·by_cases h4:e 4=f 4
     ·by_cases h5:e 5=f 5
      ·by_cases h6:e 6=f 6
       ·by_cases h7:e 7=f 7
        ·by_cases h8:e 8=f 8
         ·by_cases h9:e 9=f 9
          ·by_cases h10:e 10=f 10
           ·simp [go_sem,h0,h1,h2,h3,h4,h5,h6,h7,h8,h9,h10]
           ·simp [go_sem,h0,h1,h2,h3,h4,h5,h6,h7,h8,h9,h10]
          ·simp [go_sem,h0,h1,h2,h3,h4,h5,h6,h7,h8,h9]
         ·simp [go_sem,h0,h1,h2,h3,h4,h5,h6,h7,h8]
        ·simp [go_sem,h0,h1,h2,h3,h4,h5,h6,h7]
       ·simp [go_sem,h0,h1,h2,h3,h4,h5,h6]
      ·simp [go_sem,h0,h1,h2,h3,h4,h5]
     ·simp [go_sem,h0,h1,h2,h3,h4]
    ·simp [go_sem,h0,h1,h2,h3]
   ·simp [go_sem,h0,h1,h2]
  ·simp [go_sem,h0,h1]
 ·simp [go_sem,h0]


open Go.RowKit

def Sn.bare (v:Int):Nat→Int
 | 1=>v
 | _=>0

def Sn.ansE (q0 q1 z p k1 k2 k3:Bool):Int:=bif q0 then bif q1 then bif z then (bif p then 0 else 9) else bif k1 && (k2 && k3) then 0 else 9 else 9 else 3

theorem Sn.entC_ans (c:Nat→Int) (E:Nat→Nat→Int) (k:Nat):Sn.entC c E k=Sn.ansE (Sn.inB (E k 0) 0 4) (Sn.inB (E k 1) 0 255) (decide (E k 0=0)) (Sn.sameE (E k) (Sn.bare (E k 1))) (Sn.soundB (E k)) (Sn.aloneB c E k) (Sn.seatedB E k):=by
 unfold Sn.entC Sn.ansE Sn.inB
 by_cases a0:0≤E k 0∧E k 0≤4
 ·rw [if_pos a0,decide_eq_true a0,cond_true]
  by_cases a1:0≤E k 1∧E k 1≤255
  ·rw [if_pos a1,decide_eq_true a1,cond_true]
   by_cases h0:E k 0=0
   ·rw [if_pos h0,decide_eq_true h0,cond_true]
    have e:(Sn.freeB (E k)=true↔Sn.sameE (E k) (Sn.bare (E k 1))=true):=by
     rw [Sn.sameE_iff]
     unfold Sn.freeB
     rw [decide_eq_true_eq]
     constructor
     ·rintro ⟨h2,h3,h4,h5,h6,h7,h8,h9,h10⟩ j hj
      rcases (show j=0∨j=1∨j=2∨j=3∨j=4∨j=5∨j=6∨j=7∨j=8∨j=9∨j=10 by omega) with rfl | rfl | rfl | rfl | rfl | rfl | rfl | rfl | rfl | rfl | rfl <;> first | assumption | rfl
     ·intro h
      exact ⟨h 2 (by omega),h 3 (by omega),h 4 (by omega),h 5 (by omega),h 6 (by omega),h 7 (by omega),h 8 (by omega),h 9 (by omega),h 10 (by omega)⟩
    by_cases q:Sn.freeB (E k)=true
    ·rw [if_pos q,e.1 q]
     rfl
    ·have q':Sn.sameE (E k) (Sn.bare (E k 1))=false:=by
      rw [←Bool.not_eq_true]
      exact fun h=>q (e.2 h)
     rw [if_neg q,q']
     rfl
   ·rw [if_neg h0,decide_eq_false h0,cond_false]
    by_cases q:Sn.soundB (E k)=true∧Sn.aloneB c E k=true∧Sn.seatedB E k=true
    ·rw [if_pos q,q.1,q.2.1,q.2.2]
     rfl
    ·rw [if_neg q]
     cases h1:Sn.soundB (E k) <;> cases h2:Sn.aloneB c E k <;> cases h3:Sn.seatedB E k <;> first | rfl | exact absurd ⟨h1,h2,h3⟩ q
  ·rw [if_neg a1,decide_eq_false a1,cond_false]
 ·rw [if_neg a0,decide_eq_false a0,cond_false]

set_option maxRecDepth 8000 in
set_option maxHeartbeats 6400000 in
theorem checkEnt_any (s g c:Nat→Int) (E I:Nat→Nat→Int) (gC gE gI cC cE cI k:Nat) (w:World) (hL:Gd.Lists w gC gE gI c E I) (hc:∀i,0≤c i∧c i≤255) (hcE:32≤cE) (hk:k<32) :
  Calls Tryz.prog 51 #[.agg (Gd.world s gC gE gI cC cE cI g),.int .i64 (k:Int)] w (Says w (.int .i64 (Sn.entC c E k))):=by
 obtain ⟨w0,hw0⟩:∃w0,w0=w.alloc (.cells (Gd.world s gC gE gI cC cE cI g) 31):=⟨_,rfl⟩
 have hg0:w.grownBy w0 none:=by rw [hw0];exact World.grownBy_alloc _ _ _
 have hB:Hid (Lie w0 w.heap.size 31 11 (Gd.box s gC gE gI cC cE cI g)):=by show Lie w0 _ _ _ _;rw [hw0];exact (Arr.world (heap_alloc_new w _)).lie
 have hL0:=hide (hL.on hg0)
 have hgr:=hide hg0
 have HK:=hide hk
 have HCE:=hide hcE
 have hk':(k:Int)<32:=by omega
 have c0:=hide (fun x=>snWithin_any (E k 0) 0 4 x)
 have c1:=hide (fun x=>snWithin_any (E k 1) 0 255 x)
 have cs:=hide (fun x=>isSound_any (E k) x)
 have ca:=hide (fun z (hz:Gd.Lists z gC gE gI c E I) (h0:E k 0≠0)=>standsAlone_any s g c E I gC gE gI cC cE cI k z hz hc hcE hk h0)
 have ct:=hide (fun z (hz:Gd.Lists z gC gE gI c E I)=>isSeated_any gE cE k E z hz.own.ents hcE hk)
 have hd:=hide (Sn.entC_ans c E k)
 obtain ⟨z,hz'⟩:∃z,decide (E k 0=0)=z:=⟨_,rfl⟩
 rw [hz'] at hd
 have hz:Hid (decide (E k 0=0)=z):=hz'
 clear hz'
 have hcmp:=fun wx=>run_ne_ent (E k) (Sn.bare (E k 1)) wx
 obtain ⟨p,hp⟩:∃p,Sn.sameE (E k) (Sn.bare (E k 1))=p:=⟨_,rfl⟩
 rw [hp] at hd
 have hcmp':∀wx:World,(binOp .neq 38 (.agg #[.int .i64 (E k 0),.int .i64 (E k 1),.int .i64 (E k 2),.int .i64 (E k 3),.int .i64 (E k 4),.int .i64 (E k 5),.int .i64 (E k 6),.int .i64 (E k 7),.int .i64 (E k 8),.int .i64 (E k 9),.int .i64 (E k 10)]) (.agg #[.int .i64 0,.int .i64 (E k 1),.int .i64 0,.int .i64 0,.int .i64 0,.int .i64 0,.int .i64 0,.int .i64 0,.int .i64 0,.int .i64 0,.int .i64 0])).run Tryz.prog wx=.ok (.bool (!p)) wx:=fun wx=>by
  rw [←hp]
  exact hcmp wx
 obtain ⟨q0,e0⟩:∃q,Sn.inB (E k 0) 0 4=q:=⟨_,rfl⟩
 obtain ⟨q1,e1⟩:∃q,Sn.inB (E k 1) 0 255=q:=⟨_,rfl⟩
 rw [e0] at c0 hd
 rw [e1] at c1 hd
 obtain ⟨k1,f1⟩:∃q,Sn.soundB (E k)=q:=⟨_,rfl⟩
 obtain ⟨k2,f2⟩:∃q,Sn.aloneB c E k=q:=⟨_,rfl⟩
 obtain ⟨k3,f3⟩:∃q,Sn.seatedB E k=q:=⟨_,rfl⟩
 rw [f1] at cs hd
 rw [f2] at ca hd
 rw [f3] at ct hd
 obtain ⟨A,hA⟩:∃A,Sn.entC c E k=A:=⟨_,rfl⟩
 rw [hA] at hd ⊢
 clear hL hc hcE hk hg0 hcmp hp e0 e1 f1 f2 f3 hA
 unfold Gd.world at hw0 ca ⊢
 unfold En.cells at cs
 go_enter Tryz.func51,Tryz.ntmps51
 go_upto_region 1 with fail
 rw [←hw0]
 clear hw0
 obtain ⟨B,hBe⟩:∃B,w.heap.size=B:=⟨_,rfl⟩
 rw [hBe] at hB ⊢
 clear hBe
 have b5:=(uh hB).eleven.2.2.2.2.2.1
 obtain ⟨r0,r1,r2,r3,r4,r5,r6,r7,r8,r9,r10⟩:=(uh hL0).own.ents.row (uh HK)
 obtain ⟨w1,hw1⟩:∃w1,w1=w0.alloc (.cells (En.cells (E k)) 38):=⟨_,rfl⟩
 have hgA:w0.grownBy w1 none:=by rw [hw1];exact World.grownBy_alloc _ _ _
 have hD:Hid (Lie w1 w0.heap.size 38 11 (Ints (E k))):=by show Lie w1 _ _ _ _;rw [hw1];exact Sn.born w0 (E k) 38
 have hL1:=hide ((uh hL0).on hgA)
 have hB1:=hide ((uh hB).on hgA)
 have hg1:=hide (gtr (uh hgr) hgA)
 clear hgA hB hL0 hgr
 unfold En.cells at hw1
 go_upto_region 2 with fail
 rw [←hw1]
 clear hw1 b5 r0 r1 r2 r3 r4 r5 r6 r7 r8 r9 r10
 obtain ⟨D,hDe⟩:∃D,w0.heap.size=D:=⟨_,rfl⟩
 rw [hDe] at hD ⊢
 clear hDe w0
 obtain ⟨d0,d1,d2,d3,d4,d5,d6,d7,d8,d9,d10⟩:=Sn.row (uh hD)
 go_wp2_with fail
 refine (uh c0 _).mono ?_
 rintro _ w2 ⟨rfl,rfl⟩
 cases q0 with
 | false=>go_wp2;go_ret;exact ⟨rti (uh hd).symm,uh hg1⟩
 | true =>
 go_wp2_with fail
 refine (uh c1 _).mono ?_
 rintro _ w2 ⟨rfl,rfl⟩
 cases q1 with
 | false=>go_wp2;go_ret;exact ⟨rti (uh hd).symm,uh hg1⟩
 | true =>
 cases z with
 | true =>
  have h0:E k 0=0:=of_decide_eq_true (uh hz)
  have h0':(E k 0 == 0)=true:=by simp [h0]
  have h0'':(E k 0 != 0)=false:=by simp [h0]
  clear h0 hz
  cases p with
  | false=>go_wp2;go_ret;exact ⟨rti (uh hd).symm,uh hg1⟩
  | true=>go_wp2;go_ret;exact ⟨rti (uh hd).symm,uh hg1⟩
 | false =>
  have h0:¬E k 0=0:=of_decide_eq_false (uh hz)
  have h0':(E k 0 == 0)=false:=by simp [h0]
  have h0'':(E k 0 != 0)=true:=by simp [h0]
  have H0:=hide h0
  clear h0 hcmp' hz
  go_wp2_with fail
  refine (uh cs _).mono ?_
  rintro _ w2 ⟨rfl,hg2⟩
  have hL2:=hide ((uh hL1).on hg2)
  have hB2:=hide ((uh hB1).on hg2)
  have hD2:=hide ((uh hD).on hg2)
  have hg3:=hide (gtr (uh hg1) hg2)
  clear hg2 hL1 hB1 hD hg1 d0 d1 d2 d3 d4 d5 d6 d7 d8 d9 d10
  cases k1 with
  | false=>go_wp2;go_ret;exact ⟨rti (uh hd).symm,uh hg3⟩
  | true =>
  obtain ⟨b0,b1,b2,b3,b4,b5,b6,b7,b8,b9,b10⟩:=(uh hB2).eleven
  go_wp2_with fail
  refine (uh ca _ (uh hL2) (uh H0)).mono ?_
  rintro _ w3 ⟨rfl,hg2⟩
  have hL3:=hide ((uh hL2).on hg2)
  have hB3:=hide ((uh hB2).on hg2)
  have hg4:=hide (gtr (uh hg3) hg2)
  clear hg2 hL2 hB2 hD2 hg3 b0 b1 b2 b3 b4 b5 b6 b7 b8 b9 b10
  cases k2 with
  | false=>go_wp2;go_ret;exact ⟨rti (uh hd).symm,uh hg4⟩
  | true =>
  have b5:=(uh hB3).eleven.2.2.2.2.2.1
  go_wp2_with fail
  refine (uh ct _ (uh hL3)).mono ?_
  rintro _ w4 ⟨rfl,hg2⟩
  have hg5:=hide (gtr (uh hg4) hg2)
  clear hg2 hL3 hB3 hg4 b5
  cases k3 with
  | false=>go_wp2;go_ret;exact ⟨rti (uh hd).symm,uh hg5⟩
  | true=>go_wp2;go_ret;exact ⟨rti (uh hd).symm,uh hg5⟩

structure Sn.Shown (w x:World) (B gC gE gI cC cE cI:Nat) (s g c:Nat→Int) (E I:Nat→Nat→Int):Prop where
 box:Lie x B 31 11 (Gd.box s gC gE gI cC cE cI g)
 lists:Gd.Lists x gC gE gI c E I
 grown:w.grownBy x none

theorem Sn.Shown.on {w x y:World} {B gC gE gI cC cE cI:Nat} {s g c:Nat→Int} {E I:Nat→Nat→Int} (h:Sn.Shown w x B gC gE gI cC cE cI s g c E I) (hg:x.grownBy y none):Sn.Shown w y B gC gE gI cC cE cI s g c E I :=
 ⟨h.box.on hg,h.lists.on hg,gtr h.grown hg⟩

def Sn.ChkBy (q:Bool) (m n3 n4:Int) (c:Nat→Int) (E I:Nat→Nat→Int) (v:Int):Prop :=
 if q=true then if m≤5 then if n3=1∧n4=1 then if Sn.rowC c E 32=0 then (v=0∧Gd.Ok c 40 I)∨(v=9∧¬Gd.Ok c 40 I) else v=Sn.rowC c E 32 else v=2 else v=3 else v=1

def Sn.ChkRows (c:Nat→Int) (E I:Nat→Nat→Int) (v:Int):Prop :=
 if Sn.rowC c E 32=0 then (v=0∧Gd.Ok c 40 I)∨(v=9∧¬Gd.Ok c 40 I) else v=Sn.rowC c E 32

def Sn.Told (w:World) (s g c:Nat→Int) (E I:Nat→Nat→Int) (e:Ending) (w':World):Prop:=∃v,e=.returned (.int .i64 v)∧Sn.Chk s g c E I v∧w.grownBy w' none

set_option maxRecDepth 8000 in
set_option maxHeartbeats 6400000 in
theorem snCheck_any (s g c:Nat→Int) (E I:Nat→Nat→Int) (gC gE gI cC cE cI:Nat) (w:World) (hL:Gd.Lists w gC gE gI c E I) (hc:∀i,0≤c i∧c i≤255) (hcE:32≤cE) :
  Calls Tryz.prog 25 #[.agg (Gd.world s gC gE gI cC cE cI g)] w (Sn.Told w s g c E I):=by
 obtain ⟨w0,hw0⟩:∃w0,w0=w.alloc (.cells (Gd.world s gC gE gI cC cE cI g) 31):=⟨_,rfl⟩
 have hg0:w.grownBy w0 none:=by rw [hw0];exact World.grownBy_alloc _ _ _
 have hO:Hid (Sn.Shown w w0 w.heap.size gC gE gI cC cE cI s g c E I):=by
  refine ⟨?_,hL.on hg0,hg0⟩
  rw [hw0]
  exact (Arr.world (heap_alloc_new w _)).lie
 have ch:=hide (fun x=>headFits_any s g 384 32 40 cC cE cI (some ⟨gC,0,none⟩) (some ⟨gE,0,none⟩) (some ⟨gI,0,none⟩) x)
 have cm:=hide (fun x (hx:Gd.Lists x gC gE gI c E I)=>snMax_any gC cC c x hx.cells)
 have cn:=hide (fun x (hx:Gd.Lists x gC gE gI c E I) kd=>snCount_any gC cC c kd x hx.cells)
 have ce:=hide (fun x (hx:Gd.Lists x gC gE gI c E I) k (hk:k<32)=>checkEnt_any s g c E I gC gE gI cC cE cI k x hx hc hcE hk)
 have cd:=hide (fun x (hx:Gd.Lists x gC gE gI c E I)=>check_any s g c E I gC gE gI cC cE cI x hx hc)
 obtain ⟨q,hq⟩:∃q,Sn.headB s g=q:=⟨_,rfl⟩
 obtain ⟨m,hm⟩:∃m,Sn.mx c 383=m:=⟨_,rfl⟩
 obtain ⟨n3,h3⟩:∃m,Sn.cnt c 3 384=m:=⟨_,rfl⟩
 obtain ⟨n4,h4⟩:∃m,Sn.cnt c 4 384=m:=⟨_,rfl⟩
 have hT:Hid (∀v,Sn.Chk s g c E I v↔Sn.ChkBy q m n3 n4 c E I v):=fun v=>by
  unfold Sn.Chk Sn.ChkBy
  rw [hq,hm,h3,h4]
 have c3:Hid (∀x,Gd.Lists x gC gE gI c E I→Calls Tryz.prog 50 #[.slice (some ⟨gC,0,none⟩) 384 cC,.int .u8 3] x fun e w'=>e=.returned (.int .i64 n3)∧w'=x):=fun x hx=>by
  rw [←h3]
  exact uh cn x hx 3
 have c4:Hid (∀x,Gd.Lists x gC gE gI c E I→Calls Tryz.prog 50 #[.slice (some ⟨gC,0,none⟩) 384 cC,.int .u8 4] x fun e w'=>e=.returned (.int .i64 n4)∧w'=x):=fun x hx=>by
  rw [←h4]
  exact uh cn x hx 4
 rw [hq] at ch
 rw [hm] at cm
 clear hL hc hcE hg0 cn hq hm h3 h4
 unfold Gd.world at hw0 ce cd ⊢
 go_enter Tryz.func25,Tryz.ntmps25
 go_upto_region 1 with fail
 rw [←hw0]
 clear hw0
 obtain ⟨B,hB⟩:∃B,w.heap.size=B:=⟨_,rfl⟩
 rw [hB] at hO ⊢
 clear hB
 obtain ⟨b0,b1,b2,b3,b4,b5,b6,b7,b8,b9,b10⟩:=(uh hO).box.eleven
 go_wp2_with fail
 refine (uh ch _).mono ?_
 rintro e w1 ⟨rfl,hg⟩
 have hO1:=hide ((uh hO).on hg)
 clear hg hO ch b0 b1 b2 b3 b4 b5 b6 b7 b8 b9 b10
 cases q with
 | false =>
  have hfin:Hid (Sn.Told w s g c E I (.returned (.int .i64 1)) w1):=⟨1,rfl,((uh hT) 1).2 (by unfold Sn.ChkBy;rw [if_neg (by simp)]),(uh hO1).grown⟩
  go_wp2
  go_ret
  exact uh hfin
 | true =>
 obtain ⟨b0,b1,b2,b3,b4,b5,b6,b7,b8,b9,b10⟩:=(uh hO1).box.eleven
 go_wp2_with fail
 refine (uh cm _ (uh hO1).lists).mono ?_
 rintro e w1 ⟨rfl,rfl⟩
 by_cases hm:m≤5
 case neg =>
  have hm':m > 5:=by omega
  have hfin:Hid (Sn.Told w s g c E I (.returned (.int .i64 3)) w1):=⟨3,rfl,((uh hT) 3).2 (by unfold Sn.ChkBy;rw [if_pos rfl,if_neg hm]),(uh hO1).grown⟩
  clear hm
  go_wp2
  go_ret
  exact uh hfin
 have hm':¬m > 5:=by omega
 have HM:=hide hm
 clear hm
 go_wp2_with fail
 refine (uh c3 _ (uh hO1).lists).mono ?_
 rintro e w1 ⟨rfl,rfl⟩
 by_cases k3:n3=1
 case neg =>
  have k3':(n3 != 1)=true:=by simp [k3]
  have hfin:Hid (Sn.Told w s g c E I (.returned (.int .i64 2)) w1):=⟨2,rfl,((uh hT) 2).2 (by unfold Sn.ChkBy;rw [if_pos rfl,if_pos (uh HM),if_neg (fun h=>k3 h.1)]),(uh hO1).grown⟩
  clear k3
  go_wp2
  go_ret
  exact uh hfin
 have k3':(n3 != 1)=false:=by simp [k3]
 have K3:=hide k3
 clear k3
 go_wp2_with fail
 refine (uh c4 _ (uh hO1).lists).mono ?_
 rintro e w1 ⟨rfl,rfl⟩
 by_cases k4:n4=1
 case neg =>
  have k4':(n4 != 1)=true:=by simp [k4]
  have hfin:Hid (Sn.Told w s g c E I (.returned (.int .i64 2)) w1):=⟨2,rfl,((uh hT) 2).2 (by unfold Sn.ChkBy;rw [if_pos rfl,if_pos (uh HM),if_neg (fun h=>k4 h.2)]),(uh hO1).grown⟩
  clear k4
  go_wp2
  go_ret
  exact uh hfin
 have k4':(n4 != 1)=false:=by simp [k4]
 have hT2:Hid (∀v,Sn.Chk s g c E I v↔Sn.ChkRows c E I v):=fun v=>by
  rw [uh hT v]
  unfold Sn.ChkBy Sn.ChkRows
  rw [if_pos rfl,if_pos (uh HM),if_pos ⟨uh K3,k4⟩]
 clear k4 hT HM K3
 go_wp2_with fail
 go_loopw [45] (fun v45 wr=>∃i:Nat,i≤32∧v45=.int .i64 (i:Int)∧Hid (∀j,j<i→Sn.entC c E j=0)∧Hid (Sn.Shown w wr B gC gE gI cC cE cI s g c E I)) (fun v45 _=>40 - (intOf v45).toNat)
 case atStart=>exact ⟨0,by omega,rfl,fun j hj=>absurd hj (by omega),hO1⟩
 case round =>
  clear hO1 b0 b1 b2 b3 b4 b5 b6 b7 b8 b9 b10 k3' k4' hm'
  obtain ⟨i,hi,rfl,hz,hO⟩:=hrel
  obtain ⟨b0,b1,b2,b3,b4,b5,b6,b7,b8,b9,b10⟩:=(uh hO).box.eleven
  by_cases hlt:i<32
  ·have hlt':(i:Int)<32:=by omega
   have HL:=hide hlt
   have cx:=hide (uh ce wr (uh hO).lists i hlt)
   obtain ⟨r,hr⟩:∃r,Sn.entC c E i=r:=⟨_,rfl⟩
   rw [hr] at cx
   have HR:=hide hr
   clear hlt hi hr
   go_wp2_with fail
   refine (uh cx).mono ?_
   rintro e w2 ⟨rfl,hg⟩
   have hO2:=hide ((uh hO).on hg)
   clear hg hO cx b0 b1 b2 b3 b4 b5 b6 b7 b8 b9 b10
   by_cases hr0:r=0
   ·have hr':(r != 0)=false:=by simp [hr0]
    have HZ:Hid (∀j,j<i+1→Sn.entC c E j=0):=fun j hj=>by
     by_cases e:j=i
     ·rw [e,uh HR,hr0]
     ·exact uh hz j (by omega)
    clear hr0
    go_wp2
    go_roundw
    case rel=>exact ⟨i+1,by have:=uh HL;omega,by go_num,HZ,hO2⟩
    case measure=>simp [intOf];have:=uh HL;omega
   ·have hr':(r != 0)=true:=by simp [hr0]
    have hre:Sn.rowC c E (i+1)=r:=by
     show (if Sn.rowC c E i=0 then Sn.entC c E i else Sn.rowC c E i)=r
     rw [if_pos (Sn.rowC_zero (uh hz)),uh HR]
    have h32:=Sn.rowC_stays hre hr0 32 (by have:=uh HL;omega)
    have hfin:Hid (Sn.Told w s g c E I (.returned (.int .i64 r)) w2):=⟨r,rfl,((uh hT2) r).2 (by unfold Sn.ChkRows;rw [if_neg (by rw [h32];exact hr0),h32]),(uh hO2).grown⟩
    clear hr0 hre h32
    go_wp2
    go_ret
    exact uh hfin
  ·have hge:¬(i:Int)<32:=by omega
   have h32:Sn.rowC c E 32=0:=Sn.rowC_zero fun j hj=>uh hz j (by omega)
   have hT3:Hid (∀v,Sn.Chk s g c E I v↔(v=0∧Gd.Ok c 40 I)∨(v=9∧¬Gd.Ok c 40 I)):=fun v=>by rw [uh hT2 v];unfold Sn.ChkRows;rw [if_pos h32]
   clear hlt hi h32
   go_wp2_with fail
   refine (uh cd _ (uh hO).lists).mono ?_
   rintro e w3 ⟨b,rfl,hb,hg⟩
   have hgf:=hide (gtr (uh hO).grown hg)
   have HB:=hide hb
   clear hb hg hO b0 b1 b2 b3 b4 b5 b6 b7 b8 b9 b10 cd ce
   cases b with
   | true =>
    have hfin:Hid (Sn.Told w s g c E I (.returned (.int .i64 0)) w3):=⟨0,rfl,((uh hT3) 0).2 (.inl ⟨rfl,(uh HB).1 rfl⟩),uh hgf⟩
    go_wp2
    go_ret
    exact uh hfin
   | false =>
    have hfin:Hid (Sn.Told w s g c E I (.returned (.int .i64 9)) w3):=⟨9,rfl,((uh hT3) 9).2 (.inr ⟨rfl,fun h=>absurd ((uh HB).2 h) (by simp)⟩),uh hgf⟩
    go_wp2
    go_ret
    exact uh hfin


open Go.RowKit

theorem make918:∃Z:Array Value,Z.size=918∧∀w:World,(Instr.makeSlice 26 (.int .i64 0) (.int .i64 918)).run Tryz.prog w=.ok (.slice (some ⟨w.heap.size,0,none⟩) 0 918) (w.alloc (.cells Z 5)):=by
 obtain ⟨i0,hi,hz0,hz1,hz2⟩:=info_parts info_byte
 refine ⟨madeCells (Value.int .u8 0).cells (918*1),by rw [size_madeCells],fun w=>?_⟩
 have hr:=run_make (P:=Tryz.prog) w 26 5 i0 _ Tryz.underlying26 hi hz0 .i64 .i64 (0:Nat) (918:Nat) (by omega) (by omega) (by rw [hz2];decide) (by decide)
 rw [hz1] at hr
 exact hr

theorem Sn.wrap64 (x:Int):IntKind.u64.wrap x=x % 18446744073709551616:=IntKind.wrap_u64 x

theorem Sn.wrap8 (x:Int):IntKind.u8.wrap x=x % 256:=IntKind.wrap_u8 x

structure Sn.Wr (w x:World) (base:Nat) (v:Value) (l:List Int):Prop where
 own:Sn.Bytes x base v l
 bel:Below base w x

theorem Sn.Wr.top {w x:World} {base:Nat} {v:Value} {l:List Int} (h:Sn.Wr w x base v l) (hb:base≤w.heap.size):base≤x.heap.size:=Nat.le_trans hb h.bel.size

theorem Sn.Wr.more {w x y x':World} {base m:Nat} {v v':Value} {l ns:List Int} (h:Sn.Wr w x base v l) (hb:base≤w.heap.size) (hxy:x.grownBy y none) (hown:x'.ownsRow base 5 1 v' (l.length+m) (List.map (Value.int .u8) l ++ ns.map (Value.int .u8))) (hm:ns.length=m) (hg:y.grownBy x' v.ownBlock):Sn.Wr w x' base v' (l ++ ns):=by
 refine ⟨?_,?_⟩
 ·unfold Sn.Bytes
  rw [List.length_append,hm,List.map_append]
  exact hown
 ·have hb1:Below base x y:=Sn.below hxy (fun k e=>by cases e) (h.top hb)
  have hb2:=Sn.below hg (fun k e=>(h.own.lt k e).1) (Nat.le_trans (h.top hb) hb1.size)
  exact h.bel.trans (hb1.trans hb2)

theorem Sn.Wr.on {w x y:World} {base:Nat} {v:Value} {l:List Int} (h:Sn.Wr w x base v l) (hb:base≤w.heap.size) (hg:x.grownBy y none):Sn.Wr w y base v l :=
 ⟨h.own.on hg,h.bel.trans (Sn.below hg (fun k e=>by cases e) (h.top hb))⟩

theorem Sn.Wr.adds {w x x':World} {base:Nat} {v v':Value} {l l':List Int} (h:Sn.Wr w x base v l) (hown:Sn.Bytes x' base v' l') (hb:Below base x x'):Sn.Wr w x' base v' l':=⟨hown,h.bel.trans hb⟩

theorem Sn.cells_src {w:World} {G:Nat} {c:Nat→Int} (h:Lie w G 5 384 (Byts c)):∀j u,(((List.range 384).map c).map (Value.int .u8))[j]?=some u→w.cell? ((⟨G,0,none⟩:Addr).add j)=some u:=by
 intro j u hj
 have hlt:j<384:=by
  have:=(List.getElem?_eq_some_iff.1 hj).1
  simpa using this
 rw [show (⟨G,0,none⟩:Addr).add j=⟨G,j,none⟩ by rw [Go.WideShapes.add_plain,Nat.zero_add],h.cell hlt]
 rw [List.getElem?_map,List.getElem?_map,List.getElem?_range hlt] at hj
 exact hj

theorem Sn.news (w:World) (arr:Array Value) (T:TypeId) (B:Nat) (hB:B=w.heap.size):∀j u,arr.toList[j]?=some u→(w.alloc (.cells arr T)).cell? ((⟨B,0,none⟩:Addr).add j)=some u:=by
 subst hB
 intro j u hj
 have hlt:j<arr.size:=by
  have:=(List.getElem?_eq_some_iff.1 hj).1
  simpa using this
 rw [show (⟨w.heap.size,0,none⟩:Addr).add j=⟨w.heap.size,j,none⟩ by rw [Go.WideShapes.add_plain,Nat.zero_add],(Arr.lit (heap_alloc_new w (.cells arr T))).cell hlt]
 rw [Array.getElem?_toList] at hj
 rw [hj]
 rfl

set_option maxRecDepth 16000 in
set_option maxHeartbeats 6400000 in
theorem written_any (s g c:Nat→Int) (E I:Nat→Nat→Int) (gC gE gI cC cE cI:Nat) (w:World) (hL:Gd.Lists w gC gE gI c E I) :
  Calls Tryz.prog 26 #[.agg (Gd.world s gC gE gI cC cE cI g)] w fun e w'=>∃v,e=.returned v∧Sn.Bytes w' w.heap.size v (Sn.bytes s g c E I)∧w.grownBy w' none:=by
 obtain ⟨w0,hw0⟩:∃w0,w0=w.alloc (.cells (Gd.world s gC gE gI cC cE cI g) 31):=⟨_,rfl⟩
 have hg0:w.grownBy w0 none:=by rw [hw0];exact World.grownBy_alloc _ _ _
 have hO:Hid (Sn.Shown w w0 w.heap.size gC gE gI cC cE cI s g c E I):=by
  refine ⟨?_,hL.on hg0,hg0⟩
  rw [hw0]
  exact (Arr.world (heap_alloc_new w _)).lie
 obtain ⟨base,hbase⟩:∃base,w0.heap.size=base:=⟨_,rfl⟩
 have HB:Hid (base=w.heap.size+1):=by
  show base=w.heap.size+1
  rw [←hbase,hw0]
  simp
 have HG0:=hide hg0
 have HB0:Hid (base≤w0.heap.size):=(show base≤w0.heap.size by omega)
 obtain ⟨i0,hi,hz0,hz1,hz2⟩:=info_parts info_byte
 obtain ⟨Z,hZ,hmk⟩:=make918
 have hW0:Hid (∀x,x=w0.alloc (.cells Z 5)→Sn.Wr w0 x base (.slice (some ⟨base,0,none⟩) 0 918) []):=fun x hx=>by
  subst hx
  rw [←hbase]
  exact ⟨World.ownsRow_made w0 Z 918 (Nat.le_refl _) (by decide) (by rw [hZ]),Sn.below (World.grownBy_alloc w0 _ none) (fun k e=>by cases e) (Nat.le_refl _)⟩
 have lE:=hide (And.intro hL.cells.lt (And.intro hL.ents.lt hL.items.lt))
 have hlists:Hid (∀x,Below base w0 x→Lie x w.heap.size 31 11 (Gd.box s gC gE gI cC cE cI g)∧Gd.Lists x gC gE gI c E I):=fun x hx=>by
  have:=uh HB
  obtain ⟨l1,l2,l3⟩:=uh lE
  exact ⟨(uh hO).box.below hx (by omega),(uh hO).lists.below hx (by omega) (by omega) (by omega)⟩
 have cN:=hide (fun (n:Nat) (x:Int) (v:Value) (l:List Int) (y:World) (hn:n≤8) (h:Sn.Bytes y base v l) (hb:base≤y.heap.size) (hl:l.length≤1000)=>withNumber_any n base x v l y hn h hb hl)
 clear hL hg0 hZ
 unfold Gd.world at hw0 ⊢
 go_enter Tryz.func26,Tryz.ntmps26
 go_upto_region 1 with fail
 rw [←hw0]
 clear hw0
 obtain ⟨B,hBe⟩:∃B,w.heap.size=B:=⟨_,rfl⟩
 rw [hBe] at hlists ⊢
 clear hO hBe
 go_upto_region 2 with fail
 have hW1:=hide (uh hW0 _ rfl)
 clear hW0 hmk
 generalize w0.alloc (.cells Z 5)=w1 at hW1 ⊢
 obtain ⟨b0,b1,b2,b3,b4,b5,b6,b7,b8,b9,b10⟩:=(uh hlists w1 (uh hW1).bel).1.eleven
 go_wp2_with fail
 refine (uh cN 8 _ _ [] _ (by omega) (uh hW1).own ((uh hW1).top (uh HB0)) (by simp)).mono ?_
 rintro e w2 ⟨v2,rfl,hown,hbel⟩
 have hW2:=hide ((uh hW1).adds hown hbel)
 rw [List.nil_append,Sn.wrap64] at hW2
 clear hown hbel hW1 b0 b1 b2 b3 b4 b5 b6 b7 b8 b9 b10
 have b1:=(uh hlists w2 (uh hW2).bel).1.eleven.2.1
 go_wp2_with fail
 refine (uh cN 4 _ _ _ _ (by omega) (uh hW2).own ((uh hW2).top (uh HB0)) (by rw [Sn.num_len];omega)).mono ?_
 rintro e w3 ⟨v3,rfl,hown,hbel⟩
 have hW3:=hide ((uh hW2).adds hown hbel)
 rw [Sn.wrap64] at hW3
 clear hown hbel hW2 b1
 obtain ⟨b0,b1,b2,b3,b4,b5,b6,b7,b8,b9,b10⟩:=(uh hlists w3 (uh hW3).bel).1.eleven
 have t2:IntKind.u8.wrap (s 2)=s 2 % 256:=Sn.wrap8 _
 have t3:IntKind.u8.wrap (s 3)=s 3 % 256:=Sn.wrap8 _
 go_wp2_with (at_builtin;refine wpList_append_own _ rfl _ _ 26 rfl base 5 i0 (.int .u8 0) 1 1 Tryz.underlying26 hi hz0 hz1 hz2 rfl (by decide) _ _ _ rfl ((uh hW3).own.alloc _) ⟨w3.heap.size,0,none⟩ 2 2 [.int .u8 (s 2 % 256),.int .u8 (s 3 % 256)] rfl rfl (Sn.news w3 #[.int .u8 (s 2 % 256),.int .u8 (s 3 % 256)] _ _ rfl) ?_ ?_ ?_ ?_ ?_)
 ·intro u hu
  simp only [List.mem_cons,List.not_mem_nil,or_false] at hu
  rcases hu with rfl | rfl <;> rfl
 ·simp [Sn.num_len];unfold maxLen;omega
 ·simp [Sn.num_len]
 ·have:=(uh hW3).top (uh HB0);simp;omega
 intro v4 w4 hown hgrow _
 have hW4:Hid (Sn.Wr w0 w4 base v4 (Sn.head s)):=(uh hW3).more (m:=2) (ns:=[s 2 % 256,s 3 % 256]) (uh HB0) (World.grownBy_alloc _ _ _) (by simpa using hown) rfl hgrow
 clear hown hgrow hW3 b0 b1 b2 b3 b4 b5 b6 b7 b8 b9 b10 t2 t3
 obtain ⟨b0,b1,b2,b3,b4,b5,b6,b7,b8,b9,b10⟩:=(uh hlists w4 (uh hW4).bel).1.eleven
 go_wp2_with fail
 go_loopw [3,32] (fun v3 v32 wr=>∃k:Nat,k≤4∧v32=.int .i64 (k:Int)∧Hid (Sn.Wr w0 wr base v3 (Sn.head s ++ Sn.golds k g))) (fun _ v32 _=>10 - (intOf v32).toNat)
 case atStart=>exact ⟨0,by omega,rfl,by simpa [Sn.golds] using hW4⟩
 case round =>
  clear hW4 b0 b1 b2 b3 b4 b5 b6 b7 b8 b9 b10
  obtain ⟨k,hk,rfl,hX⟩:=hrel
  have hlen:Hid ((Sn.head s ++ Sn.golds k g).length=14+k*2):=by show (Sn.head s ++ Sn.golds k g).length=_;rw [List.length_append,Sn.head_len,Sn.golds_len]
  by_cases hlt:k<4
  ·have hlt':(k:Int)<4:=by omega
   have HL:=hide hlt
   have hix:=fun x=>run_index_gold g k hlt x
   clear hlt hk
   go_wp2_with fail
   refine (uh cN 2 _ _ _ _ (by omega) (uh hX).own ((uh hX).top (uh HB0)) (by have:=uh hlen;have:=uh HL;omega)).mono ?_
   rintro e w5 ⟨v5,rfl,hown,hbel⟩
   have hX2:=hide ((uh hX).adds hown hbel)
   rw [Sn.wrap64,List.append_assoc,←Sn.golds_more] at hX2
   clear hown hbel hX hix hlen
   go_wp2
   go_roundw
   case rel=>exact ⟨k+1,by have:=uh HL;omega,by go_num,hX2⟩
   case measure=>simp [intOf];have:=uh HL;omega
  ·obtain rfl:k=4:=by omega
   have hge:¬((4:Nat):Int)<4:=by omega
   clear hlt hk
   have b4:=(uh hlists wr (uh hX).bel).1.eleven.2.2.2.2.1
   go_upto_region 10 with fail
   go_wp2_with (at_builtin;refine wpList_append_own _ rfl _ _ 26 rfl base 5 i0 (.int .u8 0) 1 1 Tryz.underlying26 hi hz0 hz1 hz2 rfl (by decide) _ _ _ rfl (uh hX).own ⟨gC,0,none⟩ 384 cC (((List.range 384).map c).map (Value.int .u8)) rfl (by simp) (Sn.cells_src (uh hlists wr (uh hX).bel).2.cells) ?_ ?_ ?_ ?_ ?_)
   ·intro u hu
    obtain ⟨x,_,rfl⟩:=List.mem_map.1 hu
    rfl
   ·have:=Sn.head_len s;have:=Sn.golds_len g 4;unfold maxLen;omega
   ·have:=Sn.head_len s;have:=Sn.golds_len g 4;omega
   ·exact (uh hX).top (uh HB0)
   intro v6 w6 hown hgrow _
   have hW6:Hid (Sn.Wr w0 w6 base v6 (Sn.head s ++ Sn.golds 4 g ++ (List.range 384).map c)):=(uh hX).more (m:=384) (uh HB0) (World.grownBy.refl _ _) hown (by simp) hgrow
   clear hown hgrow hX b4 hlen hge
   have b5:=(uh hlists w6 (uh hW6).bel).1.eleven.2.2.2.2.2.1
   go_upto_region 11 with fail
   go_wp2_with fail
   go_loopw [3,7,47] (fun v3 v7 v47 wr=>∃k:Nat,k≤32∧v47=.int .i64 (k:Int)∧Hid (Sn.Wr w0 wr base v3 (Sn.head s ++ Sn.golds 4 g ++ (List.range 384).map c ++ Sn.rows k 11 E))) (fun _ _ v47 _=>40 - (intOf v47).toNat)
   case atStart=>exact ⟨0,by omega,rfl,by simpa [Sn.rows] using hW6⟩
   case round =>
    clear hW6 b5
    obtain ⟨k,hk,rfl,hX⟩:=hrel
    have hlen:Hid ((Sn.head s ++ Sn.golds 4 g ++ (List.range 384).map c ++ Sn.rows k 11 E).length=406+k*11):=by show (Sn.head s ++ Sn.golds 4 g ++ (List.range 384).map c ++ Sn.rows k 11 E).length=_;rw [List.length_append,Sn.len22,Sn.rows_len]
    by_cases hlt:k<32
    ·have hlt':(k:Int)<32:=by omega
     have HL:=hide hlt
     obtain ⟨r0,r1,r2,r3,r4,r5,r6,r7,r8,r9,r10⟩:=(uh hlists wr (uh hX).bel).2.own.ents.row hlt
     clear hlt hk
     obtain ⟨l,hl⟩:∃l,Sn.head s ++ Sn.golds 4 g ++ (List.range 384).map c ++ Sn.rows k 11 E=l:=⟨_,rfl⟩
     rw [hl] at hX hlen
     have hl':=hide hl
     clear hl
     go_upto_region 14 with fail
     obtain ⟨wd,hwd⟩:∃wd,wd=wr.alloc (.cells (En.cells (E k)) 38):=⟨_,rfl⟩
     have hgd:wr.grownBy wd none:=by rw [hwd];exact World.grownBy_alloc _ _ _
     have hD:Hid (Lie wd wr.heap.size 38 11 (Ints (E k))):=by show Lie wd _ _ _ _;rw [hwd];exact Sn.born wr (E k) 38
     have hXd:=hide ((uh hX).on (uh HB0) hgd)
     unfold En.cells at hwd
     rw [←hwd]
     clear hwd hgd hX r0 r1 r2 r3 r4 r5 r6 r7 r8 r9 r10
     obtain ⟨D,hDe⟩:∃D,wr.heap.size=D:=⟨_,rfl⟩
     rw [hDe] at hD ⊢
     clear hDe wr
     obtain ⟨d0,d1,d2,d3,d4,d5,d6,d7,d8,d9,d10⟩:=Sn.row (uh hD)
     have tw:∀j,IntKind.u8.wrap (E k j)=E k j % 256:=fun j=>Sn.wrap8 _
     go_wp2_with (at_builtin;refine wpList_append_own _ rfl _ _ 26 rfl base 5 i0 (.int .u8 0) 1 1 Tryz.underlying26 hi hz0 hz1 hz2 rfl (by decide) _ _ _ rfl ((uh hXd).own.alloc _) ⟨wd.heap.size,0,none⟩ 11 11 (#[.int .u8 (E k 0 % 256),.int .u8 (E k 1 % 256),.int .u8 (E k 2 % 256),.int .u8 (E k 3 % 256),.int .u8 (E k 4 % 256),.int .u8 (E k 5 % 256),.int .u8 (E k 6 % 256),.int .u8 (E k 7 % 256),.int .u8 (E k 8 % 256),.int .u8 (E k 9 % 256),.int .u8 (E k 10 % 256)]:Array Value).toList rfl rfl (Sn.news wd _ _ _ rfl) ?_ ?_ ?_ ?_ ?_)
     ·exact ⟨rfl,rfl,rfl,rfl,rfl,rfl,rfl,rfl,rfl,rfl,rfl⟩
     ·have:=uh hlen;have:=uh HL;unfold maxLen;omega
     ·have:=uh hlen;have:=uh HL;omega
     ·have:=(uh hXd).top (uh HB0);simp;omega
     intro v8 w8 hown hgrow _
     have hX2:Hid (Sn.Wr w0 w8 base v8 (l ++ (List.range 11).map fun j=>E k j % 256)):=(uh hXd).more (m:=11) (uh HB0) (World.grownBy_alloc _ _ _) hown (by simp) hgrow
     rw [←uh hl',List.append_assoc,←Sn.rows_more] at hX2
     clear hown hgrow hXd hD d0 d1 d2 d3 d4 d5 d6 d7 d8 d9 d10 tw hlen
     go_wp2
     go_roundw
     case rel=>exact ⟨k+1,by have:=uh HL;omega,by go_num,hX2⟩
     case measure=>simp [intOf];have:=uh HL;omega
    ·obtain rfl:k=32:=by omega
     have hge:¬((32:Nat):Int)<32:=by omega
     clear hlt hk
     have b6:=(uh hlists wr (uh hX).bel).1.eleven.2.2.2.2.2.2.1
     go_upto_region 16 with fail
     go_wp2_with fail
     go_loopw [3,9,91] (fun v3 v9 v91 wr=>∃k:Nat,k≤40∧v91=.int .i64 (k:Int)∧Hid (Sn.Wr w0 wr base v3 (Sn.head s ++ Sn.golds 4 g ++ (List.range 384).map c ++ Sn.rows 32 11 E ++ Sn.rows k 4 I))) (fun _ _ v91 _=>50 - (intOf v91).toNat)
     case atStart=>exact ⟨0,by omega,rfl,by simpa [Sn.rows] using hX⟩
     case round =>
      clear hX b6 hge hlen
      obtain ⟨k,hk,rfl,hX⟩:=hrel
      have hlen:Hid ((Sn.head s ++ Sn.golds 4 g ++ (List.range 384).map c ++ Sn.rows 32 11 E ++ Sn.rows k 4 I).length=758+k*4):=by show (Sn.head s ++ Sn.golds 4 g ++ (List.range 384).map c ++ Sn.rows 32 11 E ++ Sn.rows k 4 I).length=_;rw [List.length_append,Sn.len406,Sn.rows_len]
      by_cases hlt:k<40
      ·have hlt':(k:Int)<40:=by omega
       have HL:=hide hlt
       obtain ⟨r0,r1,r2,r3⟩:=(uh hlists wr (uh hX).bel).2.its.row hlt
       clear hlt hk
       obtain ⟨l,hl⟩:∃l,Sn.head s ++ Sn.golds 4 g ++ (List.range 384).map c ++ Sn.rows 32 11 E ++ Sn.rows k 4 I=l:=⟨_,rfl⟩
       rw [hl] at hX hlen
       have hl':=hide hl
       clear hl
       go_upto_region 19 with fail
       obtain ⟨wd,hwd⟩:∃wd,wd=wr.alloc (.cells (Gd.cells (I k)) 40):=⟨_,rfl⟩
       have hgd:wr.grownBy wd none:=by rw [hwd];exact World.grownBy_alloc _ _ _
       have hD:Hid (Lie wd wr.heap.size 40 4 (fun j=>(Gd.cells (I k))[j]?.getD undef)):=by show Lie wd _ _ _ _;rw [hwd];exact (Arr.lit (heap_alloc_new wr _)).lie
       have hXd:=hide ((uh hX).on (uh HB0) hgd)
       unfold Gd.cells at hwd
       rw [←hwd]
       clear hwd hgd hX r0 r1 r2 r3
       obtain ⟨D,hDe⟩:∃D,wr.heap.size=D:=⟨_,rfl⟩
       rw [hDe] at hD ⊢
       clear hDe wr
       have d0:wd.cell? ⟨D,0,none⟩=some (.int .i64 (I k 0)):=(uh hD).cell (c:=0) (by omega)
       have d1:wd.cell? ⟨D,1,none⟩=some (.int .i64 (I k 1)):=(uh hD).cell (c:=1) (by omega)
       have d2:wd.cell? ⟨D,2,none⟩=some (.int .i64 (I k 2)):=(uh hD).cell (c:=2) (by omega)
       have d3:wd.cell? ⟨D,3,none⟩=some (.int .i64 (I k 3)):=(uh hD).cell (c:=3) (by omega)
       have tw:∀j,IntKind.u8.wrap (I k j)=I k j % 256:=fun j=>Sn.wrap8 _
       go_wp2_with (at_builtin;refine wpList_append_own _ rfl _ _ 26 rfl base 5 i0 (.int .u8 0) 1 1 Tryz.underlying26 hi hz0 hz1 hz2 rfl (by decide) _ _ _ rfl ((uh hXd).own.alloc _) ⟨wd.heap.size,0,none⟩ 4 4 (#[.int .u8 (I k 0 % 256),.int .u8 (I k 1 % 256),.int .u8 (I k 2 % 256),.int .u8 (I k 3 % 256)]:Array Value).toList rfl rfl (Sn.news wd _ _ _ rfl) ?_ ?_ ?_ ?_ ?_)
       ·exact ⟨rfl,rfl,rfl,rfl⟩
       ·have:=uh hlen;have:=uh HL;unfold maxLen;omega
       ·have:=uh hlen;have:=uh HL;omega
       ·have:=(uh hXd).top (uh HB0);simp;omega
       intro v8 w8 hown hgrow _
       have hX2:Hid (Sn.Wr w0 w8 base v8 (l ++ (List.range 4).map fun j=>I k j % 256)):=(uh hXd).more (m:=4) (uh HB0) (World.grownBy_alloc _ _ _) hown (by simp) hgrow
       rw [←uh hl',List.append_assoc,←Sn.rows_more] at hX2
       clear hown hgrow hXd hD d0 d1 d2 d3 tw hlen
       go_wp2
       go_roundw
       case rel=>exact ⟨k+1,by have:=uh HL;omega,by go_num,hX2⟩
       case measure=>simp [intOf];have:=uh HL;omega
      ·obtain rfl:k=40:=by omega
       have hge:¬((40:Nat):Int)<40:=by omega
       have hfin:Hid (∀v,Sn.Wr w0 wr base v (Sn.bytes s g c E I)→Sn.Bytes wr w.heap.size v (Sn.bytes s g c E I)∧w.grownBy wr none):=fun v hv=>by
        have e1:=uh HB
        refine ⟨?_,?_⟩
        ·obtain ⟨h1,h2⟩:=hv.own
         refine ⟨h1,?_⟩
         rcases h2 with h2 | ⟨gg,cap,cur,h3,h4,h5⟩
         ·exact .inl h2
         ·exact .inr ⟨gg,cap,cur,h3,by omega,h5⟩
        ·exact below_grown (Sn.below_trans (none_below (uh HG0)) (hv.bel.mono (by omega)))
       clear hlt hk
       go_wp2
       go_ret
       exact ⟨_,rfl,(uh hfin _ (uh hX)).1,(uh hfin _ (uh hX)).2⟩

def Sn.Encodes (w:World) (s g c:Nat→Int) (E I:Nat→Nat→Int) (e:Ending) (w':World):Prop :=
 ∃v r,e=.returned (.tuple #[v,.int .i64 r])∧Sn.Chk s g c E I r∧(r≠0→v=.slice none 0 0)∧(r=0→Sn.Bytes w' w.heap.size v (Sn.bytes s g c E I))∧w.grownBy w' none

theorem Sn.Bytes.mono {w:World} {base base':Nat} {v:Value} {l:List Int} (h:Sn.Bytes w base v l) (hb:base'≤base):Sn.Bytes w base' v l:=by
 obtain ⟨h1,h2⟩:=h
 refine ⟨h1,?_⟩
 rcases h2 with h2 | ⟨gg,cap,cur,h3,h4,h5⟩
 ·exact .inl h2
 ·exact .inr ⟨gg,cap,cur,h3,by omega,h5⟩

set_option maxRecDepth 8000 in
set_option maxHeartbeats 1600000 in
theorem encode_any (s g c:Nat→Int) (E I:Nat→Nat→Int) (gC gE gI cC cE cI:Nat) (w:World) (hL:Gd.Lists w gC gE gI c E I) (hc:∀i,0≤c i∧c i≤255) (hcE:32≤cE) :
  Calls Tryz.prog 12 #[.agg (Gd.world s gC gE gI cC cE cI g)] w (Sn.Encodes w s g c E I):=by
 obtain ⟨w0,hw0⟩:∃w0,w0=w.alloc (.cells (Gd.world s gC gE gI cC cE cI g) 31):=⟨_,rfl⟩
 have hg0:w.grownBy w0 none:=by rw [hw0];exact World.grownBy_alloc _ _ _
 have hO:Hid (Sn.Shown w w0 w.heap.size gC gE gI cC cE cI s g c E I):=by
  refine ⟨?_,hL.on hg0,hg0⟩
  rw [hw0]
  exact (Arr.world (heap_alloc_new w _)).lie
 have cc:=hide (fun x (hx:Gd.Lists x gC gE gI c E I)=>snCheck_any s g c E I gC gE gI cC cE cI x hx hc hcE)
 have cw:=hide (fun x (hx:Gd.Lists x gC gE gI c E I)=>written_any s g c E I gC gE gI cC cE cI x hx)
 clear hL hg0 hc hcE
 unfold Gd.world at hw0 cc cw ⊢
 go_enter Tryz.func12,Tryz.ntmps12
 go_upto_region 1 with fail
 rw [←hw0]
 clear hw0
 obtain ⟨B,hBe⟩:∃B,w.heap.size=B:=⟨_,rfl⟩
 rw [hBe] at hO ⊢
 clear hBe
 obtain ⟨b0,b1,b2,b3,b4,b5,b6,b7,b8,b9,b10⟩:=(uh hO).box.eleven
 go_wp2_with fail
 refine (uh cc _ (uh hO).lists).mono ?_
 rintro e w1 ⟨r,rfl,hr,hg⟩
 have hO1:=hide ((uh hO).on hg)
 have HR:=hide hr
 clear hg hO cc b0 b1 b2 b3 b4 b5 b6 b7 b8 b9 b10 hr
 by_cases h0:r=0
 ·have h0':(r != 0)=false:=by simp [h0]
  have H0:=hide h0
  obtain ⟨b0,b1,b2,b3,b4,b5,b6,b7,b8,b9,b10⟩:=(uh hO1).box.eleven
  clear h0
  go_wp2_with fail
  refine (uh cw _ (uh hO1).lists).mono ?_
  rintro e w2 ⟨v,rfl,hown,hg⟩
  have hfin:Hid (Sn.Encodes w s g c E I (.returned (.tuple #[v,.int .i64 0])) w2):=by
   have e:=uh HR
   rw [uh H0] at e
   exact ⟨v,0,rfl,e,fun h=>absurd rfl h,fun _=>hown.mono (uh hO1).grown.size,gtr (uh hO1).grown hg⟩
  clear hown hg b0 b1 b2 b3 b4 b5 b6 b7 b8 b9 b10 hO1 cw
  go_wp2
  go_ret2
  exact uh hfin
 ·have h0':(r != 0)=true:=by simp [h0]
  have hfin:Hid (Sn.Encodes w s g c E I (.returned (.tuple #[.slice none 0 0,.int .i64 r])) w1):=⟨_,r,rfl,uh HR,fun _=>rfl,fun h=>absurd h h0,(uh hO1).grown⟩
  clear h0
  go_wp2
  go_ret2
  exact uh hfin


open Go.RowKit

structure Sn.Rd (x:World) (R G k:Nat):Prop where
 cell:∃p C,Lie x R 94 1 (fun _=>.slice (some ⟨G,p,none⟩) (918 - k) C)∧(k<918→p=k)∧918 - k≤C∧C≤9223372036854775807

theorem Sn.Rd.on {x y:World} {R G k:Nat} (h:Sn.Rd x R G k) (hg:x.grownBy y none):Sn.Rd y R G k:=by
 obtain ⟨p,C,hl,h1,h2,h3⟩:=h.cell
 exact ⟨p,C,hl.on hg,h1,h2,h3⟩

theorem Sn.Rd.other {x:World} {R G k:Nat} (h:Sn.Rd x R G k) {q:Nat} (hq:q≠R) (i:Nat) (u:Value):Sn.Rd (x.setCell ⟨q,i,none⟩ u) R G k:=by
 obtain ⟨p,C,hl,h1,h2,h3⟩:=h.cell
 exact ⟨p,C,hl.other hq i u,h1,h2,h3⟩

theorem Sn.Rd.others {x:World} {R G k:Nat} (h:Sn.Rd x R G k) {q:Nat} (hq:q≠R) (o:Nat) (vs:List Value):Sn.Rd (x.setCells q o vs) R G k:=by
 obtain ⟨p,C,hl,h1,h2,h3⟩:=h.cell
 exact ⟨p,C,hl.others hq o vs,h1,h2,h3⟩

def Sn.Goes (x:World) (R G k n:Nat) (e:Ending) (x':World):Prop :=
 ∃u C,e=.returned (.slice (some ⟨G,k,none⟩) n C)∧n≤C∧x'=x.setCell ⟨R,0,none⟩ u∧Sn.Rd x' R G (k+n)

set_option maxRecDepth 8000 in
set_option maxHeartbeats 1600000 in
theorem snNext_any (R G k n:Nat) (x:World) (hR:Sn.Rd x R G k) (h0:0<n) (hn:k+n≤918) :
  Calls Tryz.prog 55 #[.pointer (some ⟨R,0,none⟩),.int .i64 (n:Int)] x (Sn.Goes x R G k n):=by
 obtain ⟨p,C,hl,h1,h2,h3⟩:=hR.cell
 obtain rfl:p=k:=h1 (by omega)
 obtain ⟨L,hL⟩:∃L,L=918 - p:=⟨_,rfl⟩
 rw [←hL] at hl h2
 have r0:x.cell? ⟨R,0,none⟩=some (.slice (some ⟨G,p,none⟩) L C):=hl.cell (c:=0) (by omega)
 have fR:=hl.free
 have q1:¬(n:Int)<0:=by omega
 have q2:(n:Int)≤(C:Int):=by omega
 have q3:(n:Int)≤(L:Int):=by omega
 have hfin:Hid (∀q,(p+n<918→q=p+n)→Sn.Goes x R G p n (.returned (.slice (some ⟨G,p,none⟩) n C)) (x.setCell ⟨R,0,none⟩ (.slice (some ⟨G,q,none⟩) (L - n) (C - n)))):=fun q hq=>by
  refine ⟨_,C,rfl,by omega,rfl,⟨q,C - n,?_,hq,by omega,by omega⟩⟩
  refine (hl.store 0 (.slice (some ⟨G,q,none⟩) (L - n) (C - n))).congr fun c hc=>?_
  obtain rfl:c=0:=by omega
  rw [if_pos rfl,show 918 - (p+n)=L - n by omega]
 clear hR hl h1
 by_cases hz:C - n=0
 ·have hf:=hide (uh hfin p (fun h=>by omega))
  rw [hz] at hf
  clear hL hfin
  go_enter Tryz.func55,Tryz.ntmps55
  go_wp2
  go_ret
  exact uh hf
 ·have hf:=hide (uh hfin (p+n) (fun _=>rfl))
  clear hL hfin
  go_enter Tryz.func55,Tryz.ntmps55
  go_wp2
  go_ret
  exact uh hf

structure Sn.Src (x:World) (G:Nat) (F:Nat→Int):Prop where
 lt:G<x.heap.size
 cell:∀i,i<918→x.cell? ⟨G,i,none⟩=some (.int .u8 (F i))
 byte:∀i,0≤F i∧F i≤255

theorem Sn.Src.on {x y:World} {G:Nat} {F:Nat→Int} {r:Option Nat} (h:Sn.Src x G F) (hg:x.grownBy y r) (hr:r≠some G):Sn.Src y G F :=
 ⟨Nat.lt_of_lt_of_le h.lt hg.size,fun i hi=>(gce hg G i h.lt hr).trans (h.cell i hi),h.byte⟩

theorem Sn.Src.set {x:World} {G:Nat} {F:Nat→Int} (h:Sn.Src x G F) {q:Nat} (hq:q≠G) (i:Nat) (u:Value):Sn.Src (x.setCell ⟨q,i,none⟩ u) G F :=
 h.on (gs0 x q i u) (by simpa using hq)

theorem Sn.Src.sets {x:World} {G:Nat} {F:Nat→Int} (h:Sn.Src x G F) {q:Nat} (hq:q≠G) (o:Nat) (vs:List Value):Sn.Src (x.setCells q o vs) G F :=
 h.on (gss vs o x (World.grownBy.refl _ _)) (by simpa using hq)

theorem Sn.or_byte (v b:Int) (h0:0≤v) (h1:v<72057594037927936) (b0:0≤b) (b1:b≤255):bits BinOp.or IntKind.u64 (IntKind.u64.wrap (v*256)) b=v*256+b:=by
 obtain ⟨n,rfl⟩:∃n:Nat,v=(n:Int):=⟨v.toNat,by omega⟩
 obtain ⟨m,rfl⟩:∃n:Nat,b=(n:Int):=⟨b.toNat,by omega⟩
 rw [Sn.wrap64,show (n:Int)*256 % 18446744073709551616=((n*256:Nat):Int) by omega,bits_or_u64_nat (n*256) m (by omega) (by omega)]
 have h:n*2 ^ 8+m=n*2 ^ 8 ||| m:=by
  rw [←Nat.shiftLeft_eq]
  exact Nat.shiftLeft_add_eq_or_of_lt (by omega) n
 show ((n*2 ^ 8 ||| m:Nat):Int)=_
 rw [←h]
 show ((n*256+m:Nat):Int)=_
 omega

def Sn.Nums (x:World) (R G k n:Nat) (v:Int) (e:Ending) (x':World):Prop :=
 ∃u,e=.returned (.int .u64 v)∧x'=x.setCell ⟨R,0,none⟩ u∧Sn.Rd x' R G (k+n)

set_option maxRecDepth 8000 in
set_option maxHeartbeats 1600000 in
theorem snNumber_any (R G k n:Nat) (F:Nat→Int) (x:World) (hR:Sn.Rd x R G k) (hS:Sn.Src x G F) (hRG:R≠G) (h0:0<n) (h8:n≤8) (hn:k+n≤918) :
  Calls Tryz.prog 54 #[.pointer (some ⟨R,0,none⟩),.int .i64 (n:Int)] x (Sn.Nums x R G k n (Sn.be (Sn.cut F k n))):=by
 have cn:=hide (snNext_any R G k n x hR h0 hn)
 have hS':=hide hS
 have HRG:=hide hRG
 have H8:=hide h8
 have HN:=hide hn
 clear hR hS hRG h0 h8 hn
 go_enter Tryz.func54,Tryz.ntmps54
 go_wp2_with fail
 refine (uh cn).mono ?_
 rintro e y ⟨u,C,rfl,hC,hy,hRd⟩
 have hY:=hide (And.intro hy hRd)
 have hSy:Hid (Sn.Src y G F):=by
  show Sn.Src y G F
  rw [hy]
  exact (uh hS').set (uh HRG) _ _
 clear cn hC hy hRd hS'
 go_wp2_with fail
 go_loop [5,7,12] (fun v5 v7 v12=>∃i:Nat,i≤n∧v5=.int .u64 (Sn.be (Sn.cut F k i))∧v12=.int .i64 (i:Int)) (fun _ _ v12=>20 - (intOf v12).toNat)
 case atStart=>exact ⟨0,by omega,rfl,rfl⟩
 case round =>
  obtain ⟨i,hi,rfl,rfl⟩:=hrel
  by_cases hlt:i<n
  ·have hlt':(i:Int)<(n:Int):=by omega
   have HL:=hide hlt
   have hi8:(i:Int)<8:=by have:=uh H8;omega
   have u0:y.cell? ⟨G,k+i,none⟩=some (.int .u8 (F (k+i))):=(uh hSy).cell (k+i) (by have:=uh HN;omega)
   obtain ⟨v0,v1⟩:=Sn.be_bound i F k (fun j _=>(uh hSy).byte _)
   have v2:Sn.be (Sn.cut F k i)<72057594037927936:=by
    have h7:i≤7:=by have:=uh H8;omega
    have:(256:Int) ^ i≤256 ^ 7:=by
     rcases (show i=0∨i=1∨i=2∨i=3∨i=4∨i=5∨i=6∨i=7 by omega) with rfl | rfl | rfl | rfl | rfl | rfl | rfl | rfl <;> decide
    omega
   have hor:=Sn.or_byte (Sn.be (Sn.cut F k i)) (F (k+i)) v0 v2 ((uh hSy).byte _).1 ((uh hSy).byte _).2
   have hmo:=hide (Sn.be_more (Sn.cut F k i) (F (k+i)))
   rw [←Sn.cut_more] at hmo
   rw [←uh hmo] at hor
   have hw:IntKind.u64.wrap (F (k+i))=F (k+i):=by
    rw [Sn.wrap64]
    have:=(uh hSy).byte (k+i)
    omega
   obtain ⟨X,hX⟩:∃X,Sn.be (Sn.cut F k i)=X:=⟨_,rfl⟩
   rw [hX] at hor ⊢
   clear hlt hi hX v0 v1 v2 hmo
   go_wp2
   go_round
   case rel=>exact ⟨i+1,by have:=uh HL;omega,rfl,by go_num⟩
   case measure=>simp [intOf];have:=uh HL;have:=uh H8;omega
  ·obtain rfl:i=n:=by omega
   have hge:¬(i:Int)<(i:Int):=by omega
   have hfin:Hid (Sn.Nums x R G k i (Sn.be (Sn.cut F k i)) (.returned (.int .u64 (Sn.be (Sn.cut F k i)))) y):=⟨u,rfl,(uh hY).1,(uh hY).2⟩
   clear hlt hi
   go_wp2
   go_ret
   exact uh hfin


open Go.RowKit

set_option maxRecDepth 8000 in
set_option maxHeartbeats 6400000 in
theorem itemOf_any (G k C:Nat) (F:Nat→Int) (x:World) (hS:Sn.Src x G F) (hk:k+4≤918) :
  Calls Tryz.prog 57 #[.slice (some ⟨G,k,none⟩) 4 C] x (Says x (.agg #[.int .i64 (F k),.int .i64 (F (k+1)),.int .i64 (F (k+2)),.int .i64 (F (k+3))])):=by
 obtain ⟨y,hy⟩:∃y,y=x.alloc (.cells #[.int .i64 0,.int .i64 0,.int .i64 0,.int .i64 0] 40):=⟨_,rfl⟩
 have hg:Hid (x.grownBy y none):=by show x.grownBy y none;rw [hy];exact World.grownBy_alloc _ _ _
 have hR:Hid (Lie y x.heap.size 40 4 (fun _=>.int .i64 0)):=by
  show Lie y _ _ _ _
  rw [hy]
  refine (Arr.lit (heap_alloc_new x _)).lie.congr fun c hc=>?_
  have:c<4:=hc
  rcases (show c=0∨c=1∨c=2∨c=3 by omega) with rfl | rfl | rfl | rfl <;> rfl
 have hSy:=hide (hS.on (uh hg) (by simp))
 have HK:=hide hk
 clear hS hk
 go_enter Tryz.func57,Tryz.ntmps57
 go_upto_region 1 with fail
 rw [←hy]
 clear hy
 obtain ⟨B,hB⟩:∃B,x.heap.size=B:=⟨_,rfl⟩
 have hBx:Hid (x.heap.size≤B):=(show x.heap.size≤B by omega)
 rw [hB] at hR ⊢
 clear hB
 have c0:=(uh hSy).cell (k) (by have:=uh HK;omega)
 have c1:=(uh hSy).cell (k+1) (by have:=uh HK;omega)
 have c2:=(uh hSy).cell (k+2) (by have:=uh HK;omega)
 have c3:=(uh hSy).cell (k+3) (by have:=uh HK;omega)
 have tw:∀j,IntKind.i64.wrap (F j)=F j:=fun j=>by
  have:=(uh hSy).byte j
  rw [IntKind.wrap_i64]
  omega
 have fR:=(uh hR).free
 have z0:y.cell? ⟨B,0,none⟩=some (.int .i64 0):=(uh hR).cell (c:=0) (by omega)
 have z1:y.cell? ⟨B,1,none⟩=some (.int .i64 0):=(uh hR).cell (c:=1) (by omega)
 have z2:y.cell? ⟨B,2,none⟩=some (.int .i64 0):=(uh hR).cell (c:=2) (by omega)
 have z3:y.cell? ⟨B,3,none⟩=some (.int .i64 0):=(uh hR).cell (c:=3) (by omega)
 have hgo:Hid (∀l m,x.grownBy ((y.setCells B 0 l).drewN m) none):=fun l m=>gdw (own_sets (uh hBx) l 0 y (uh hg)) m
 go_region
 go_wp2
 refine bodyPost_ret (v:=.agg #[.int .i64 (F k),.int .i64 (F (k+1)),.int .i64 (F (k+2)),.int .i64 (F (k+3))]) (by simp [results,Tryz.results57,go_sem,z0,z1,z2,z3]) rfl ?_
 exact ⟨rfl,uh hgo [_,_,_,_] 1⟩

set_option maxRecDepth 8000 in
set_option maxHeartbeats 6400000 in
theorem entOf_any (G k C:Nat) (F:Nat→Int) (x:World) (hS:Sn.Src x G F) (hk:k+11≤918) :
  Calls Tryz.prog 56 #[.slice (some ⟨G,k,none⟩) 11 C] x (Says x (.agg #[.int .i64 (F k),.int .i64 (F (k+1)),.int .i64 (F (k+2)),.int .i64 (F (k+3)),.int .i64 (F (k+4)),.int .i64 (F (k+5)),.int .i64 (F (k+6)),.int .i64 (F (k+7)),.int .i64 (F (k+8)),.int .i64 (F (k+9)),.int .i64 (F (k+10))])):=by
 obtain ⟨y,hy⟩:∃y,y=x.alloc (.cells #[.int .i64 0,.int .i64 0,.int .i64 0,.int .i64 0,.int .i64 0,.int .i64 0,.int .i64 0,.int .i64 0,.int .i64 0,.int .i64 0,.int .i64 0] 38):=⟨_,rfl⟩
 have hg:Hid (x.grownBy y none):=by show x.grownBy y none;rw [hy];exact World.grownBy_alloc _ _ _
 have hR:Hid (Lie y x.heap.size 38 11 (fun _=>.int .i64 0)):=by
  show Lie y _ _ _ _
  rw [hy]
  refine (Arr.lit (heap_alloc_new x _)).lie.congr fun c hc=>?_
  have:c<11:=hc
  rcases (show c=0∨c=1∨c=2∨c=3∨c=4∨c=5∨c=6∨c=7∨c=8∨c=9∨c=10 by omega) with rfl | rfl | rfl | rfl | rfl | rfl | rfl | rfl | rfl | rfl | rfl <;> rfl
 have hSy:=hide (hS.on (uh hg) (by simp))
 have HK:=hide hk
 clear hS hk
 go_enter Tryz.func56,Tryz.ntmps56
 go_upto_region 1 with fail
 rw [←hy]
 clear hy
 obtain ⟨B,hB⟩:∃B,x.heap.size=B:=⟨_,rfl⟩
 have hBx:Hid (x.heap.size≤B):=(show x.heap.size≤B by omega)
 rw [hB] at hR ⊢
 clear hB
 have tw:∀j,IntKind.i64.wrap (F j)=F j:=fun j=>by
  have:=(uh hSy).byte j
  rw [IntKind.wrap_i64]
  omega
 have fR:=(uh hR).free
 have z0:y.cell? ⟨B,0,none⟩=some (.int .i64 0):=(uh hR).cell (c:=0) (by omega)
 have z1:y.cell? ⟨B,1,none⟩=some (.int .i64 0):=(uh hR).cell (c:=1) (by omega)
 have z2:y.cell? ⟨B,2,none⟩=some (.int .i64 0):=(uh hR).cell (c:=2) (by omega)
 have z3:y.cell? ⟨B,3,none⟩=some (.int .i64 0):=(uh hR).cell (c:=3) (by omega)
 have z4:y.cell? ⟨B,4,none⟩=some (.int .i64 0):=(uh hR).cell (c:=4) (by omega)
 have z5:y.cell? ⟨B,5,none⟩=some (.int .i64 0):=(uh hR).cell (c:=5) (by omega)
 have z6:y.cell? ⟨B,6,none⟩=some (.int .i64 0):=(uh hR).cell (c:=6) (by omega)
 have z7:y.cell? ⟨B,7,none⟩=some (.int .i64 0):=(uh hR).cell (c:=7) (by omega)
 have z8:y.cell? ⟨B,8,none⟩=some (.int .i64 0):=(uh hR).cell (c:=8) (by omega)
 have z9:y.cell? ⟨B,9,none⟩=some (.int .i64 0):=(uh hR).cell (c:=9) (by omega)
 have z10:y.cell? ⟨B,10,none⟩=some (.int .i64 0):=(uh hR).cell (c:=10) (by omega)
 have hgo:Hid (∀l m,x.grownBy ((y.setCells B 0 l).drewN m) none):=fun l m=>gdw (own_sets (uh hBx) l 0 y (uh hg)) m
 have hS0:y.drew.cell? ⟨G,k,none⟩=some (.int .u8 (F k))∧y.drew.cell? ⟨G,k+1,none⟩=some (.int .u8 (F (k+1)))∧y.drew.cell? ⟨G,k+2,none⟩=some (.int .u8 (F (k+2)))∧y.drew.cell? ⟨G,k+3,none⟩=some (.int .u8 (F (k+3)))∧y.drew.cell? ⟨G,k+4,none⟩=some (.int .u8 (F (k+4)))∧y.drew.cell? ⟨G,k+5,none⟩=some (.int .u8 (F (k+5)))∧y.drew.cell? ⟨G,k+6,none⟩=some (.int .u8 (F (k+6)))∧y.drew.cell? ⟨G,k+7,none⟩=some (.int .u8 (F (k+7)))∧y.drew.cell? ⟨G,k+8,none⟩=some (.int .u8 (F (k+8)))∧y.drew.cell? ⟨G,k+9,none⟩=some (.int .u8 (F (k+9)))∧y.drew.cell? ⟨G,k+10,none⟩=some (.int .u8 (F (k+10))):=by
  have h:=(uh hSy).on (gd1 (World.grownBy.refl y none)) (by simp)
  have hk:=uh HK
  exact ⟨h.cell (k) (by omega),h.cell (k+1) (by omega),h.cell (k+2) (by omega),h.cell (k+3) (by omega),h.cell (k+4) (by omega),h.cell (k+5) (by omega),h.cell (k+6) (by omega),h.cell (k+7) (by omega),h.cell (k+8) (by omega),h.cell (k+9) (by omega),h.cell (k+10) (by omega)⟩
 clear hSy hR hg hBx HK
 refine wp_region_till (h:=45) (S:=fun x=>x.cell? ⟨G,k,none⟩=some (.int .u8 (F k))∧x.cell? ⟨G,k+1,none⟩=some (.int .u8 (F (k+1)))∧x.cell? ⟨G,k+2,none⟩=some (.int .u8 (F (k+2)))∧x.cell? ⟨G,k+3,none⟩=some (.int .u8 (F (k+3)))∧x.cell? ⟨G,k+4,none⟩=some (.int .u8 (F (k+4)))∧x.cell? ⟨G,k+5,none⟩=some (.int .u8 (F (k+5)))∧x.cell? ⟨G,k+6,none⟩=some (.int .u8 (F (k+6)))∧x.cell? ⟨G,k+7,none⟩=some (.int .u8 (F (k+7)))∧x.cell? ⟨G,k+8,none⟩=some (.int .u8 (F (k+8)))∧x.cell? ⟨G,k+9,none⟩=some (.int .u8 (F (k+9)))∧x.cell? ⟨G,k+10,none⟩=some (.int .u8 (F (k+10)))) (by kernel_rfl) ?_
 refine wtk (i:=0) (v:=?_) [45] rfl (by kernel_rfl) (by kernel_rfl) (by kernel_rfl) (by kernel_rfl) (fun _ _ _ h=>h) hS0 (Or.inl ⟨by rfl,?_⟩) ?_
 rotate_left
 ·intro x hSx
  try dsimp only at hSx
  go_simp
  try with_reducible rfl
 simp only [Act.put]
 refine wtk (i:=1) (v:=?_) [45] rfl (by kernel_rfl) (by kernel_rfl) (by kernel_rfl) (by kernel_rfl) (fun _ _ _ h=>h) hS0 (Or.inl ⟨by rfl,?_⟩) ?_
 rotate_left
 ·intro x hSx
  try dsimp only at hSx
  go_simp
  try with_reducible rfl
 simp only [Act.put]
 refine wtk (i:=2) (v:=?_) [45] rfl (by kernel_rfl) (by kernel_rfl) (by kernel_rfl) (by kernel_rfl) (fun _ _ _ h=>h) hS0 (Or.inl ⟨by rfl,?_⟩) ?_
 rotate_left
 ·intro x hSx
  try dsimp only at hSx
  go_simp
  try with_reducible rfl
 simp only [Act.put]
 refine wtk (i:=3) (v:=?_) [45] rfl (by kernel_rfl) (by kernel_rfl) (by kernel_rfl) (by kernel_rfl) (fun _ _ _ h=>h) hS0 (Or.inl ⟨by rfl,?_⟩) ?_
 rotate_left
 ·intro x hSx
  try dsimp only at hSx
  go_simp
  try with_reducible rfl
 simp only [Act.put]
 refine wtk (i:=4) (v:=?_) [45] rfl (by kernel_rfl) (by kernel_rfl) (by kernel_rfl) (by kernel_rfl) (fun _ _ _ h=>h) hS0 (Or.inl ⟨by rfl,?_⟩) ?_
 rotate_left
 ·intro x hSx
  try dsimp only at hSx
  go_simp
  try with_reducible rfl
 simp only [Act.put]
 refine wtk (i:=5) (v:=?_) [45] rfl (by kernel_rfl) (by kernel_rfl) (by kernel_rfl) (by kernel_rfl) (fun _ _ _ h=>h) hS0 (Or.inl ⟨by rfl,?_⟩) ?_
 rotate_left
 ·intro x hSx
  try dsimp only at hSx
  go_simp
  try with_reducible rfl
 simp only [Act.put]
 refine wtk (i:=6) (v:=?_) [45] rfl (by kernel_rfl) (by kernel_rfl) (by kernel_rfl) (by kernel_rfl) (fun _ _ _ h=>h) hS0 (Or.inl ⟨by rfl,?_⟩) ?_
 rotate_left
 ·intro x hSx
  try dsimp only at hSx
  go_simp
  try with_reducible rfl
 simp only [Act.put]
 refine wtk (i:=7) (v:=?_) [45] rfl (by kernel_rfl) (by kernel_rfl) (by kernel_rfl) (by kernel_rfl) (fun _ _ _ h=>h) hS0 (Or.inl ⟨by rfl,?_⟩) ?_
 rotate_left
 ·intro x hSx
  try dsimp only at hSx
  go_simp
  try with_reducible rfl
 simp only [Act.put]
 refine wtk (i:=8) (v:=?_) [45] rfl (by kernel_rfl) (by kernel_rfl) (by kernel_rfl) (by kernel_rfl) (fun _ _ _ h=>h) hS0 (Or.inl ⟨by rfl,?_⟩) ?_
 rotate_left
 ·intro x hSx
  try dsimp only at hSx
  go_simp
  try with_reducible rfl
 simp only [Act.put]
 refine wtk (i:=9) (v:=?_) [45] rfl (by kernel_rfl) (by kernel_rfl) (by kernel_rfl) (by kernel_rfl) (fun _ _ _ h=>h) hS0 (Or.inl ⟨by rfl,?_⟩) ?_
 rotate_left
 ·intro x hSx
  try dsimp only at hSx
  go_simp
  try with_reducible rfl
 simp only [Act.put]
 refine wtk (i:=10) (v:=?_) [45] rfl (by kernel_rfl) (by kernel_rfl) (by kernel_rfl) (by kernel_rfl) (fun _ _ _ h=>h) hS0 (Or.inl ⟨by rfl,?_⟩) ?_
 rotate_left
 ·intro x hSx
  try dsimp only at hSx
  go_simp
  try with_reducible rfl
 simp only [Act.put]
 refine wtk (i:=11) (v:=?_) [45] rfl (by kernel_rfl) (by kernel_rfl) (by kernel_rfl) (by kernel_rfl) (fun _ _ _ h=>h) hS0 (Or.inl ⟨by rfl,?_⟩) ?_
 rotate_left
 ·intro x hSx
  try dsimp only at hSx
  go_simp
  try with_reducible rfl
 simp only [Act.put]
 refine wtk (i:=12) (v:=?_) [45] rfl (by kernel_rfl) (by kernel_rfl) (by kernel_rfl) (by kernel_rfl) (fun _ _ _ h=>h) hS0 (Or.inl ⟨by rfl,?_⟩) ?_
 rotate_left
 ·intro x hSx
  try dsimp only at hSx
  go_simp
  try with_reducible rfl
 simp only [Act.put]
 refine wtk (i:=13) (v:=?_) [45] rfl (by kernel_rfl) (by kernel_rfl) (by kernel_rfl) (by kernel_rfl) (fun _ _ _ h=>h) hS0 (Or.inl ⟨by rfl,?_⟩) ?_
 rotate_left
 ·intro x hSx
  try dsimp only at hSx
  go_simp
  try with_reducible rfl
 simp only [Act.put]
 refine wtk (i:=14) (v:=?_) [45] rfl (by kernel_rfl) (by kernel_rfl) (by kernel_rfl) (by kernel_rfl) (fun _ _ _ h=>h) hS0 (Or.inl ⟨by rfl,?_⟩) ?_
 rotate_left
 ·intro x hSx
  try dsimp only at hSx
  go_simp
  try with_reducible rfl
 simp only [Act.put]
 refine wtk (i:=15) (v:=?_) [45] rfl (by kernel_rfl) (by kernel_rfl) (by kernel_rfl) (by kernel_rfl) (fun _ _ _ h=>h) hS0 (Or.inl ⟨by rfl,?_⟩) ?_
 rotate_left
 ·intro x hSx
  try dsimp only at hSx
  go_simp
  try with_reducible rfl
 simp only [Act.put]
 refine wtk (i:=16) (v:=?_) [45] rfl (by kernel_rfl) (by kernel_rfl) (by kernel_rfl) (by kernel_rfl) (fun _ _ _ h=>h) hS0 (Or.inl ⟨by rfl,?_⟩) ?_
 rotate_left
 ·intro x hSx
  try dsimp only at hSx
  go_simp
  try with_reducible rfl
 simp only [Act.put]
 refine wtk (i:=17) (v:=?_) [45] rfl (by kernel_rfl) (by kernel_rfl) (by kernel_rfl) (by kernel_rfl) (fun _ _ _ h=>h) hS0 (Or.inl ⟨by rfl,?_⟩) ?_
 rotate_left
 ·intro x hSx
  try dsimp only at hSx
  go_simp
  try with_reducible rfl
 simp only [Act.put]
 refine wtk (i:=18) (v:=?_) [45] rfl (by kernel_rfl) (by kernel_rfl) (by kernel_rfl) (by kernel_rfl) (fun _ _ _ h=>h) hS0 (Or.inl ⟨by rfl,?_⟩) ?_
 rotate_left
 ·intro x hSx
  try dsimp only at hSx
  go_simp
  try with_reducible rfl
 simp only [Act.put]
 refine wtk (i:=19) (v:=?_) [45] rfl (by kernel_rfl) (by kernel_rfl) (by kernel_rfl) (by kernel_rfl) (fun _ _ _ h=>h) hS0 (Or.inl ⟨by rfl,?_⟩) ?_
 rotate_left
 ·intro x hSx
  try dsimp only at hSx
  go_simp
  try with_reducible rfl
 simp only [Act.put]
 refine wtk (i:=20) (v:=?_) [45] rfl (by kernel_rfl) (by kernel_rfl) (by kernel_rfl) (by kernel_rfl) (fun _ _ _ h=>h) hS0 (Or.inl ⟨by rfl,?_⟩) ?_
 rotate_left
 ·intro x hSx
  try dsimp only at hSx
  go_simp
  try with_reducible rfl
 simp only [Act.put]
 refine wtk (i:=21) (v:=?_) [45] rfl (by kernel_rfl) (by kernel_rfl) (by kernel_rfl) (by kernel_rfl) (fun _ _ _ h=>h) hS0 (Or.inl ⟨by rfl,?_⟩) ?_
 rotate_left
 ·intro x hSx
  try dsimp only at hSx
  go_simp
  try with_reducible rfl
 simp only [Act.put]
 refine wtk (i:=22) (v:=?_) [45] rfl (by kernel_rfl) (by kernel_rfl) (by kernel_rfl) (by kernel_rfl) (fun _ _ _ h=>h) hS0 (Or.inl ⟨by rfl,?_⟩) ?_
 rotate_left
 ·intro x hSx
  try dsimp only at hSx
  go_simp
  try with_reducible rfl
 simp only [Act.put]
 refine wtk (i:=23) (v:=?_) [45] rfl (by kernel_rfl) (by kernel_rfl) (by kernel_rfl) (by kernel_rfl) (fun _ _ _ h=>h) hS0 (Or.inl ⟨by rfl,?_⟩) ?_
 rotate_left
 ·intro x hSx
  try dsimp only at hSx
  go_simp
  try with_reducible rfl
 simp only [Act.put]
 refine wtk (i:=24) (v:=?_) [45] rfl (by kernel_rfl) (by kernel_rfl) (by kernel_rfl) (by kernel_rfl) (fun _ _ _ h=>h) hS0 (Or.inl ⟨by rfl,?_⟩) ?_
 rotate_left
 ·intro x hSx
  try dsimp only at hSx
  go_simp
  try with_reducible rfl
 simp only [Act.put]
 refine wtk (i:=25) (v:=?_) [45] rfl (by kernel_rfl) (by kernel_rfl) (by kernel_rfl) (by kernel_rfl) (fun _ _ _ h=>h) hS0 (Or.inl ⟨by rfl,?_⟩) ?_
 rotate_left
 ·intro x hSx
  try dsimp only at hSx
  go_simp
  try with_reducible rfl
 simp only [Act.put]
 refine wtk (i:=26) (v:=?_) [45] rfl (by kernel_rfl) (by kernel_rfl) (by kernel_rfl) (by kernel_rfl) (fun _ _ _ h=>h) hS0 (Or.inl ⟨by rfl,?_⟩) ?_
 rotate_left
 ·intro x hSx
  try dsimp only at hSx
  go_simp
  try with_reducible rfl
 simp only [Act.put]
 refine wtk (i:=27) (v:=?_) [45] rfl (by kernel_rfl) (by kernel_rfl) (by kernel_rfl) (by kernel_rfl) (fun _ _ _ h=>h) hS0 (Or.inl ⟨by rfl,?_⟩) ?_
 rotate_left
 ·intro x hSx
  try dsimp only at hSx
  go_simp
  try with_reducible rfl
 simp only [Act.put]
 refine wtk (i:=28) (v:=?_) [45] rfl (by kernel_rfl) (by kernel_rfl) (by kernel_rfl) (by kernel_rfl) (fun _ _ _ h=>h) hS0 (Or.inl ⟨by rfl,?_⟩) ?_
 rotate_left
 ·intro x hSx
  try dsimp only at hSx
  go_simp
  try with_reducible rfl
 simp only [Act.put]
 refine wtk (i:=29) (v:=?_) [45] rfl (by kernel_rfl) (by kernel_rfl) (by kernel_rfl) (by kernel_rfl) (fun _ _ _ h=>h) hS0 (Or.inl ⟨by rfl,?_⟩) ?_
 rotate_left
 ·intro x hSx
  try dsimp only at hSx
  go_simp
  try with_reducible rfl
 simp only [Act.put]
 refine wtk (i:=30) (v:=?_) [45] rfl (by kernel_rfl) (by kernel_rfl) (by kernel_rfl) (by kernel_rfl) (fun _ _ _ h=>h) hS0 (Or.inl ⟨by rfl,?_⟩) ?_
 rotate_left
 ·intro x hSx
  try dsimp only at hSx
  go_simp
  try with_reducible rfl
 simp only [Act.put]
 refine wtk (i:=31) (v:=?_) [45] rfl (by kernel_rfl) (by kernel_rfl) (by kernel_rfl) (by kernel_rfl) (fun _ _ _ h=>h) hS0 (Or.inl ⟨by rfl,?_⟩) ?_
 rotate_left
 ·intro x hSx
  try dsimp only at hSx
  go_simp
  try with_reducible rfl
 simp only [Act.put]
 refine wtk (i:=32) (v:=?_) [45] rfl (by kernel_rfl) (by kernel_rfl) (by kernel_rfl) (by kernel_rfl) (fun _ _ _ h=>h) hS0 (Or.inl ⟨by rfl,?_⟩) ?_
 rotate_left
 ·intro x hSx
  try dsimp only at hSx
  go_simp
  try with_reducible rfl
 simp only [Act.put]
 refine wtk (i:=33) (v:=?_) [45] rfl (by kernel_rfl) (by kernel_rfl) (by kernel_rfl) (by kernel_rfl) (fun _ _ _ h=>h) hS0 (Or.inl ⟨by rfl,?_⟩) ?_
 rotate_left
 ·intro x hSx
  try dsimp only at hSx
  go_simp
  try with_reducible rfl
 simp only [Act.put]
 refine wtk (i:=34) (v:=?_) [45] rfl (by kernel_rfl) (by kernel_rfl) (by kernel_rfl) (by kernel_rfl) (fun _ _ _ h=>h) hS0 (Or.inl ⟨by rfl,?_⟩) ?_
 rotate_left
 ·intro x hSx
  try dsimp only at hSx
  go_simp
  try with_reducible rfl
 simp only [Act.put]
 refine wtk (i:=35) (v:=?_) [45] rfl (by kernel_rfl) (by kernel_rfl) (by kernel_rfl) (by kernel_rfl) (fun _ _ _ h=>h) hS0 (Or.inl ⟨by rfl,?_⟩) ?_
 rotate_left
 ·intro x hSx
  try dsimp only at hSx
  go_simp
  try with_reducible rfl
 simp only [Act.put]
 refine wtk (i:=36) (v:=?_) [45] rfl (by kernel_rfl) (by kernel_rfl) (by kernel_rfl) (by kernel_rfl) (fun _ _ _ h=>h) hS0 (Or.inl ⟨by rfl,?_⟩) ?_
 rotate_left
 ·intro x hSx
  try dsimp only at hSx
  go_simp
  try with_reducible rfl
 simp only [Act.put]
 refine wtk (i:=37) (v:=?_) [45] rfl (by kernel_rfl) (by kernel_rfl) (by kernel_rfl) (by kernel_rfl) (fun _ _ _ h=>h) hS0 (Or.inl ⟨by rfl,?_⟩) ?_
 rotate_left
 ·intro x hSx
  try dsimp only at hSx
  go_simp
  try with_reducible rfl
 simp only [Act.put]
 refine wtk (i:=38) (v:=?_) [45] rfl (by kernel_rfl) (by kernel_rfl) (by kernel_rfl) (by kernel_rfl) (fun _ _ _ h=>h) hS0 (Or.inl ⟨by rfl,?_⟩) ?_
 rotate_left
 ·intro x hSx
  try dsimp only at hSx
  go_simp
  try with_reducible rfl
 simp only [Act.put]
 refine wtk (i:=39) (v:=?_) [45] rfl (by kernel_rfl) (by kernel_rfl) (by kernel_rfl) (by kernel_rfl) (fun _ _ _ h=>h) hS0 (Or.inl ⟨by rfl,?_⟩) ?_
 rotate_left
 ·intro x hSx
  try dsimp only at hSx
  go_simp
  try with_reducible rfl
 simp only [Act.put]
 refine wtk (i:=40) (v:=?_) [45] rfl (by kernel_rfl) (by kernel_rfl) (by kernel_rfl) (by kernel_rfl) (fun _ _ _ h=>h) hS0 (Or.inl ⟨by rfl,?_⟩) ?_
 rotate_left
 ·intro x hSx
  try dsimp only at hSx
  go_simp
  try with_reducible rfl
 simp only [Act.put]
 refine wtk (i:=41) (v:=?_) [45] rfl (by kernel_rfl) (by kernel_rfl) (by kernel_rfl) (by kernel_rfl) (fun _ _ _ h=>h) hS0 (Or.inl ⟨by rfl,?_⟩) ?_
 rotate_left
 ·intro x hSx
  try dsimp only at hSx
  go_simp
  try with_reducible rfl
 simp only [Act.put]
 refine wtk (i:=42) (v:=?_) [45] rfl (by kernel_rfl) (by kernel_rfl) (by kernel_rfl) (by kernel_rfl) (fun _ _ _ h=>h) hS0 (Or.inl ⟨by rfl,?_⟩) ?_
 rotate_left
 ·intro x hSx
  try dsimp only at hSx
  go_simp
  try with_reducible rfl
 simp only [Act.put]
 refine wtk (i:=43) (v:=?_) [45] rfl (by kernel_rfl) (by kernel_rfl) (by kernel_rfl) (by kernel_rfl) (fun _ _ _ h=>h) hS0 (Or.inl ⟨by rfl,?_⟩) ?_
 rotate_left
 ·intro x hSx
  try dsimp only at hSx
  go_simp
  try with_reducible rfl
 simp only [Act.put]
 refine wtk (i:=44) (v:=?_) [45] rfl (by kernel_rfl) (by kernel_rfl) (by kernel_rfl) (by kernel_rfl) (fun _ _ _ h=>h) hS0 (Or.inl ⟨by rfl,?_⟩) ?_
 rotate_left
 ·intro x hSx
  try dsimp only at hSx
  go_simp
  try with_reducible rfl
 simp only [Act.put]
 refine wto (j:=45) (by kernel_rfl) rfl (fun K hK=>?_)
 go_simp
 refine hK.out _ _ (fun hx=>absurd (hx.symm.trans (by kernel_rfl)) Bool.false_ne_true) ?_
 clear hK K
 refine wpTill_done (by kernel_rfl) ?_ _
 go_wp2
 refine bodyPost_ret (v:=.agg #[.int .i64 (F k),.int .i64 (F (k+1)),.int .i64 (F (k+2)),.int .i64 (F (k+3)),.int .i64 (F (k+4)),.int .i64 (F (k+5)),.int .i64 (F (k+6)),.int .i64 (F (k+7)),.int .i64 (F (k+8)),.int .i64 (F (k+9)),.int .i64 (F (k+10))]) (by simp [results,Tryz.results56,go_sem,z0,z1,z2,z3,z4,z5,z6,z7,z8,z9,z10]) rfl ?_
 exact ⟨rfl,uh hgo [_,_,_,_,_,_,_,_,_,_,_] 1⟩


open Go.RowKit

theorem Sn.list_src {w:World} {b o m:Nat} {F:Nat→Value} (h:∀c,c<m→w.cell? ⟨b,o+c,none⟩=some (F c)):∀j v,(Gd.list m F)[j]?=some v→w.cell? ((⟨b,o,none⟩:Addr).add j)=some v:=by
 intro j v hj
 have hlt:j<m:=by
  have:=(List.getElem?_eq_some_iff.1 hj).1
  rwa [Gd.list_len] at this
 rw [Gd.list_at hlt] at hj
 rw [show (⟨b,o,none⟩:Addr).add j=⟨b,o+j,none⟩ by rw [Go.WideShapes.add_plain],h j hlt]
 exact hj

set_option maxHeartbeats 800000 in
theorem snTwinB_any (b o n m cp:Nat) (F:Nat→Value) (w:World) (hn:n≤1000) (hm:m=n*1) (h1:∀c,(F c).oneCell'=true) (hF:∀c,c<m→w.cell? ⟨b,o+c,none⟩=some (F c)) (hb:b<w.heap.size) :
  Calls Tryz.prog 16 #[.slice (some ⟨b,o,none⟩) n cp] w (Copies w 5 n m F):=by
 have hF':=hide hF
 have h1':=hide h1
 obtain ⟨i0,hi,hz0,hz1,hz2⟩:=info_parts info_byte
 have hsz:(Tryz.prog.info? 5).map (·.size)=some 1:=by rw [hi];simp [hz1]
 clear hF h1
 go_enter Tryz.func16,Tryz.ntmps16
 go_wp2_with (at_make;refine wpList_make_full _ rfl _ _ 26 rfl w.heap.size 5 i0 (.int .u8 0) 1 Tryz.underlying26 hi hz0 hz1 .i64 .i64 _ _ n rfl rfl rfl rfl ?q3 ?q4 ?q5 ?_)
 any_goals (first | (rw [hz2];omega) | (unfold maxLen;omega) | exact Nat.le_refl _)
 intro w1 hown hgrow
 obtain ⟨cur,hg,hcs⟩:∃cur,w1.heap[w.heap.size]?=some (.cells cur 5 (0,0))∧cur.size=n*1:=by
  rcases hown.2 with ⟨h',_⟩ | ⟨g',cap',cur,h',_,hg,_,_,hcs,_⟩
  ·simp at h'
  ·simp only [Value.slice.injEq,Option.some.injEq,Addr.mk.injEq,and_true,true_and] at h'
   obtain ⟨rfl,rfl⟩:=h'
   exact ⟨cur,hg,hcs⟩
 have hg':=hide hg
 have hgrow':=hide hgrow
 have hcs':=hide hcs
 clear hown hg hgrow hcs hi hz0 hz1 hz2
 obtain ⟨w2,hrun,hrow,hgr2⟩:=run_copy_whole 26 26 3 5 Tryz.underlying26 1 hsz w.heap.size n n ⟨b,o,none⟩ cp cur _ (uh hg') (Gd.list m F) ((Gd.list_len m F).trans hm) (Sn.list_src fun c hc=>(gce (uh hgrow') b (o+c) hb (by simp)).trans (uh hF' c hc)) (by rw [Gd.list_len,uh hcs',hm]) (Gd.list_one (uh h1'))
 have hfin:=hide (Arr.of_list hrow)
 have hgw:=hide (show w.grownBy w2 none from gow (uh hgrow') hgr2 (fun k e=>by cases e;exact Nat.le_refl _))
 clear hrow hgr2 hb hm hn hsz
 go_wp2
 go_ret
 exact ⟨w.heap.size,rfl,Nat.le_refl _,uh hfin,uh hgw⟩

set_option maxHeartbeats 800000 in
theorem snTwinE_any (b o n m cp:Nat) (F:Nat→Value) (w:World) (hn:n≤1000) (hm:m=n*11) (h1:∀c,(F c).oneCell'=true) (hF:∀c,c<m→w.cell? ⟨b,o+c,none⟩=some (F c)) (hb:b<w.heap.size) :
  Calls Tryz.prog 17 #[.slice (some ⟨b,o,none⟩) n cp] w (Copies w 38 n m F):=by
 have hF':=hide hF
 have h1':=hide h1
 obtain ⟨i0,hi,hz0,hz1,hz2⟩:=info_parts info_ent
 have hsz:(Tryz.prog.info? 38).map (·.size)=some 11:=by rw [hi];simp [hz1]
 clear hF h1
 go_enter Tryz.func17,Tryz.ntmps17
 go_wp2_with (at_make;refine wpList_make_full _ rfl _ _ 27 rfl w.heap.size 38 i0 (.agg #[.int .i64 0,.int .i64 0,.int .i64 0,.int .i64 0,.int .i64 0,.int .i64 0,.int .i64 0,.int .i64 0,.int .i64 0,.int .i64 0,.int .i64 0]) 11 Tryz.underlying27 hi hz0 hz1 .i64 .i64 _ _ n rfl rfl rfl rfl ?q3 ?q4 ?q5 ?_)
 any_goals (first | (rw [hz2];omega) | (unfold maxLen;omega) | exact Nat.le_refl _)
 intro w1 hown hgrow
 obtain ⟨cur,hg,hcs⟩:∃cur,w1.heap[w.heap.size]?=some (.cells cur 38 (0,0))∧cur.size=n*11:=by
  rcases hown.2 with ⟨h',_⟩ | ⟨g',cap',cur,h',_,hg,_,_,hcs,_⟩
  ·simp at h'
  ·simp only [Value.slice.injEq,Option.some.injEq,Addr.mk.injEq,and_true,true_and] at h'
   obtain ⟨rfl,rfl⟩:=h'
   exact ⟨cur,hg,hcs⟩
 have hg':=hide hg
 have hgrow':=hide hgrow
 have hcs':=hide hcs
 clear hown hg hgrow hcs hi hz0 hz1 hz2
 obtain ⟨w2,hrun,hrow,hgr2⟩:=run_copy_whole 27 27 3 38 Tryz.underlying27 11 hsz w.heap.size n n ⟨b,o,none⟩ cp cur _ (uh hg') (Gd.list m F) ((Gd.list_len m F).trans hm) (Sn.list_src fun c hc=>(gce (uh hgrow') b (o+c) hb (by simp)).trans (uh hF' c hc)) (by rw [Gd.list_len,uh hcs',hm]) (Gd.list_one (uh h1'))
 have hfin:=hide (Arr.of_list hrow)
 have hgw:=hide (show w.grownBy w2 none from gow (uh hgrow') hgr2 (fun k e=>by cases e;exact Nat.le_refl _))
 clear hrow hgr2 hb hm hn hsz
 go_wp2
 go_ret
 exact ⟨w.heap.size,rfl,Nat.le_refl _,uh hfin,uh hgw⟩

set_option maxHeartbeats 800000 in
theorem snTwinI_any (b o n m cp:Nat) (F:Nat→Value) (w:World) (hn:n≤1000) (hm:m=n*4) (h1:∀c,(F c).oneCell'=true) (hF:∀c,c<m→w.cell? ⟨b,o+c,none⟩=some (F c)) (hb:b<w.heap.size) :
  Calls Tryz.prog 18 #[.slice (some ⟨b,o,none⟩) n cp] w (Copies w 40 n m F):=by
 have hF':=hide hF
 have h1':=hide h1
 obtain ⟨i0,hi,hz0,hz1,hz2⟩:=info_parts info_item
 have hsz:(Tryz.prog.info? 40).map (·.size)=some 4:=by rw [hi];simp [hz1]
 clear hF h1
 go_enter Tryz.func18,Tryz.ntmps18
 go_wp2_with (at_make;refine wpList_make_full _ rfl _ _ 28 rfl w.heap.size 40 i0 (.agg #[.int .i64 0,.int .i64 0,.int .i64 0,.int .i64 0]) 4 Tryz.underlying28 hi hz0 hz1 .i64 .i64 _ _ n rfl rfl rfl rfl ?q3 ?q4 ?q5 ?_)
 any_goals (first | (rw [hz2];omega) | (unfold maxLen;omega) | exact Nat.le_refl _)
 intro w1 hown hgrow
 obtain ⟨cur,hg,hcs⟩:∃cur,w1.heap[w.heap.size]?=some (.cells cur 40 (0,0))∧cur.size=n*4:=by
  rcases hown.2 with ⟨h',_⟩ | ⟨g',cap',cur,h',_,hg,_,_,hcs,_⟩
  ·simp at h'
  ·simp only [Value.slice.injEq,Option.some.injEq,Addr.mk.injEq,and_true,true_and] at h'
   obtain ⟨rfl,rfl⟩:=h'
   exact ⟨cur,hg,hcs⟩
 have hg':=hide hg
 have hgrow':=hide hgrow
 have hcs':=hide hcs
 clear hown hg hgrow hcs hi hz0 hz1 hz2
 obtain ⟨w2,hrun,hrow,hgr2⟩:=run_copy_whole 28 28 3 40 Tryz.underlying28 4 hsz w.heap.size n n ⟨b,o,none⟩ cp cur _ (uh hg') (Gd.list m F) ((Gd.list_len m F).trans hm) (Sn.list_src fun c hc=>(gce (uh hgrow') b (o+c) hb (by simp)).trans (uh hF' c hc)) (by rw [Gd.list_len,uh hcs',hm]) (Gd.list_one (uh h1'))
 have hfin:=hide (Arr.of_list hrow)
 have hgw:=hide (show w.grownBy w2 none from gow (uh hgrow') hgr2 (fun k e=>by cases e;exact Nat.le_refl _))
 clear hrow hgr2 hb hm hn hsz
 go_wp2
 go_ret
 exact ⟨w.heap.size,rfl,Nat.le_refl _,uh hfin,uh hgw⟩

def Sn.put (B:Nat→Value) (i:Nat) (v:Value):Nat→Value:=fun j=>if j=i then v else B j

structure Sn.Read (w x:World) (P W R G k:Nat) (F:Nat→Int) (B:Nat→Value):Prop where
 res:Lie x P 31 11 (fun j=>#[.int .i64 0,.int .i64 0,.int .i64 0,.int .i64 0,.slice none 0 0,.slice none 0 0,.slice none 0 0,.int .i64 0,.int .i64 0,.int .i64 0,Value.int .i64 0][j]?.getD undef)
 box:Lie x W 31 11 B
 rd:Sn.Rd x R G k
 src:Sn.Src x G F
 lP:w.heap.size≤P
 lW:w.heap.size≤W
 lR:w.heap.size≤R
 lG:G<w.heap.size
 pW:P≠W
 rW:R≠W
 rP:R≠P
 grown:w.grownBy x none

theorem Sn.Read.rG {w x:World} {P W R G k:Nat} {F:Nat→Int} {B:Nat→Value} (h:Sn.Read w x P W R G k F B):R≠G:=by
 have:=h.lR
 have:=h.lG
 omega

theorem Sn.Read.on {w x y:World} {P W R G k:Nat} {F:Nat→Int} {B:Nat→Value} (h:Sn.Read w x P W R G k F B) (hg:x.grownBy y none):Sn.Read w y P W R G k F B :=
 { h with res:=h.res.on hg,box:=h.box.on hg,rd:=h.rd.on hg,src:=h.src.on hg (by simp),grown:=gtr h.grown hg }

theorem Sn.Read.step {w x y:World} {P W R G k k':Nat} {F:Nat→Int} {B:Nat→Value} {u:Value} (h:Sn.Read w x P W R G k F B) (hy:y=x.setCell ⟨R,0,none⟩ u) (hr:Sn.Rd y R G k'):Sn.Read w y P W R G k' F B:=by
 subst hy
 exact { h with res:=h.res.other h.rP _ _,box:=h.box.other h.rW _ _,rd:=hr,src:=h.src.set h.rG _ _,grown:=gsr h.grown ⟨R,0,none⟩ h.lR u }

theorem Sn.Read.field {w x:World} {P W R G k:Nat} {F:Nat→Int} {B:Nat→Value} (h:Sn.Read w x P W R G k F B) (i:Nat) (v:Value):Sn.Read w (x.setCell ⟨W,i,none⟩ v) P W R G k F (Sn.put B i v):=by
 have h1:=h.lW
 have h2:=h.lG
 exact { h with res:=h.res.other h.pW.symm _ _,box:=h.box.store i v,rd:=h.rd.other h.rW.symm _ _,src:=h.src.set (by omega) _ _,grown:=gsr h.grown ⟨W,i,none⟩ h.lW v }

theorem Sn.Read.rows {w x:World} {P W R G k g:Nat} {T:TypeId} {m:Nat} {K:Nat→Value} {F:Nat→Int} {B:Nat→Value} (h:Sn.Read w x P W R G k F B) (hl:Lie x g T m K) (hT:T≠31) (hT2:T≠94) (hg:w.heap.size≤g) (o:Nat) (vs:List Value):Sn.Read w (x.setCells g o vs) P W R G k F B:=by
 obtain ⟨p,C,hc,-⟩:=h.rd.cell
 have n1:=hl.type7 h.res hT
 have n2:=hl.type7 h.box hT
 have n3:=hl.type7 hc hT2
 have h2:=h.lG
 exact { h with res:=h.res.others n1 _ _,box:=h.box.others n2 _ _,rd:=h.rd.others n3 _ _,src:=h.src.sets (by omega) _ _,grown:=own_sets hg vs o x h.grown }

def Sn.gd (B:Nat→Value) (g:Nat→Int) (t:Nat):Nat→Value:=fun j=>if 7≤j∧j<7+t then .int .i64 (g (j - 7)) else B j

theorem Sn.gd_more (B:Nat→Value) (g:Nat→Int) (t:Nat):Sn.put (Sn.gd B g t) (7+t) (.int .i64 (g t))=Sn.gd B g (t+1):=by
 funext j
 unfold Sn.put Sn.gd
 by_cases e:j=7+t
 ·rw [if_pos e,if_pos (by omega),show j - 7=t by omega]
 ·rw [if_neg e]
  by_cases e2:7≤j∧j<7+t
  ·rw [if_pos e2,if_pos (by omega)]
  ·rw [if_neg e2,if_neg (by omega)]

theorem Sn.gd_none (B:Nat→Value) (g:Nat→Int):Sn.gd B g 0=B:=by
 funext j
 unfold Sn.gd
 rw [if_neg (by omega)]

def Sn.fill (f:Nat→Nat→Int) (n:Nat):Nat→Nat→Int:=fun i j=>if i<n then f i j else 0

theorem Sn.fill_more (f:Nat→Nat→Int) (n:Nat):En.put (Sn.fill f n) n (f n)=Sn.fill f (n+1):=by
 funext i j
 unfold Sn.fill
 by_cases e:i=n
 ·subst e
  rw [En.put_same,if_pos (by omega)]
 ·rw [En.put_other e]
  by_cases e2:i<n
  ·rw [if_pos e2,if_pos (by omega)]
  ·rw [if_neg e2,if_neg (by omega)]

theorem Sn.fill_none (f:Nat→Nat→Int):Sn.fill f 0=fun _ _=>0:=by
 funext i j
 unfold Sn.fill
 rw [if_neg (by omega)]

end Go.Proofs.YtapgkgbpekkdjabGreat
