import Derived.Test.YtepppmepilffcaaGreatPw21
namespace Go.Proofs.YtepppmepilffcaaGreat
open Go.RowKit

def Sn.allB (q:Nat→Bool):Nat→Bool
 | 0=>true
 | n+1=>Sn.allB q n && q n

theorem Sn.allB_yes {q:Nat→Bool}:∀{n:Nat},(∀k,k<n→q k=true)→Sn.allB q n=true
 | 0,_=>rfl
 | n+1,h=>by
  show (Sn.allB q n && q n)=true
  rw [Sn.allB_yes (fun k hk=>h k (by omega)),h n (by omega)]
  rfl

theorem Sn.allB_no {q:Nat→Bool} {k:Nat} (hk:q k=false):∀{n:Nat},k<n→Sn.allB q n=false
 | 0,h=>absurd h (by omega)
 | n+1,h=>by
  show (Sn.allB q n && q n)=false
  by_cases e:k=n
  ·rw [←e,hk,Bool.and_false]
  ·rw [Sn.allB_no hk (by omega),Bool.false_and]

set_option maxRecDepth 8000 in
set_option maxHeartbeats 3200000 in
theorem snEqualB_any (G H cap cap':Nat) (c d:Nat→Int) (w:World) (h1:Lie w G 5 384 (Byts c)) (h2:Lie w H 5 384 (Byts d)) :
  Calls Tryz.prog 37 #[.slice (some ⟨G,0,none⟩) 384 cap,.slice (some ⟨H,0,none⟩) 384 cap'] w (Says w (.bool (Sn.allB (fun i=>c i == d i) 384))):=by
 have h1':=hide h1
 have h2':=hide h2
 obtain ⟨A,hA⟩:∃A,Sn.allB (fun i=>c i == d i) 384=A:=⟨_,rfl⟩
 have hno:Hid (∀k,k<384→(fun i=>c i == d i) k=false→false=A):=fun k hk h=>by rw [←hA,Sn.allB_no h hk]
 have hyes:Hid ((∀k,k<384→(fun i=>c i == d i) k=true)→true=A):=fun h=>by rw [←hA,Sn.allB_yes h]
 rw [hA]
 clear h1 h2 hA
 go_enter Tryz.func37,Tryz.ntmps37
 go_wp2_with fail
 go_loopw [5,13] (fun v5 v13 wr=>∃k:Nat,k≤384∧v13=.int .i64 (k:Int)∧Hid (∀j,j<k→(fun i=>c i == d i) j=true)∧Hid (w.grownBy wr none)) (fun _ v13 _=>400 - (intOf v13).toNat)
 case atStart=>exact ⟨0,by omega,rfl,fun j hj=>absurd hj (by omega),World.grownBy.refl _ _⟩
 case round =>
  obtain ⟨k,hk,rfl,hall,hg⟩:=hrel
  by_cases hlt:k<384
  ·have hlt':(k:Int)<384:=by omega
   have HL:=hide hlt
   clear hlt hk
   have u0:wr.cell? ⟨G,k,none⟩=some (.int .u8 (c k)):=((uh h1').on (uh hg)).cell (uh HL)
   have v0:wr.cell? ⟨H,k,none⟩=some (.int .u8 (d k)):=((uh h2').on (uh hg)).cell (uh HL)
   obtain ⟨p,hpe⟩:∃p,(c k == d k)=p:=⟨_,rfl⟩
   have hq:Hid ((fun i=>c i == d i) k=p):=hpe
   have hp:(c k != d k)=!p:=by rw [←hpe];rfl
   clear hpe
   have hdr:Hid (∀m,w.grownBy (wr.drewN m) none):=fun m=>gdw (uh hg) m
   cases p with
   | true =>
    go_wp2_with fail
    go_quiet (fail)
    go_wp2
    go_roundw
    case rel=>exact ⟨k+1,by have:=uh HL;omega,by go_num,fun j hj=>by
     by_cases e:j=k
     ·rw [e];exact uh hq
     ·exact uh hall j (by omega),uh hdr _⟩
    case measure=>simp [intOf];have:=uh HL;omega
   | false =>
    have hf:=hide (uh hno k (uh HL) (uh hq))
    go_wp2_with fail
    go_quiet (fail)
    have hgf:=hide (uh hdr nq)
    go_wp2
    go_ret
    exact ⟨ret_bool (uh hf),uh hgf⟩
  ·have hge:¬(k:Int)<384:=by omega
   have hf:=hide (uh hyes (fun j hj=>uh hall j (by omega)))
   clear hlt hk
   go_wp2
   go_ret
   exact ⟨ret_bool (uh hf),uh hg⟩

set_option maxRecDepth 8000 in
set_option maxHeartbeats 3200000 in
theorem snEqualE_any (G H cap cap':Nat) (c d:Nat→Nat→Int) (w:World) (h1:Lie w G 61 352 (En.flat c)) (h2:Lie w H 61 352 (En.flat d)) :
  Calls Tryz.prog 38 #[.slice (some ⟨G,0,none⟩) 32 cap,.slice (some ⟨H,0,none⟩) 32 cap'] w (Says w (.bool (Sn.allB (fun i=>Sn.sameE (c i) (d i)) 32))):=by
 have h1':=hide h1
 have h2':=hide h2
 obtain ⟨A,hA⟩:∃A,Sn.allB (fun i=>Sn.sameE (c i) (d i)) 32=A:=⟨_,rfl⟩
 have hno:Hid (∀k,k<32→(fun i=>Sn.sameE (c i) (d i)) k=false→false=A):=fun k hk h=>by rw [←hA,Sn.allB_no h hk]
 have hyes:Hid ((∀k,k<32→(fun i=>Sn.sameE (c i) (d i)) k=true)→true=A):=fun h=>by rw [←hA,Sn.allB_yes h]
 rw [hA]
 clear h1 h2 hA
 go_enter Tryz.func38,Tryz.ntmps38
 go_wp2_with fail
 go_loopw [5,13] (fun v5 v13 wr=>∃k:Nat,k≤32∧v13=.int .i64 (k:Int)∧Hid (∀j,j<k→(fun i=>Sn.sameE (c i) (d i)) j=true)∧Hid (w.grownBy wr none)) (fun _ v13 _=>400 - (intOf v13).toNat)
 case atStart=>exact ⟨0,by omega,rfl,fun j hj=>absurd hj (by omega),World.grownBy.refl _ _⟩
 case round =>
  obtain ⟨k,hk,rfl,hall,hg⟩:=hrel
  by_cases hlt:k<32
  ·have hlt':(k:Int)<32:=by omega
   have HL:=hide hlt
   clear hlt hk
   obtain ⟨u0,u1,u2,u3,u4,u5,u6,u7,u8,u9,u10⟩:=(((uh h1').on (uh hg)).own (n:=32) (by omega) (by omega)).ents.row (uh HL)
   obtain ⟨v0,v1,v2,v3,v4,v5,v6,v7,v8,v9,v10⟩:=(((uh h2').on (uh hg)).own (n:=32) (by omega) (by omega)).ents.row (uh HL)
   have hcmp:=fun wx=>run_ne_ent (c k) (d k) wx
   obtain ⟨p,hpe⟩:∃p,Sn.sameE (c k) (d k)=p:=⟨_,rfl⟩
   have hq:Hid ((fun i=>Sn.sameE (c i) (d i)) k=p):=hpe
   rw [hpe] at hcmp
   clear hpe
   have hdr:Hid (∀m,w.grownBy (wr.drewN m) none):=fun m=>gdw (uh hg) m
   cases p with
   | true =>
    go_wp2_with fail
    go_quiet (fail)
    go_wp2
    go_roundw
    case rel=>exact ⟨k+1,by have:=uh HL;omega,by go_num,fun j hj=>by
     by_cases e:j=k
     ·rw [e];exact uh hq
     ·exact uh hall j (by omega),uh hdr _⟩
    case measure=>simp [intOf];have:=uh HL;omega
   | false =>
    have hf:=hide (uh hno k (uh HL) (uh hq))
    go_wp2_with fail
    go_quiet (fail)
    have hgf:=hide (uh hdr nq)
    go_wp2
    go_ret
    exact ⟨ret_bool (uh hf),uh hgf⟩
  ·have hge:¬(k:Int)<32:=by omega
   have hf:=hide (uh hyes (fun j hj=>uh hall j (by omega)))
   clear hlt hk
   go_wp2
   go_ret
   exact ⟨ret_bool (uh hf),uh hg⟩

set_option maxRecDepth 8000 in
set_option maxHeartbeats 3200000 in
theorem snEqualI_any (G H cap cap':Nat) (c d:Nat→Nat→Int) (w:World) (h1:Lie w G 63 160 (Gd.flat c)) (h2:Lie w H 63 160 (Gd.flat d)) :
  Calls Tryz.prog 39 #[.slice (some ⟨G,0,none⟩) 40 cap,.slice (some ⟨H,0,none⟩) 40 cap'] w (Says w (.bool (Sn.allB (fun i=>Sn.sameI (c i) (d i)) 40))):=by
 have h1':=hide h1
 have h2':=hide h2
 obtain ⟨A,hA⟩:∃A,Sn.allB (fun i=>Sn.sameI (c i) (d i)) 40=A:=⟨_,rfl⟩
 have hno:Hid (∀k,k<40→(fun i=>Sn.sameI (c i) (d i)) k=false→false=A):=fun k hk h=>by rw [←hA,Sn.allB_no h hk]
 have hyes:Hid ((∀k,k<40→(fun i=>Sn.sameI (c i) (d i)) k=true)→true=A):=fun h=>by rw [←hA,Sn.allB_yes h]
 rw [hA]
 clear h1 h2 hA
 go_enter Tryz.func39,Tryz.ntmps39
 go_wp2_with fail
 go_loopw [5,13] (fun v5 v13 wr=>∃k:Nat,k≤40∧v13=.int .i64 (k:Int)∧Hid (∀j,j<k→(fun i=>Sn.sameI (c i) (d i)) j=true)∧Hid (w.grownBy wr none)) (fun _ v13 _=>400 - (intOf v13).toNat)
 case atStart=>exact ⟨0,by omega,rfl,fun j hj=>absurd hj (by omega),World.grownBy.refl _ _⟩
 case round =>
  obtain ⟨k,hk,rfl,hall,hg⟩:=hrel
  by_cases hlt:k<40
  ·have hlt':(k:Int)<40:=by omega
   have HL:=hide hlt
   clear hlt hk
   obtain ⟨u0,u1,u2,u3⟩:=(((uh h1').on (uh hg)).its (n:=40) (by omega) (by omega)).row (uh HL)
   obtain ⟨v0,v1,v2,v3⟩:=(((uh h2').on (uh hg)).its (n:=40) (by omega) (by omega)).row (uh HL)
   have hcmp:=fun wx=>run_ne_item (c k 0) (c k 1) (c k 2) (c k 3) (d k 0) (d k 1) (d k 2) (d k 3) wx
   obtain ⟨p,hpe⟩:∃p,Sn.sameI (c k) (d k)=p:=⟨_,rfl⟩
   have hq:Hid ((fun i=>Sn.sameI (c i) (d i)) k=p):=hpe
   have hpe':(decide (c k 0=d k 0) && (decide (c k 1=d k 1) && (decide (c k 2=d k 2) && decide (c k 3=d k 3))))=p:=hpe
   rw [hpe'] at hcmp
   clear hpe hpe'
   have hdr:Hid (∀m,w.grownBy (wr.drewN m) none):=fun m=>gdw (uh hg) m
   cases p with
   | true =>
    go_wp2_with fail
    go_quiet (fail)
    go_wp2
    go_roundw
    case rel=>exact ⟨k+1,by have:=uh HL;omega,by go_num,fun j hj=>by
     by_cases e:j=k
     ·rw [e];exact uh hq
     ·exact uh hall j (by omega),uh hdr _⟩
    case measure=>simp [intOf];have:=uh HL;omega
   | false =>
    have hf:=hide (uh hno k (uh HL) (uh hq))
    go_wp2_with fail
    go_quiet (fail)
    have hgf:=hide (uh hdr nq)
    go_wp2
    go_ret
    exact ⟨ret_bool (uh hf),uh hgf⟩
  ·have hge:¬(k:Int)<40:=by omega
   have hf:=hide (uh hyes (fun j hj=>uh hall j (by omega)))
   clear hlt hk
   go_wp2
   go_ret
   exact ⟨ret_bool (uh hf),uh hg⟩

end Go.Proofs.YtepppmepilffcaaGreat

namespace Go.Proofs.YtepppmepilffcaaGreat

def Sn.goldB (g:Nat→Int) (t:Nat):Bool:=decide (0≤g t∧g t≤999)
def Sn.numB (s:Nat→Int):Bool:=decide (0≤s 1∧s 1<1073741824∧1≤s 2∧s 2≤3∧0≤s 3∧s 3≤2)
def Sn.goldsB (g:Nat→Int):Nat→Bool
 | 0=>true
 | n+1=>Sn.goldsB g n && Sn.goldB g n
def Sn.headB (s g:Nat→Int):Bool:=Sn.goldsB g 4 && Sn.numB s

theorem Sn.goldsB_of {g:Nat→Int}:∀{n:Nat},(∀t,t<n→Sn.goldB g t=true)→Sn.goldsB g n=true
 | 0,_=>rfl
 | n+1,h=>by
  show (Sn.goldsB g n && Sn.goldB g n)=true
  rw [Sn.goldsB_of (fun t ht=>h t (by omega)),h n (by omega)]
  rfl

theorem Sn.goldsB_no {g:Nat→Int} {t:Nat} (ht:Sn.goldB g t=false):∀{n:Nat},t<n→Sn.goldsB g n=false
 | 0,h=>absurd h (by omega)
 | n+1,h=>by
  show (Sn.goldsB g n && Sn.goldB g n)=false
  by_cases e:t=n
  ·rw [←e,ht,Bool.and_false]
  ·rw [Sn.goldsB_no ht (by omega),Bool.false_and]

def Sn.cnt (c:Nat→Int) (kind:Int):Nat→Int
 | 0=>0
 | n+1=>Sn.cnt c kind n+if c n=kind then 1 else 0

theorem Sn.cnt_bound (c:Nat→Int) (kind:Int):∀n,0≤Sn.cnt c kind n∧Sn.cnt c kind n≤(n:Int)
 | 0=>⟨Int.le_refl _,Int.le_refl _⟩
 | n+1=>by
  have:=Sn.cnt_bound c kind n
  unfold Sn.cnt
  split <;> omega

theorem Sn.cnt_none {c:Nat→Int} {kind:Int}:∀{n:Nat},(∀i,i<n→c i≠kind)→Sn.cnt c kind n=0
 | 0,_=>rfl
 | n+1,h=>by
  unfold Sn.cnt
  rw [Sn.cnt_none (fun i hi=>h i (by omega)),if_neg (h n (by omega))]
  rfl

theorem Sn.cnt_one {c:Nat→Int} {kind:Int} {u:Nat} (hu:c u=kind):∀{n:Nat},u<n→(∀i,i<n→c i=kind→i=u)→Sn.cnt c kind n=1
 | 0,h,_=>absurd h (by omega)
 | n+1,h,h1=>by
  unfold Sn.cnt
  by_cases e:u=n
  ·subst e
   rw [Sn.cnt_none (fun i hi e'=>by have:=h1 i (by omega) e';omega),if_pos hu]
   rfl
  ·rw [Sn.cnt_one hu (by omega) (fun i hi=>h1 i (by omega)),if_neg (fun e'=>e (h1 n (by omega) e').symm)]
   rfl

def Sn.mx (c:Nat→Int):Nat→Int
 | 0=>c 0
 | n+1=>max (Sn.mx c n) (c (n+1))

theorem Sn.mx_le {c:Nat→Int} {m:Int}:∀{n:Nat},Sn.mx c n≤m↔∀i,i≤n→c i≤m
  | 0 => ⟨fun h i hi => by obtain rfl : i = 0 := by omega
                           exact h, fun h => h 0 (by omega)⟩
  | n+1=>by
    unfold Sn.mx
    rw [Int.max_le,Sn.mx_le]
    constructor
    · rintro ⟨h1,h2⟩ i hi
      by_cases e:i=n+1
      · rw [e];exact h2
      · exact h1 i (by omega)
    · intro h
      exact ⟨fun i hi=>h i (by omega),h (n+1) (by omega)⟩

def Sn.freeB (e:Nat→Int):Bool:=decide (e 2=0∧e 3=0∧e 4=0∧e 5=0∧e 6=0∧e 7=0∧e 8=0∧e 9=0∧e 10=0)
def Sn.soundB (e:Nat→Int):Bool:=decide (e 6=En.stats (e 0) 6∧e 7=En.stats (e 0) 7∧e 8=En.stats (e 0) 8∧1≤e 5∧e 5≤e 6∧0≤e 9∧e 9≤9∧0≤e 10∧e 10≤9)
def Sn.aloneB (c:Nat→Int) (E:Nat→Nat→Int) (k:Nat):Bool:=Gr.walkB (Gr.at 384 c (E k 3) (E k 4)) && decide (En.first (En.atQ E (E k 3) (E k 4)) k=-1)
def Sn.seatedB (E:Nat→Nat→Int) (k:Nat):Bool:=if E k 0=1 then decide (0≤E k 2∧E k 2≤3∧En.first (En.heroQ E (E k 2)) k=-1) else decide (E k 2=0)

def Sn.entC (c:Nat→Int) (E:Nat→Nat→Int) (k:Nat):Int :=
 if 0≤E k 0∧E k 0≤4 then
  if 0≤E k 1∧E k 1≤255 then
   if E k 0=0 then (if Sn.freeB (E k)=true then 0 else 9)
   else if Sn.soundB (E k)=true∧Sn.aloneB c E k=true∧Sn.seatedB E k=true then 0 else 9
  else 9
 else 3

def Sn.rowC (c:Nat→Int) (E:Nat→Nat→Int):Nat→Int
 | 0=>0
 | n+1=>if Sn.rowC c E n=0 then Sn.entC c E n else Sn.rowC c E n

theorem Sn.rowC_stays {c:Nat→Int} {E:Nat→Nat→Int} {n:Nat} {v:Int} (h:Sn.rowC c E n=v) (hv:v≠0):∀m,n≤m→Sn.rowC c E m=v:=by
  intro m hm
  induction m with
  | zero => obtain rfl : n = 0 := by omega
            exact h
  | succ m ih =>
    by_cases e:n=m+1
    · rw [←e];exact h
    · have:=ih (by omega)
      unfold Sn.rowC
      rw [this,if_neg hv]

theorem Sn.rowC_zero {c:Nat→Int} {E:Nat→Nat→Int}:∀{n:Nat},(∀k,k<n→Sn.entC c E k=0)→Sn.rowC c E n=0
 | 0,_=>rfl
 | n+1,h=>by
  unfold Sn.rowC
  rw [Sn.rowC_zero (fun k hk=>h k (by omega)),if_pos rfl]
  exact h n (by omega)

def Sn.Chk (s g c:Nat→Int) (E I:Nat→Nat→Int) (v:Int):Prop :=
 if Sn.headB s g=true then
  if Sn.mx c 383≤5 then
   if Sn.cnt c 3 384=1∧Sn.cnt c 4 384=1 then
    if Sn.rowC c E 32=0 then (v=0∧Gd.Ok c 40 I)∨(v=9∧¬Gd.Ok c 40 I)
    else v=Sn.rowC c E 32
   else v=2
  else v=3
 else v=1

theorem Sn.Chk.one {s g c:Nat→Int} {E I:Nat→Nat→Int} {v u:Int} (h:Sn.Chk s g c E I v) (h':Sn.Chk s g c E I u):u=v:=by
 unfold Sn.Chk at h h'
 split at h
 ·rename_i h1
  rw [if_pos h1] at h'
  split at h
  ·rename_i h2
   rw [if_pos h2] at h'
   split at h
   ·rename_i h3
    rw [if_pos h3] at h'
    split at h
    ·rename_i h4
     rw [if_pos h4] at h'
     rcases h with ⟨rfl,a⟩ | ⟨rfl,a⟩ <;> rcases h' with ⟨rfl,b⟩ | ⟨rfl,b⟩
     ·rfl
     ·exact absurd a b
     ·exact absurd b a
     ·rfl
    ·rename_i h4
     rw [if_neg h4] at h'
     rw [h,h']
   ·rename_i h3
    rw [if_neg h3] at h'
    rw [h,h']
  ·rename_i h2
   rw [if_neg h2] at h'
   rw [h,h']
 ·rename_i h1
  rw [if_neg h1] at h'
  rw [h,h']


open Go.RowKit

theorem Sn.born (x:World) (e:Nat→Int) (T:TypeId):Lie (x.alloc (.cells (En.cells e) T)) x.heap.size T 11 (Ints e) :=
 Lie.congr (m:=11) (Arr.lit (heap_alloc_new x (.cells (En.cells e) T))).lie fun j hj=>by
  rcases (show j=0∨j=1∨j=2∨j=3∨j=4∨j=5∨j=6∨j=7∨j=8∨j=9∨j=10 by omega) with rfl | rfl | rfl | rfl | rfl | rfl | rfl | rfl | rfl | rfl | rfl <;> rfl

theorem Sn.row {x:World} {D:Nat} {T:TypeId} {e:Nat→Int} (h:Lie x D T 11 (Ints e)) :
  x.cell? ⟨D,0,none⟩=some (.int .i64 (e 0))∧x.cell? ⟨D,1,none⟩=some (.int .i64 (e 1))∧x.cell? ⟨D,2,none⟩=some (.int .i64 (e 2))∧x.cell? ⟨D,3,none⟩=some (.int .i64 (e 3))∧x.cell? ⟨D,4,none⟩=some (.int .i64 (e 4))∧x.cell? ⟨D,5,none⟩=some (.int .i64 (e 5))∧x.cell? ⟨D,6,none⟩=some (.int .i64 (e 6))∧x.cell? ⟨D,7,none⟩=some (.int .i64 (e 7))∧x.cell? ⟨D,8,none⟩=some (.int .i64 (e 8))∧x.cell? ⟨D,9,none⟩=some (.int .i64 (e 9))∧x.cell? ⟨D,10,none⟩=some (.int .i64 (e 10)) :=
 ⟨h.cell (c:=0) (by omega),h.cell (c:=1) (by omega),h.cell (c:=2) (by omega),h.cell (c:=3) (by omega),h.cell (c:=4) (by omega),h.cell (c:=5) (by omega),h.cell (c:=6) (by omega),h.cell (c:=7) (by omega),h.cell (c:=8) (by omega),h.cell (c:=9) (by omega),h.cell (c:=10) (by omega)⟩

def Sn.inB (n a b:Int):Bool:=decide (a≤n∧n≤b)

set_option maxHeartbeats 400000 in
theorem snWithin_any (n a b:Int) (w:World):Calls Tryz.prog 59 #[.int .i64 n,.int .i64 a,.int .i64 b] w fun e w'=>e=.returned (.bool (Sn.inB n a b))∧w'=w:=by
 by_cases h1:a≤n
 ·have h1':n≥a:=h1
  by_cases h2:n≤b
  ·have hd:Hid (Sn.inB n a b=true):=by show Sn.inB n a b=true;unfold Sn.inB;rw [decide_eq_true_eq];exact ⟨h1,h2⟩
   clear h1
   go_enter Tryz.func59,Tryz.ntmps59
   go_wp2
   go_ret
   exact ⟨ret_bool (uh hd).symm,rfl⟩
  ·have hd:Hid (Sn.inB n a b=false):=by show Sn.inB n a b=false;unfold Sn.inB;rw [decide_eq_false_iff_not];exact fun h=>h2 h.2
   clear h1
   go_enter Tryz.func59,Tryz.ntmps59
   go_wp2
   go_ret
   exact ⟨ret_bool (uh hd).symm,rfl⟩
 ·have h1':¬n≥a:=h1
  have hd:Hid (Sn.inB n a b=false):=by show Sn.inB n a b=false;unfold Sn.inB;rw [decide_eq_false_iff_not];exact fun h=>h1 h.1
  clear h1
  go_enter Tryz.func59,Tryz.ntmps59
  go_wp2
  go_ret
  exact ⟨ret_bool (uh hd).symm,rfl⟩

set_option maxRecDepth 8000 in
set_option maxHeartbeats 800000 in
theorem snCount_any (G cap:Nat) (c:Nat→Int) (kind:Int) (w:World) (hC:Lie w G 5 384 (Byts c)) :
  Calls Tryz.prog 27 #[.slice (some ⟨G,0,none⟩) 384 cap,.int .u8 kind] w fun e w'=>e=.returned (.int .i64 (Sn.cnt c kind 384))∧w'=w:=by
 have hC':=hide hC
 clear hC
 go_enter Tryz.func27,Tryz.ntmps27
 go_wp2_with fail
 go_loop [5,10] (fun v5 v10=>∃i:Nat,i≤384∧v5=.int .i64 (Sn.cnt c kind i)∧v10=.int .i64 (i:Int)) (fun _ v10=>400 - (intOf v10).toNat)
 case atStart=>exact ⟨0,by omega,rfl,rfl⟩
 case round =>
  obtain ⟨i,hi,rfl,rfl⟩:=hrel
  by_cases hlt:i<384
  ·have hlt':(i:Int)<384:=by omega
   have HL:=hide hlt
   have u0:w.cell? ⟨G,i,none⟩=some (.int .u8 (c i)):=(uh hC').cell hlt
   have hb:=Sn.cnt_bound c kind i
   obtain ⟨X,hX⟩:∃X,Sn.cnt c kind i=X:=⟨_,rfl⟩
   have hn:Hid (Sn.cnt c kind (i+1)=X+if c i=kind then 1 else 0):=by
    show Sn.cnt c kind (i+1)=_
    rw [←hX]
    rfl
   rw [hX] at hb ⊢
   clear hlt hi hX
   by_cases k3:c i=kind
   ·have k3':(c i == kind)=true:=by simp [k3]
    rw [if_pos k3] at hn
    clear k3
    go_wp2
    go_round
    case rel=>exact ⟨i+1,by have:=uh HL;omega,by rw [uh hn],by go_num⟩
    case measure=>simp [intOf];have:=uh HL;omega
   ·have k3':(c i == kind)=false:=by simp [k3]
    rw [if_neg k3] at hn
    clear k3
    go_wp2
    go_round
    case rel=>exact ⟨i+1,by have:=uh HL;omega,by rw [uh hn];simp,by go_num⟩
    case measure=>simp [intOf];have:=uh HL;omega
  ·obtain rfl:i=384:=by omega
   have hge:¬((384:Nat):Int)<384:=by omega
   clear hlt hi
   obtain ⟨X,hX⟩:∃X,Sn.cnt c kind 384=X:=⟨_,rfl⟩
   rw [hX]
   have hX':=hide hX
   clear hX
   go_wp2
   go_ret
   exact ⟨rti (uh hX').symm,rfl⟩

set_option maxRecDepth 8000 in
set_option maxHeartbeats 800000 in
theorem snMax_any (G cap:Nat) (c:Nat→Int) (w:World) (hC:Lie w G 5 384 (Byts c)) :
  Calls Tryz.prog 26 #[.slice (some ⟨G,0,none⟩) 384 cap] w fun e w'=>e=.returned (.int .u8 (Sn.mx c 383))∧w'=w:=by
 have hC':=hide hC
 have u0:w.cell? ⟨G,0,none⟩=some (.int .u8 (c 0)):=hC.cell (by omega)
 clear hC
 go_enter Tryz.func26,Tryz.ntmps26
 go_wp2_with fail
 go_loop [3,4] (fun v3 v4=>∃i:Nat,1≤i∧i≤384∧v3=.int .u8 (Sn.mx c (i - 1))∧v4=.int .i64 (i:Int)) (fun _ v4=>400 - (intOf v4).toNat)
 case atStart=>exact ⟨1,by omega,by omega,rfl,rfl⟩
 case round =>
  obtain ⟨i,h1,hi,rfl,rfl⟩:=hrel
  by_cases hlt:i<384
  ·have hlt':(i:Int)<384:=by omega
   have HL:=hide hlt
   have u0:w.cell? ⟨G,i,none⟩=some (.int .u8 (c i)):=(uh hC').cell hlt
   obtain ⟨X,hX⟩:∃X,Sn.mx c (i - 1)=X:=⟨_,rfl⟩
   have hn:Hid (Sn.mx c (i+1 - 1)=max X (c i)):=by
    show Sn.mx c (i+1 - 1)=_
    rw [←hX,show i+1 - 1=(i - 1)+1 by omega]
    show max _ (c (i - 1+1))=_
    rw [show i - 1+1=i by omega]
   rw [hX]
   clear hlt hi hX
   have hm:(if X<c i then c i else X)=max X (c i):=by split <;> omega
   rw [←hm] at hn
   clear hm
   go_wp2
   go_round
   case rel=>exact ⟨i+1,by omega,by have:=uh HL;omega,by rw [uh hn],by go_num⟩
   case measure=>simp [intOf];have:=uh HL;omega
  ·have hge:¬(i:Int)<384:=by omega
   have hie:i=384:=by omega
   obtain ⟨X,hX⟩:∃X,Sn.mx c (i - 1)=X:=⟨_,rfl⟩
   have hX':Hid (Sn.mx c 383=X):=by
    rw [←hX,hie]
    exact rfl
   clear hlt hi h1 hie
   rw [hX]
   clear hX
   go_wp2
   go_ret
   exact ⟨rti (uh hX').symm,rfl⟩

theorem run_index_gold (g:Nat→Int) (t:Nat) (ht:t<4) (w:World):(Instr.index 29 (.agg #[.int .i64 (g 0),.int .i64 (g 1),.int .i64 (g 2),.int .i64 (g 3)]) (.int .i64 (t:Int))).run Tryz.prog w=.ok (.int .i64 (g t)) w:=by
 rcases (show t=0∨t=1∨t=2∨t=3 by omega) with rfl | rfl | rfl | rfl <;> kernel_rfl

set_option maxRecDepth 8000 in
set_option maxHeartbeats 1600000 in
theorem headFits_any (s g:Nat→Int) (nC nE nI cC cE cI:Nat) (aC aE aI:Option Addr) (w:World) :
  Calls Tryz.prog 25 #[.agg #[.int .i64 (s 0),.int .i64 (s 1),.int .i64 (s 2),.int .i64 (s 3),.slice aC nC cC,.slice aE nE cE,.slice aI nI cI,.int .i64 (g 0),.int .i64 (g 1),.int .i64 (g 2),.int .i64 (g 3)]] w (Says w (.bool (Sn.headB s g))):=by
 obtain ⟨w0,hw0⟩:∃w0,w0=w.alloc (.cells #[.int .i64 (s 0),.int .i64 (s 1),.int .i64 (s 2),.int .i64 (s 3),.slice aC nC cC,.slice aE nE cE,.slice aI nI cI,.int .i64 (g 0),.int .i64 (g 1),.int .i64 (g 2),.int .i64 (g 3)] 31):=⟨_,rfl⟩
 have hg0:w.grownBy w0 none:=by rw [hw0];exact World.grownBy_alloc _ _ _
 have hB:=(Arr.lit (heap_alloc_new w (.cells #[.int .i64 (s 0),.int .i64 (s 1),.int .i64 (s 2),.int .i64 (s 3),.slice aC nC cC,.slice aE nE cE,.slice aI nI cI,.int .i64 (g 0),.int .i64 (g 1),.int .i64 (g 2),.int .i64 (g 3)] 31))).lie
 rw [←hw0] at hB
 have hgr:=hide hg0
 clear hg0
 go_enter Tryz.func25,Tryz.ntmps25
 go_upto_region 1 with fail
 rw [←hw0]
 clear hw0
 obtain ⟨B,hBe⟩:∃B,w.heap.size=B:=⟨_,rfl⟩
 rw [hBe] at hB ⊢
 clear hBe
 have b1:w0.cell? ⟨B,1,none⟩=some (.int .i64 (s 1)):=hB.cell (c:=1) (by simp)
 have b2:w0.cell? ⟨B,2,none⟩=some (.int .i64 (s 2)):=hB.cell (c:=2) (by simp)
 have b3:w0.cell? ⟨B,3,none⟩=some (.int .i64 (s 3)):=hB.cell (c:=3) (by simp)
 have b7:w0.cell? ⟨B,7,none⟩=some (.int .i64 (g 0)):=hB.cell (c:=7) (by simp)
 have b8:w0.cell? ⟨B,8,none⟩=some (.int .i64 (g 1)):=hB.cell (c:=8) (by simp)
 have b9:w0.cell? ⟨B,9,none⟩=some (.int .i64 (g 2)):=hB.cell (c:=9) (by simp)
 have b10:w0.cell? ⟨B,10,none⟩=some (.int .i64 (g 3)):=hB.cell (c:=10) (by simp)
 clear hB
 go_wp2_with fail
 go_loop [7] (fun v7=>∃t:Nat,t≤4∧v7=.int .i64 (t:Int)∧Hid (∀j,j<t→Sn.goldB g j=true)) (fun v7=>10 - (intOf v7).toNat)
 case atStart=>exact ⟨0,by omega,rfl,fun j hj=>absurd hj (by omega)⟩
 case round =>
  obtain ⟨t,ht,rfl,hall⟩:=hrel
  by_cases hlt:t<4
  ·have hlt':(t:Int)<4:=by omega
   have HL:=hide hlt
   have hix:=fun x=>run_index_gold g t hlt x
   have cw:=hide (fun x=>snWithin_any (g t) 0 999 x)
   have hq:Hid (Sn.goldB g t=Sn.inB (g t) 0 999):=rfl
   obtain ⟨q,hqe⟩:∃q,Sn.inB (g t) 0 999=q:=⟨_,rfl⟩
   rw [hqe] at cw hq
   clear hlt ht hqe
   go_wp2_with fail
   refine (uh cw _).mono ?_
   rintro e w1 ⟨rfl,rfl⟩
   cases q with
   | true =>
    go_wp2
    go_round
    case rel=>exact ⟨t+1,by have:=uh HL;omega,by go_num,fun j hj=>by
     by_cases e:j=t
     ·rw [e];exact uh hq
     ·exact uh hall j (by omega)⟩
    case measure=>simp [intOf];have:=uh HL;omega
   | false =>
    have hno:Hid (Sn.headB s g=false):=by
     show Sn.headB s g=false
     unfold Sn.headB
     rw [Sn.goldsB_no (uh hq) (uh HL),Bool.false_and]
    go_wp2
    go_ret
    exact ⟨ret_bool (uh hno).symm,uh hgr⟩
  ·obtain rfl:t=4:=by omega
   have hge:¬((4:Nat):Int)<4:=by omega
   have c1:=hide (fun x=>snWithin_any (s 1) 0 1073741823 x)
   have c2:=hide (fun x=>snWithin_any (s 2) 1 3 x)
   have c3:=hide (fun x=>snWithin_any (s 3) 0 2 x)
   have hd:Hid (Sn.headB s g=(Sn.inB (s 1) 0 1073741823 && (Sn.inB (s 2) 1 3 && Sn.inB (s 3) 0 2))):=by
    show Sn.headB s g=_
    unfold Sn.headB Sn.numB Sn.inB
    rw [Sn.goldsB_of (uh hall),Bool.true_and,←Bool.decide_and,←Bool.decide_and,decide_eq_decide]
    omega
   obtain ⟨q1,e1⟩:∃q,Sn.inB (s 1) 0 1073741823=q:=⟨_,rfl⟩
   obtain ⟨q2,e2⟩:∃q,Sn.inB (s 2) 1 3=q:=⟨_,rfl⟩
   obtain ⟨q3,e3⟩:∃q,Sn.inB (s 3) 0 2=q:=⟨_,rfl⟩
   rw [e1] at c1 hd
   rw [e2] at c2 hd
   rw [e3] at c3 hd
   clear hlt ht hall e1 e2 e3
   go_wp2_with fail
   refine (uh c1 _).mono ?_
   rintro e w1 ⟨rfl,rfl⟩
   cases q1 with
   | false =>
    go_wp2
    go_ret
    exact ⟨ret_bool (uh hd).symm,uh hgr⟩
   | true =>
    go_wp2_with fail
    refine (uh c2 _).mono ?_
    rintro e w1 ⟨rfl,rfl⟩
    cases q2 with
    | false =>
     go_wp2
     go_ret
     exact ⟨ret_bool (uh hd).symm,uh hgr⟩
    | true =>
     go_wp2_with fail
     refine (uh c3 _).mono ?_
     rintro e w1 ⟨rfl,rfl⟩
     go_wp2
     go_ret
     exact ⟨ret_bool (by rw [uh hd];rfl),uh hgr⟩


open Go.RowKit

set_option maxRecDepth 8000 in
set_option maxHeartbeats 3200000 in
theorem isSound_any (e:Nat→Int) (w:World):Calls Tryz.prog 60 #[.agg (En.cells e)] w (Says w (.bool (Sn.soundB e))):=by
 obtain ⟨w0,hw0⟩:∃w0,w0=w.alloc (.cells (En.cells e) 61):=⟨_,rfl⟩
 have hg0:Hid (w.grownBy w0 none):=by show w.grownBy w0 none;rw [hw0];exact World.grownBy_alloc _ _ _
 have hD:Hid (Lie w0 w.heap.size 61 11 (Ints e)):=by show Lie w0 _ _ _ _;rw [hw0];exact Sn.born w e 61
 obtain ⟨st,hst⟩:∃st,En.stats (e 0)=st:=⟨_,rfl⟩
 have cst:=hide (fun x=>entStats_any (e 0) x)
 rw [hst] at cst
 have hd:Hid (Sn.soundB e=((e 6 == st 6) && ((e 7 == st 7) && ((e 8 == st 8) && (Sn.inB (e 5) 1 (e 6) && (Sn.inB (e 9) 0 9 && Sn.inB (e 10) 0 9)))))):=by
  show Sn.soundB e=_
  unfold Sn.soundB Sn.inB
  rw [hst,Bool.eq_iff_iff]
  simp only [decide_eq_true_eq,Bool.and_eq_true,beq_iff_eq]
  omega
 obtain ⟨k1,h1⟩:∃k,(e 6 == st 6)=k:=⟨_,rfl⟩
 obtain ⟨k2,h2⟩:∃k,(e 7 == st 7)=k:=⟨_,rfl⟩
 obtain ⟨k3,h3⟩:∃k,(e 8 == st 8)=k:=⟨_,rfl⟩
 have c4:=hide (fun x=>snWithin_any (e 5) 1 (e 6) x)
 have c5:=hide (fun x=>snWithin_any (e 9) 0 9 x)
 have c6:=hide (fun x=>snWithin_any (e 10) 0 9 x)
 obtain ⟨k4,h4⟩:∃k,Sn.inB (e 5) 1 (e 6)=k:=⟨_,rfl⟩
 obtain ⟨k5,h5⟩:∃k,Sn.inB (e 9) 0 9=k:=⟨_,rfl⟩
 obtain ⟨k6,h6⟩:∃k,Sn.inB (e 10) 0 9=k:=⟨_,rfl⟩
 rw [h1,h2,h3,h4,h5,h6] at hd
 rw [h4] at c4
 rw [h5] at c5
 rw [h6] at c6
 clear hst h4 h5 h6
 unfold En.cells at hw0 cst ⊢
 go_enter Tryz.func60,Tryz.ntmps60
 go_upto_region 1 with fail
 rw [←hw0]
 clear hw0
 obtain ⟨B,hBe⟩:∃B,w.heap.size=B:=⟨_,rfl⟩
 rw [hBe] at hD ⊢
 clear hBe
 have d0:=(Sn.row (uh hD)).1
 go_wp2_with fail
 refine (uh cst _).mono ?_
 rintro _ w2 ⟨rfl,hg2⟩
 have hF:=hide (Sn.born w2 st 61)
 have hgB:=hide (gtr hg2 (World.grownBy_alloc w2 (.cells (En.cells st) 61) none))
 have hD2:=hide ((uh hD).on (uh hgB))
 have hg3:=hide (gtr (uh hg0) (uh hgB))
 clear hg2 hgB cst d0 hD hg0
 unfold En.cells at hF hD2 hg3
 go_upto_region 2 with fail
 obtain ⟨F,hFe⟩:∃F,w2.heap.size=F:=⟨_,rfl⟩
 rw [hFe] at hF ⊢
 generalize w2.alloc (.cells #[.int .i64 (st 0),.int .i64 (st 1),.int .i64 (st 2),.int .i64 (st 3),.int .i64 (st 4),.int .i64 (st 5),.int .i64 (st 6),.int .i64 (st 7),.int .i64 (st 8),.int .i64 (st 9),.int .i64 (st 10)] 61)=w3 at hF hD2 hg3 ⊢
 clear hFe w2
 obtain ⟨-,-,-,-,-,d5,d6,d7,d8,d9,d10⟩:=Sn.row (uh hD2)
 obtain ⟨-,-,-,-,-,-,z6,z7,z8,-,-⟩:=Sn.row (uh hF)
 clear hF hD2
 cases k1 with
 | false=>go_wp2;go_ret;exact ⟨ret_bool (uh hd).symm,uh hg3⟩
 | true =>
 cases k2 with
 | false=>go_wp2;go_ret;exact ⟨ret_bool (uh hd).symm,uh hg3⟩
 | true =>
 cases k3 with
 | false=>go_wp2;go_ret;exact ⟨ret_bool (uh hd).symm,uh hg3⟩
 | true =>
 go_wp2_with fail
 refine (uh c4 _).mono ?_
 rintro _ w4 ⟨rfl,rfl⟩
 cases k4 with
 | false=>go_wp2;go_ret;exact ⟨ret_bool (uh hd).symm,uh hg3⟩
 | true =>
 go_wp2_with fail
 refine (uh c5 _).mono ?_
 rintro _ w4 ⟨rfl,rfl⟩
 cases k5 with
 | false=>go_wp2;go_ret;exact ⟨ret_bool (uh hd).symm,uh hg3⟩
 | true =>
 go_wp2_with fail
 refine (uh c6 _).mono ?_
 rintro _ w4 ⟨rfl,rfl⟩
 go_wp2
 go_ret
 exact ⟨ret_bool (by rw [uh hd];rfl),uh hg3⟩

theorem Sn.first_row {q:Nat→Bool} {k n:Nat} (hk:k<n) (hq:q k=true):(En.first q n=(k:Int)↔En.first q k=-1):=by
 constructor
 ·intro h
  refine En.first_none fun j hj=>?_
  rcases En.first_cases q n with ⟨h1,_⟩ | ⟨m,_,h1,_,hno⟩
  ·omega
  ·have:m=k:=by omega
   subst this
   exact hno j hj
 ·intro h
  refine En.first_hit (fun j hj=>?_) hq hk
  rcases En.first_cases q k with ⟨_,hno⟩ | ⟨m,_,h1,_,_⟩
  ·exact hno j hj
  ·omega

set_option maxRecDepth 8000 in
set_option maxHeartbeats 3200000 in
theorem standsAlone_any (s g c:Nat→Int) (E I:Nat→Nat→Int) (gC gE gI cC cE cI k:Nat) (w:World) (hL:Gd.Lists w gC gE gI c E I) (hc:∀i,0≤c i∧c i≤255) (hcE:32≤cE) (hk:k<32) (h0:E k 0≠0) :
  Calls Tryz.prog 61 #[.agg (Gd.world s gC gE gI cC cE cI g),.int .i64 (k:Int)] w (Says w (.bool (Sn.aloneB c E k))):=by
 obtain ⟨w0,hw0⟩:∃w0,w0=w.alloc (.cells (Gd.world s gC gE gI cC cE cI g) 31):=⟨_,rfl⟩
 have hg0:w.grownBy w0 none:=by rw [hw0];exact World.grownBy_alloc _ _ _
 have hB:Hid (Lie w0 w.heap.size 31 11 (Gd.box s gC gE gI cC cE cI g)):=by show Lie w0 _ _ _ _;rw [hw0];exact (Arr.world (heap_alloc_new w _)).lie
 have hL0:=hide (hL.on hg0)
 have hgr:=hide hg0
 have HK:=hide hk
 have hk':(k:Int)<32:=by omega
 have ca:=hide (fun z (hz:Gd.Lists z gC gE gI c E I)=>at_any z.heap.size (some ⟨gC,0,none⟩) 384 cC c (E k 3) (E k 4) z hz.vec hc)
 have ck:=hide (fun x=>walk_any (Gr.at 384 c (E k 3) (E k 4)) x)
 have ce:=hide (fun z (hz:Gd.Lists z gC gE gI c E I)=>entAt_any gE 32 cE E (E k 3) (E k 4) z hz.own.ents hcE)
 have hd:Hid (Sn.aloneB c E k=(Gr.walkB (Gr.at 384 c (E k 3) (E k 4)) && (En.first (En.atQ E (E k 3) (E k 4)) 32 == (k:Int)))):=by
  show Sn.aloneB c E k=_
  unfold Sn.aloneB
  have hq:En.atQ E (E k 3) (E k 4) k=true:=by simp [En.atQ,h0]
  rw [Bool.eq_iff_iff]
  simp only [Bool.and_eq_true,decide_eq_true_eq,beq_iff_eq]
  rw [Sn.first_row hk hq]
 obtain ⟨a,ha⟩:∃a,Gr.at 384 c (E k 3) (E k 4)=a:=⟨_,rfl⟩
 rw [ha] at ca ck hd
 obtain ⟨q,hq⟩:∃q,Gr.walkB a=q:=⟨_,rfl⟩
 rw [hq] at ck hd
 obtain ⟨f,hf⟩:∃f,En.first (En.atQ E (E k 3) (E k 4)) 32=f:=⟨_,rfl⟩
 rw [hf] at ce hd
 obtain ⟨p,hp⟩:∃p,(f == (k:Int))=p:=⟨_,rfl⟩
 rw [hp] at hd
 clear hL hc hcE hk h0 hg0 ha hq hf
 unfold Gd.world at hw0 ⊢
 go_enter Tryz.func61,Tryz.ntmps61
 go_upto_region 1 with fail
 rw [←hw0]
 clear hw0
 obtain ⟨B,hBe⟩:∃B,w.heap.size=B:=⟨_,rfl⟩
 rw [hBe] at hB ⊢
 clear hBe
 have b5:=(uh hB).eleven.2.2.2.2.2.1
 obtain ⟨r0,r1,r2,r3,r4,r5,r6,r7,r8,r9,r10⟩:=(uh hL0).own.ents.row (uh HK)
 obtain ⟨w1,hw1⟩:∃w1,w1=w0.alloc (.cells (En.cells (E k)) 61):=⟨_,rfl⟩
 have hgA:w0.grownBy w1 none:=by rw [hw1];exact World.grownBy_alloc _ _ _
 have hD:Hid (Lie w1 w0.heap.size 61 11 (Ints (E k))):=by show Lie w1 _ _ _ _;rw [hw1];exact Sn.born w0 (E k) 61
 have hL1:=hide ((uh hL0).on hgA)
 have hB1:=hide ((uh hB).on hgA)
 have hg1:=hide (gtr (uh hgr) hgA)
 clear hgA hB hL0 hgr
 unfold En.cells at hw1
 go_upto_region 2 with fail
 rw [←hw1]
 clear hw1 b5 r0 r1 r2 r3 r4 r5 r6 r7 r8 r9 r10
 obtain ⟨D,hDe⟩:∃D,w0.heap.size=D:=⟨_,rfl⟩
 rw [hDe] at hD ⊢
 clear hDe w0
 have b4:=(uh hB1).eleven.2.2.2.2.1
 have b5:=(uh hB1).eleven.2.2.2.2.2.1
 obtain ⟨-,-,-,d3,d4,-,-,-,-,-,-⟩:=Sn.row (uh hD)
 go_wp2_with fail
 refine (uh ca _ (uh hL1)).mono ?_
 rintro _ w2 ⟨rfl,rfl⟩
 go_wp2_with fail
 refine (uh ck _).mono ?_
 rintro _ w2 ⟨rfl,rfl⟩
 cases q with
 | false=>go_wp2;go_ret;exact ⟨ret_bool (uh hd).symm,uh hg1⟩
 | true =>
  go_wp2_with fail
  refine (uh ce _ (uh hL1)).mono ?_
  rintro _ w2 ⟨rfl,hg2⟩
  have hgf:=hide (gtr (uh hg1) hg2)
  clear hg2 b4 b5 d3 d4 hL1 hB1 hD hg1
  go_wp2
  go_ret
  exact ⟨ret_bool (by rw [uh hd];rfl),uh hgf⟩

set_option maxRecDepth 8000 in
set_option maxHeartbeats 3200000 in
theorem isSeated_any (gE cE k:Nat) (E:Nat→Nat→Int) (w:World) (hE:Ents w gE 32 E) (hcE:32≤cE) (hk:k<32) :
  Calls Tryz.prog 62 #[.slice (some ⟨gE,0,none⟩) 32 cE,.int .i64 (k:Int)] w (Says w (.bool (Sn.seatedB E k))):=by
 have hk':(k:Int)<32:=by omega
 obtain ⟨r0,-,r2,-,-,-,-,-,-,-,-⟩:=hE.row hk
 have cw:=hide (fun x=>snWithin_any (E k 2) 0 3 x)
 have ch:=hide (hero_any gE 32 cE E (E k 2) w hE hcE)
 by_cases h1:E k 0=1
 ·have hd:Hid (Sn.seatedB E k=(Sn.inB (E k 2) 0 3 && (En.first (En.heroQ E (E k 2)) 32 == (k:Int)))):=by
   show Sn.seatedB E k=_
   unfold Sn.seatedB Sn.inB
   have hq:En.heroQ E (E k 2) k=true:=by simp [En.heroQ,h1]
   rw [if_pos h1,Bool.eq_iff_iff]
   simp only [Bool.and_eq_true,decide_eq_true_eq,beq_iff_eq]
   rw [Sn.first_row hk hq,and_assoc]
  obtain ⟨q,hq⟩:∃q,Sn.inB (E k 2) 0 3=q:=⟨_,rfl⟩
  rw [hq] at cw hd
  obtain ⟨f,hf⟩:∃f,En.first (En.heroQ E (E k 2)) 32=f:=⟨_,rfl⟩
  rw [hf] at ch hd
  obtain ⟨p,hp⟩:∃p,(f == (k:Int))=p:=⟨_,rfl⟩
  rw [hp] at hd
  rw [h1] at r0
  clear hE hcE hk h1 hq hf
  go_enter Tryz.func62,Tryz.ntmps62
  go_wp2_with fail
  refine (uh cw _).mono ?_
  rintro _ w2 ⟨rfl,rfl⟩
  cases q with
  | false=>go_wp2;go_ret;exact ⟨ret_bool (uh hd).symm,World.grownBy.refl _ _⟩
  | true =>
   go_wp2_with fail
   refine (uh ch).mono ?_
   rintro _ w2 ⟨rfl,hg2⟩
   have hgf:=hide hg2
   clear hg2 r0 r2
   go_wp2
   go_ret
   exact ⟨ret_bool (by rw [uh hd];rfl),uh hgf⟩
 ·have h1':(E k 0 != 1)=true:=by simp [h1]
  have hd:Hid (Sn.seatedB E k=(E k 2 == 0)):=by
   show Sn.seatedB E k=_
   unfold Sn.seatedB
   rw [if_neg h1,Bool.eq_iff_iff]
   simp only [decide_eq_true_eq,beq_iff_eq]
  obtain ⟨p,hp⟩:∃p,(E k 2 == 0)=p:=⟨_,rfl⟩
  rw [hp] at hd
  clear hE hcE hk h1 cw ch
  go_enter Tryz.func62,Tryz.ntmps62
  go_wp2
  go_ret
  exact ⟨ret_bool (uh hd).symm,World.grownBy.refl _ _⟩


open Go.RowKit

def Sn.bare (v:Int):Nat→Int
 | 1=>v
 | _=>0

def Sn.ansE (q0 q1 z p k1 k2 k3:Bool):Int:=bif q0 then bif q1 then bif z then (bif p then 0 else 9) else bif k1 && (k2 && k3) then 0 else 9 else 9 else 3

theorem Sn.entC_ans (c:Nat→Int) (E:Nat→Nat→Int) (k:Nat):Sn.entC c E k=Sn.ansE (Sn.inB (E k 0) 0 4) (Sn.inB (E k 1) 0 255) (decide (E k 0=0)) (Sn.sameE (E k) (Sn.bare (E k 1))) (Sn.soundB (E k)) (Sn.aloneB c E k) (Sn.seatedB E k):=by
 unfold Sn.entC Sn.ansE Sn.inB
 by_cases a0:0≤E k 0∧E k 0≤4
 ·rw [if_pos a0,decide_eq_true a0,cond_true]
  by_cases a1:0≤E k 1∧E k 1≤255
  ·rw [if_pos a1,decide_eq_true a1,cond_true]
   by_cases h0:E k 0=0
   ·rw [if_pos h0,decide_eq_true h0,cond_true]
    have e:(Sn.freeB (E k)=true↔Sn.sameE (E k) (Sn.bare (E k 1))=true):=by
     rw [Sn.sameE_iff]
     unfold Sn.freeB
     rw [decide_eq_true_eq]
     constructor
     ·rintro ⟨h2,h3,h4,h5,h6,h7,h8,h9,h10⟩ j hj
      rcases (show j=0∨j=1∨j=2∨j=3∨j=4∨j=5∨j=6∨j=7∨j=8∨j=9∨j=10 by omega) with rfl | rfl | rfl | rfl | rfl | rfl | rfl | rfl | rfl | rfl | rfl <;> first | assumption | rfl
     ·intro h
      exact ⟨h 2 (by omega),h 3 (by omega),h 4 (by omega),h 5 (by omega),h 6 (by omega),h 7 (by omega),h 8 (by omega),h 9 (by omega),h 10 (by omega)⟩
    by_cases q:Sn.freeB (E k)=true
    ·rw [if_pos q,e.1 q]
     rfl
    ·have q':Sn.sameE (E k) (Sn.bare (E k 1))=false:=by
      rw [←Bool.not_eq_true]
      exact fun h=>q (e.2 h)
     rw [if_neg q,q']
     rfl
   ·rw [if_neg h0,decide_eq_false h0,cond_false]
    by_cases q:Sn.soundB (E k)=true∧Sn.aloneB c E k=true∧Sn.seatedB E k=true
    ·rw [if_pos q,q.1,q.2.1,q.2.2]
     rfl
    ·rw [if_neg q]
     cases h1:Sn.soundB (E k) <;> cases h2:Sn.aloneB c E k <;> cases h3:Sn.seatedB E k <;> first | rfl | exact absurd ⟨h1,h2,h3⟩ q
  ·rw [if_neg a1,decide_eq_false a1,cond_false]
 ·rw [if_neg a0,decide_eq_false a0,cond_false]

set_option maxRecDepth 8000 in
set_option maxHeartbeats 6400000 in
theorem checkEnt_any (s g c:Nat→Int) (E I:Nat→Nat→Int) (gC gE gI cC cE cI k:Nat) (w:World) (hL:Gd.Lists w gC gE gI c E I) (hc:∀i,0≤c i∧c i≤255) (hcE:32≤cE) (hk:k<32) :
  Calls Tryz.prog 28 #[.agg (Gd.world s gC gE gI cC cE cI g),.int .i64 (k:Int)] w (Says w (.int .i64 (Sn.entC c E k))):=by
 obtain ⟨w0,hw0⟩:∃w0,w0=w.alloc (.cells (Gd.world s gC gE gI cC cE cI g) 31):=⟨_,rfl⟩
 have hg0:w.grownBy w0 none:=by rw [hw0];exact World.grownBy_alloc _ _ _
 have hB:Hid (Lie w0 w.heap.size 31 11 (Gd.box s gC gE gI cC cE cI g)):=by show Lie w0 _ _ _ _;rw [hw0];exact (Arr.world (heap_alloc_new w _)).lie
 have hL0:=hide (hL.on hg0)
 have hgr:=hide hg0
 have HK:=hide hk
 have HCE:=hide hcE
 have hk':(k:Int)<32:=by omega
 have c0:=hide (fun x=>snWithin_any (E k 0) 0 4 x)
 have c1:=hide (fun x=>snWithin_any (E k 1) 0 255 x)
 have cs:=hide (fun x=>isSound_any (E k) x)
 have ca:=hide (fun z (hz:Gd.Lists z gC gE gI c E I) (h0:E k 0≠0)=>standsAlone_any s g c E I gC gE gI cC cE cI k z hz hc hcE hk h0)
 have ct:=hide (fun z (hz:Gd.Lists z gC gE gI c E I)=>isSeated_any gE cE k E z hz.own.ents hcE hk)
 have hd:=hide (Sn.entC_ans c E k)
 obtain ⟨z,hz'⟩:∃z,decide (E k 0=0)=z:=⟨_,rfl⟩
 rw [hz'] at hd
 have hz:Hid (decide (E k 0=0)=z):=hz'
 clear hz'
 have hcmp:=fun wx=>run_ne_ent (E k) (Sn.bare (E k 1)) wx
 obtain ⟨p,hp⟩:∃p,Sn.sameE (E k) (Sn.bare (E k 1))=p:=⟨_,rfl⟩
 rw [hp] at hd
 have hcmp':∀wx:World,(binOp .neq 61 (.agg #[.int .i64 (E k 0),.int .i64 (E k 1),.int .i64 (E k 2),.int .i64 (E k 3),.int .i64 (E k 4),.int .i64 (E k 5),.int .i64 (E k 6),.int .i64 (E k 7),.int .i64 (E k 8),.int .i64 (E k 9),.int .i64 (E k 10)]) (.agg #[.int .i64 0,.int .i64 (E k 1),.int .i64 0,.int .i64 0,.int .i64 0,.int .i64 0,.int .i64 0,.int .i64 0,.int .i64 0,.int .i64 0,.int .i64 0])).run Tryz.prog wx=.ok (.bool (!p)) wx:=fun wx=>by
  rw [←hp]
  exact hcmp wx
 obtain ⟨q0,e0⟩:∃q,Sn.inB (E k 0) 0 4=q:=⟨_,rfl⟩
 obtain ⟨q1,e1⟩:∃q,Sn.inB (E k 1) 0 255=q:=⟨_,rfl⟩
 rw [e0] at c0 hd
 rw [e1] at c1 hd
 obtain ⟨k1,f1⟩:∃q,Sn.soundB (E k)=q:=⟨_,rfl⟩
 obtain ⟨k2,f2⟩:∃q,Sn.aloneB c E k=q:=⟨_,rfl⟩
 obtain ⟨k3,f3⟩:∃q,Sn.seatedB E k=q:=⟨_,rfl⟩
 rw [f1] at cs hd
 rw [f2] at ca hd
 rw [f3] at ct hd
 obtain ⟨A,hA⟩:∃A,Sn.entC c E k=A:=⟨_,rfl⟩
 rw [hA] at hd ⊢
 clear hL hc hcE hk hg0 hcmp hp e0 e1 f1 f2 f3 hA
 unfold Gd.world at hw0 ca ⊢
 unfold En.cells at cs
 go_enter Tryz.func28,Tryz.ntmps28
 go_upto_region 1 with fail
 rw [←hw0]
 clear hw0
 obtain ⟨B,hBe⟩:∃B,w.heap.size=B:=⟨_,rfl⟩
 rw [hBe] at hB ⊢
 clear hBe
 have b5:=(uh hB).eleven.2.2.2.2.2.1
 obtain ⟨r0,r1,r2,r3,r4,r5,r6,r7,r8,r9,r10⟩:=(uh hL0).own.ents.row (uh HK)
 obtain ⟨w1,hw1⟩:∃w1,w1=w0.alloc (.cells (En.cells (E k)) 61):=⟨_,rfl⟩
 have hgA:w0.grownBy w1 none:=by rw [hw1];exact World.grownBy_alloc _ _ _
 have hD:Hid (Lie w1 w0.heap.size 61 11 (Ints (E k))):=by show Lie w1 _ _ _ _;rw [hw1];exact Sn.born w0 (E k) 61
 have hL1:=hide ((uh hL0).on hgA)
 have hB1:=hide ((uh hB).on hgA)
 have hg1:=hide (gtr (uh hgr) hgA)
 clear hgA hB hL0 hgr
 unfold En.cells at hw1
 go_upto_region 2 with fail
 rw [←hw1]
 clear hw1 b5 r0 r1 r2 r3 r4 r5 r6 r7 r8 r9 r10
 obtain ⟨D,hDe⟩:∃D,w0.heap.size=D:=⟨_,rfl⟩
 rw [hDe] at hD ⊢
 clear hDe w0
 obtain ⟨d0,d1,d2,d3,d4,d5,d6,d7,d8,d9,d10⟩:=Sn.row (uh hD)
 go_wp2_with fail
 refine (uh c0 _).mono ?_
 rintro _ w2 ⟨rfl,rfl⟩
 cases q0 with
 | false=>go_wp2;go_ret;exact ⟨rti (uh hd).symm,uh hg1⟩
 | true =>
 go_wp2_with fail
 refine (uh c1 _).mono ?_
 rintro _ w2 ⟨rfl,rfl⟩
 cases q1 with
 | false=>go_wp2;go_ret;exact ⟨rti (uh hd).symm,uh hg1⟩
 | true =>
 cases z with
 | true =>
  have h0:E k 0=0:=of_decide_eq_true (uh hz)
  have h0':(E k 0 == 0)=true:=by simp [h0]
  have h0'':(E k 0 != 0)=false:=by simp [h0]
  clear h0 hz
  cases p with
  | false=>go_wp2;go_ret;exact ⟨rti (uh hd).symm,uh hg1⟩
  | true=>go_wp2;go_ret;exact ⟨rti (uh hd).symm,uh hg1⟩
 | false =>
  have h0:¬E k 0=0:=of_decide_eq_false (uh hz)
  have h0':(E k 0 == 0)=false:=by simp [h0]
  have h0'':(E k 0 != 0)=true:=by simp [h0]
  have H0:=hide h0
  clear h0 hcmp' hz
  go_wp2_with fail
  refine (uh cs _).mono ?_
  rintro _ w2 ⟨rfl,hg2⟩
  have hL2:=hide ((uh hL1).on hg2)
  have hB2:=hide ((uh hB1).on hg2)
  have hD2:=hide ((uh hD).on hg2)
  have hg3:=hide (gtr (uh hg1) hg2)
  clear hg2 hL1 hB1 hD hg1 d0 d1 d2 d3 d4 d5 d6 d7 d8 d9 d10
  cases k1 with
  | false=>go_wp2;go_ret;exact ⟨rti (uh hd).symm,uh hg3⟩
  | true =>
  obtain ⟨b0,b1,b2,b3,b4,b5,b6,b7,b8,b9,b10⟩:=(uh hB2).eleven
  go_wp2_with fail
  refine (uh ca _ (uh hL2) (uh H0)).mono ?_
  rintro _ w3 ⟨rfl,hg2⟩
  have hL3:=hide ((uh hL2).on hg2)
  have hB3:=hide ((uh hB2).on hg2)
  have hg4:=hide (gtr (uh hg3) hg2)
  clear hg2 hL2 hB2 hD2 hg3 b0 b1 b2 b3 b4 b5 b6 b7 b8 b9 b10
  cases k2 with
  | false=>go_wp2;go_ret;exact ⟨rti (uh hd).symm,uh hg4⟩
  | true =>
  have b5:=(uh hB3).eleven.2.2.2.2.2.1
  go_wp2_with fail
  refine (uh ct _ (uh hL3)).mono ?_
  rintro _ w4 ⟨rfl,hg2⟩
  have hg5:=hide (gtr (uh hg4) hg2)
  clear hg2 hL3 hB3 hg4 b5
  cases k3 with
  | false=>go_wp2;go_ret;exact ⟨rti (uh hd).symm,uh hg5⟩
  | true=>go_wp2;go_ret;exact ⟨rti (uh hd).symm,uh hg5⟩

structure Sn.Shown (w x:World) (B gC gE gI cC cE cI:Nat) (s g c:Nat→Int) (E I:Nat→Nat→Int):Prop where
 box:Lie x B 31 11 (Gd.box s gC gE gI cC cE cI g)
 lists:Gd.Lists x gC gE gI c E I
 grown:w.grownBy x none

theorem Sn.Shown.on {w x y:World} {B gC gE gI cC cE cI:Nat} {s g c:Nat→Int} {E I:Nat→Nat→Int} (h:Sn.Shown w x B gC gE gI cC cE cI s g c E I) (hg:x.grownBy y none):Sn.Shown w y B gC gE gI cC cE cI s g c E I :=
 ⟨h.box.on hg,h.lists.on hg,gtr h.grown hg⟩

def Sn.ChkBy (q:Bool) (m n3 n4:Int) (c:Nat→Int) (E I:Nat→Nat→Int) (v:Int):Prop :=
 if q=true then if m≤5 then if n3=1∧n4=1 then if Sn.rowC c E 32=0 then (v=0∧Gd.Ok c 40 I)∨(v=9∧¬Gd.Ok c 40 I) else v=Sn.rowC c E 32 else v=2 else v=3 else v=1

def Sn.ChkRows (c:Nat→Int) (E I:Nat→Nat→Int) (v:Int):Prop :=
 if Sn.rowC c E 32=0 then (v=0∧Gd.Ok c 40 I)∨(v=9∧¬Gd.Ok c 40 I) else v=Sn.rowC c E 32

def Sn.Told (w:World) (s g c:Nat→Int) (E I:Nat→Nat→Int) (e:Ending) (w':World):Prop:=∃v,e=.returned (.int .i64 v)∧Sn.Chk s g c E I v∧w.grownBy w' none

set_option maxRecDepth 8000 in
set_option maxHeartbeats 6400000 in
theorem snCheck_any (s g c:Nat→Int) (E I:Nat→Nat→Int) (gC gE gI cC cE cI:Nat) (w:World) (hL:Gd.Lists w gC gE gI c E I) (hc:∀i,0≤c i∧c i≤255) (hcE:32≤cE) :
  Calls Tryz.prog 10 #[.agg (Gd.world s gC gE gI cC cE cI g)] w (Sn.Told w s g c E I):=by
 obtain ⟨w0,hw0⟩:∃w0,w0=w.alloc (.cells (Gd.world s gC gE gI cC cE cI g) 31):=⟨_,rfl⟩
 have hg0:w.grownBy w0 none:=by rw [hw0];exact World.grownBy_alloc _ _ _
 have hO:Hid (Sn.Shown w w0 w.heap.size gC gE gI cC cE cI s g c E I):=by
  refine ⟨?_,hL.on hg0,hg0⟩
  rw [hw0]
  exact (Arr.world (heap_alloc_new w _)).lie
 have ch:=hide (fun x=>headFits_any s g 384 32 40 cC cE cI (some ⟨gC,0,none⟩) (some ⟨gE,0,none⟩) (some ⟨gI,0,none⟩) x)
 have cm:=hide (fun x (hx:Gd.Lists x gC gE gI c E I)=>snMax_any gC cC c x hx.cells)
 have cn:=hide (fun x (hx:Gd.Lists x gC gE gI c E I) kd=>snCount_any gC cC c kd x hx.cells)
 have ce:=hide (fun x (hx:Gd.Lists x gC gE gI c E I) k (hk:k<32)=>checkEnt_any s g c E I gC gE gI cC cE cI k x hx hc hcE hk)
 have cd:=hide (fun x (hx:Gd.Lists x gC gE gI c E I)=>check_any s g c E I gC gE gI cC cE cI x hx hc)
 obtain ⟨q,hq⟩:∃q,Sn.headB s g=q:=⟨_,rfl⟩
 obtain ⟨m,hm⟩:∃m,Sn.mx c 383=m:=⟨_,rfl⟩
 obtain ⟨n3,h3⟩:∃m,Sn.cnt c 3 384=m:=⟨_,rfl⟩
 obtain ⟨n4,h4⟩:∃m,Sn.cnt c 4 384=m:=⟨_,rfl⟩
 have hT:Hid (∀v,Sn.Chk s g c E I v↔Sn.ChkBy q m n3 n4 c E I v):=fun v=>by
  unfold Sn.Chk Sn.ChkBy
  rw [hq,hm,h3,h4]
 have c3:Hid (∀x,Gd.Lists x gC gE gI c E I→Calls Tryz.prog 27 #[.slice (some ⟨gC,0,none⟩) 384 cC,.int .u8 3] x fun e w'=>e=.returned (.int .i64 n3)∧w'=x):=fun x hx=>by
  rw [←h3]
  exact uh cn x hx 3
 have c4:Hid (∀x,Gd.Lists x gC gE gI c E I→Calls Tryz.prog 27 #[.slice (some ⟨gC,0,none⟩) 384 cC,.int .u8 4] x fun e w'=>e=.returned (.int .i64 n4)∧w'=x):=fun x hx=>by
  rw [←h4]
  exact uh cn x hx 4
 rw [hq] at ch
 rw [hm] at cm
 clear hL hc hcE hg0 cn hq hm h3 h4
 unfold Gd.world at hw0 ce cd ⊢
 go_enter Tryz.func10,Tryz.ntmps10
 go_upto_region 1 with fail
 rw [←hw0]
 clear hw0
 obtain ⟨B,hB⟩:∃B,w.heap.size=B:=⟨_,rfl⟩
 rw [hB] at hO ⊢
 clear hB
 obtain ⟨b0,b1,b2,b3,b4,b5,b6,b7,b8,b9,b10⟩:=(uh hO).box.eleven
 go_wp2_with fail
 refine (uh ch _).mono ?_
 rintro e w1 ⟨rfl,hg⟩
 have hO1:=hide ((uh hO).on hg)
 clear hg hO ch b0 b1 b2 b3 b4 b5 b6 b7 b8 b9 b10
 cases q with
 | false =>
  have hfin:Hid (Sn.Told w s g c E I (.returned (.int .i64 1)) w1):=⟨1,rfl,((uh hT) 1).2 (by unfold Sn.ChkBy;rw [if_neg (by simp)]),(uh hO1).grown⟩
  go_wp2
  go_ret
  exact uh hfin
 | true =>
 obtain ⟨b0,b1,b2,b3,b4,b5,b6,b7,b8,b9,b10⟩:=(uh hO1).box.eleven
 go_wp2_with fail
 refine (uh cm _ (uh hO1).lists).mono ?_
 rintro e w1 ⟨rfl,rfl⟩
 by_cases hm:m≤5
 case neg =>
  have hm':m > 5:=by omega
  have hfin:Hid (Sn.Told w s g c E I (.returned (.int .i64 3)) w1):=⟨3,rfl,((uh hT) 3).2 (by unfold Sn.ChkBy;rw [if_pos rfl,if_neg hm]),(uh hO1).grown⟩
  clear hm
  go_wp2
  go_ret
  exact uh hfin
 have hm':¬m > 5:=by omega
 have HM:=hide hm
 clear hm
 go_wp2_with fail
 refine (uh c3 _ (uh hO1).lists).mono ?_
 rintro e w1 ⟨rfl,rfl⟩
 by_cases k3:n3=1
 case neg =>
  have k3':(n3 != 1)=true:=by simp [k3]
  have hfin:Hid (Sn.Told w s g c E I (.returned (.int .i64 2)) w1):=⟨2,rfl,((uh hT) 2).2 (by unfold Sn.ChkBy;rw [if_pos rfl,if_pos (uh HM),if_neg (fun h=>k3 h.1)]),(uh hO1).grown⟩
  clear k3
  go_wp2
  go_ret
  exact uh hfin
 have k3':(n3 != 1)=false:=by simp [k3]
 have K3:=hide k3
 clear k3
 go_wp2_with fail
 refine (uh c4 _ (uh hO1).lists).mono ?_
 rintro e w1 ⟨rfl,rfl⟩
 by_cases k4:n4=1
 case neg =>
  have k4':(n4 != 1)=true:=by simp [k4]
  have hfin:Hid (Sn.Told w s g c E I (.returned (.int .i64 2)) w1):=⟨2,rfl,((uh hT) 2).2 (by unfold Sn.ChkBy;rw [if_pos rfl,if_pos (uh HM),if_neg (fun h=>k4 h.2)]),(uh hO1).grown⟩
  clear k4
  go_wp2
  go_ret
  exact uh hfin
 have k4':(n4 != 1)=false:=by simp [k4]
 have hT2:Hid (∀v,Sn.Chk s g c E I v↔Sn.ChkRows c E I v):=fun v=>by
  rw [uh hT v]
  unfold Sn.ChkBy Sn.ChkRows
  rw [if_pos rfl,if_pos (uh HM),if_pos ⟨uh K3,k4⟩]
 clear k4 hT HM K3
 go_wp2_with fail
 go_loopw [45] (fun v45 wr=>∃i:Nat,i≤32∧v45=.int .i64 (i:Int)∧Hid (∀j,j<i→Sn.entC c E j=0)∧Hid (Sn.Shown w wr B gC gE gI cC cE cI s g c E I)) (fun v45 _=>40 - (intOf v45).toNat)
 case atStart=>exact ⟨0,by omega,rfl,fun j hj=>absurd hj (by omega),hO1⟩
 case round =>
  clear hO1 b0 b1 b2 b3 b4 b5 b6 b7 b8 b9 b10 k3' k4' hm'
  obtain ⟨i,hi,rfl,hz,hO⟩:=hrel
  obtain ⟨b0,b1,b2,b3,b4,b5,b6,b7,b8,b9,b10⟩:=(uh hO).box.eleven
  by_cases hlt:i<32
  ·have hlt':(i:Int)<32:=by omega
   have HL:=hide hlt
   have cx:=hide (uh ce wr (uh hO).lists i hlt)
   obtain ⟨r,hr⟩:∃r,Sn.entC c E i=r:=⟨_,rfl⟩
   rw [hr] at cx
   have HR:=hide hr
   clear hlt hi hr
   go_wp2_with fail
   refine (uh cx).mono ?_
   rintro e w2 ⟨rfl,hg⟩
   have hO2:=hide ((uh hO).on hg)
   clear hg hO cx b0 b1 b2 b3 b4 b5 b6 b7 b8 b9 b10
   by_cases hr0:r=0
   ·have hr':(r != 0)=false:=by simp [hr0]
    have HZ:Hid (∀j,j<i+1→Sn.entC c E j=0):=fun j hj=>by
     by_cases e:j=i
     ·rw [e,uh HR,hr0]
     ·exact uh hz j (by omega)
    clear hr0
    go_wp2
    go_roundw
    case rel=>exact ⟨i+1,by have:=uh HL;omega,by go_num,HZ,hO2⟩
    case measure=>simp [intOf];have:=uh HL;omega
   ·have hr':(r != 0)=true:=by simp [hr0]
    have hre:Sn.rowC c E (i+1)=r:=by
     show (if Sn.rowC c E i=0 then Sn.entC c E i else Sn.rowC c E i)=r
     rw [if_pos (Sn.rowC_zero (uh hz)),uh HR]
    have h32:=Sn.rowC_stays hre hr0 32 (by have:=uh HL;omega)
    have hfin:Hid (Sn.Told w s g c E I (.returned (.int .i64 r)) w2):=⟨r,rfl,((uh hT2) r).2 (by unfold Sn.ChkRows;rw [if_neg (by rw [h32];exact hr0),h32]),(uh hO2).grown⟩
    clear hr0 hre h32
    go_wp2
    go_ret
    exact uh hfin
  ·have hge:¬(i:Int)<32:=by omega
   have h32:Sn.rowC c E 32=0:=Sn.rowC_zero fun j hj=>uh hz j (by omega)
   have hT3:Hid (∀v,Sn.Chk s g c E I v↔(v=0∧Gd.Ok c 40 I)∨(v=9∧¬Gd.Ok c 40 I)):=fun v=>by rw [uh hT2 v];unfold Sn.ChkRows;rw [if_pos h32]
   clear hlt hi h32
   go_wp2_with fail
   refine (uh cd _ (uh hO).lists).mono ?_
   rintro e w3 ⟨b,rfl,hb,hg⟩
   have hgf:=hide (gtr (uh hO).grown hg)
   have HB:=hide hb
   clear hb hg hO b0 b1 b2 b3 b4 b5 b6 b7 b8 b9 b10 cd ce
   cases b with
   | true =>
    have hfin:Hid (Sn.Told w s g c E I (.returned (.int .i64 0)) w3):=⟨0,rfl,((uh hT3) 0).2 (.inl ⟨rfl,(uh HB).1 rfl⟩),uh hgf⟩
    go_wp2
    go_ret
    exact uh hfin
   | false =>
    have hfin:Hid (Sn.Told w s g c E I (.returned (.int .i64 9)) w3):=⟨9,rfl,((uh hT3) 9).2 (.inr ⟨rfl,fun h=>absurd ((uh HB).2 h) (by simp)⟩),uh hgf⟩
    go_wp2
    go_ret
    exact uh hfin


open Go.RowKit

def Sn.sameG (g h:Nat→Int):Bool:=decide (g 0=h 0) && (decide (g 1=h 1) && (decide (g 2=h 2) && decide (g 3=h 3)))
def Sn.sameH (s t g h:Nat→Int):Bool:=decide (s 0=t 0) && (decide (s 1=t 1) && (decide (s 2=t 2) && (decide (s 3=t 3) && Sn.sameG g h)))

theorem Sn.sameG_iff (g h:Nat→Int):Sn.sameG g h=true↔∀j,j<4→g j=h j:=by
 unfold Sn.sameG
 simp only [Bool.and_eq_true,decide_eq_true_eq]
 constructor
 ·rintro ⟨h0,h1,h2,h3⟩ j hj
  rcases (show j=0∨j=1∨j=2∨j=3 by omega) with rfl | rfl | rfl | rfl <;> assumption
 ·intro h
  exact ⟨h 0 (by omega),h 1 (by omega),h 2 (by omega),h 3 (by omega)⟩

theorem Sn.sameH_iff (s t g h:Nat→Int):Sn.sameH s t g h=true↔(∀j,j<4→s j=t j)∧∀j,j<4→g j=h j:=by
 unfold Sn.sameH
 simp only [Bool.and_eq_true,decide_eq_true_eq,Sn.sameG_iff]
 constructor
 ·rintro ⟨h0,h1,h2,h3,h4⟩
  refine ⟨fun j hj=>?_,h4⟩
  rcases (show j=0∨j=1∨j=2∨j=3 by omega) with rfl | rfl | rfl | rfl <;> assumption
 ·rintro ⟨h,k⟩
  exact ⟨h 0 (by omega),h 1 (by omega),h 2 (by omega),h 3 (by omega),k⟩

theorem run_equal_gold (d:Nat) (g h:Nat→Int) (w:World):(Op.equalIn (d+2) 29 (.agg #[.int .i64 (g 0),.int .i64 (g 1),.int .i64 (g 2),.int .i64 (g 3)]) (.agg #[.int .i64 (h 0),.int .i64 (h 1),.int .i64 (h 2),.int .i64 (h 3)])).run Tryz.prog w=.ok (Sn.sameG g h) w:=by
 obtain ⟨i0,hi,_,_,_⟩:=info_parts info_int
 have hc:Tryz.prog.cellsOf 3=1:=by kernel_rfl
 have hh:=run_equalIn_array (P:=Tryz.prog) (w:=w) (d+1) #[.int .i64 (g 0),.int .i64 (g 1),.int .i64 (g 2),.int .i64 (g 3)] #[.int .i64 (h 0),.int .i64 (h 1),.int .i64 (h 2),.int .i64 (h 3)] Tryz.underlying29 hi
 have hr:(Op.eqItems (d+1) 3 (Tryz.prog.cellsOf 3) #[Value.int .i64 (g 0),.int .i64 (g 1),.int .i64 (g 2),.int .i64 (g 3)] #[.int .i64 (h 0),.int .i64 (h 1),.int .i64 (h 2),.int .i64 (h 3)] (List.range 4)).run Tryz.prog w=.ok (Sn.sameG g h) w:=by
  rw [hc]
  unfold Sn.sameG
  by_cases h0:g 0=h 0
  ·by_cases h1:g 1=h 1
   ·by_cases h2:g 2=h 2
    ·by_cases h3:g 3=h 3 <;> simp [List.range,List.range.loop,Op.eqItems,go_sem,h0,h1,h2,h3]
    ·simp [List.range,List.range.loop,Op.eqItems,go_sem,h0,h1,h2]
   ·simp [List.range,List.range.loop,Op.eqItems,go_sem,h0,h1]
  ·simp [List.range,List.range.loop,Op.eqItems,go_sem,h0]
 rw [hr] at hh
 exact hh

def Sn.hd (s g:Nat→Int):Array Value:=#[.int .i64 (s 0),.int .i64 (s 1),.int .i64 (s 2),.int .i64 (s 3),.int .i64 (g 0),.int .i64 (g 1),.int .i64 (g 2),.int .i64 (g 3)]

theorem run_eq_head (s t g h:Nat→Int) (w:World):(binOp .eql 73 (.agg (Sn.hd s g)) (.agg (Sn.hd t h))).run Tryz.prog w=.ok (.bool (Sn.sameH s t g h)) w:=by
 have hg:=fun d w=>run_equal_gold d g h w
 unfold Sn.sameH Sn.hd
 generalize Sn.sameG g h=q at hg ⊢
 by_cases h0:s 0=t 0
 ·by_cases h1:s 1=t 1
  ·by_cases h2:s 2=t 2
   ·by_cases h3:s 3=t 3
    ·simp [go_sem,h0,h1,h2,h3,hg]
     cases q <;> rfl
    ·simp [go_sem,h0,h1,h2,h3]
   ·simp [go_sem,h0,h1,h2]
  ·simp [go_sem,h0,h1]
 ·simp [go_sem,h0]

set_option maxRecDepth 8000 in
set_option maxHeartbeats 1600000 in
theorem headOf_any (s g:Nat→Int) (nC nE nI cC cE cI:Nat) (aC aE aI:Option Addr) (w:World) :
  Calls Tryz.prog 36 #[.agg #[.int .i64 (s 0),.int .i64 (s 1),.int .i64 (s 2),.int .i64 (s 3),.slice aC nC cC,.slice aE nE cE,.slice aI nI cI,.int .i64 (g 0),.int .i64 (g 1),.int .i64 (g 2),.int .i64 (g 3)]] w (Says w (.agg #[.int .i64 (s 0),.int .i64 (s 1),.int .i64 (s 2),.int .i64 (s 3),.int .i64 (g 0),.int .i64 (g 1),.int .i64 (g 2),.int .i64 (g 3)])):=by
 obtain ⟨w0,hw0⟩:∃w0,w0=(w.alloc (.cells #[.int .i64 (s 0),.int .i64 (s 1),.int .i64 (s 2),.int .i64 (s 3),.slice aC nC cC,.slice aE nE cE,.slice aI nI cI,.int .i64 (g 0),.int .i64 (g 1),.int .i64 (g 2),.int .i64 (g 3)] 31)).alloc (.cells #[.int .i64 0,.int .i64 0,.int .i64 0,.int .i64 0,.int .i64 0,.int .i64 0,.int .i64 0,.int .i64 0] 73):=⟨_,rfl⟩
 have hg0:w.grownBy w0 none:=by rw [hw0];exact gal (World.grownBy_alloc _ _ _) _
 obtain ⟨B,hBe⟩:∃B,w.heap.size=B:=⟨_,rfl⟩
 have hB:Lie w0 B 31 11 (fun j=>#[Value.int .i64 (s 0),.int .i64 (s 1),.int .i64 (s 2),.int .i64 (s 3),.slice aC nC cC,.slice aE nE cE,.slice aI nI cI,.int .i64 (g 0),.int .i64 (g 1),.int .i64 (g 2),.int .i64 (g 3)][j]?.getD undef):=by
  rw [hw0,←hBe]
  exact ((Arr.lit (heap_alloc_new w _)).alloc _).lie
 have hR:Lie w0 (B+1) 73 8 (fun j=>#[Value.int .i64 0,.int .i64 0,.int .i64 0,.int .i64 0,.int .i64 0,.int .i64 0,.int .i64 0,.int .i64 0][j]?.getD undef):=by
  rw [hw0,←hBe]
  have h:=heap_alloc_new (w.alloc (.cells #[.int .i64 (s 0),.int .i64 (s 1),.int .i64 (s 2),.int .i64 (s 3),.slice aC nC cC,.slice aE nE cE,.slice aI nI cI,.int .i64 (g 0),.int .i64 (g 1),.int .i64 (g 2),.int .i64 (g 3)] 31)) (.cells #[.int .i64 0,.int .i64 0,.int .i64 0,.int .i64 0,.int .i64 0,.int .i64 0,.int .i64 0,.int .i64 0] 73)
  rw [show (w.alloc (.cells #[.int .i64 (s 0),.int .i64 (s 1),.int .i64 (s 2),.int .i64 (s 3),.slice aC nC cC,.slice aE nE cE,.slice aI nI cI,.int .i64 (g 0),.int .i64 (g 1),.int .i64 (g 2),.int .i64 (g 3)] 31)).heap.size=w.heap.size+1 by simp] at h
  exact (Arr.lit h).lie
 have hgo:Hid (∀l,w.grownBy (w0.setCells (B+1) 0 l) none):=fun l=>own_sets (by omega) l 0 w0 hg0
 have fR:=hR.free
 have b0:w0.cell? ⟨B,0,none⟩=some (.int .i64 (s 0)):=hB.cell (c:=0) (by omega)
 have b1:w0.cell? ⟨B,1,none⟩=some (.int .i64 (s 1)):=hB.cell (c:=1) (by omega)
 have b2:w0.cell? ⟨B,2,none⟩=some (.int .i64 (s 2)):=hB.cell (c:=2) (by omega)
 have b3:w0.cell? ⟨B,3,none⟩=some (.int .i64 (s 3)):=hB.cell (c:=3) (by omega)
 have b7:w0.cell? ⟨B,7,none⟩=some (.int .i64 (g 0)):=hB.cell (c:=7) (by omega)
 have b8:w0.cell? ⟨B,8,none⟩=some (.int .i64 (g 1)):=hB.cell (c:=8) (by omega)
 have b9:w0.cell? ⟨B,9,none⟩=some (.int .i64 (g 2)):=hB.cell (c:=9) (by omega)
 have b10:w0.cell? ⟨B,10,none⟩=some (.int .i64 (g 3)):=hB.cell (c:=10) (by omega)
 have z0:w0.cell? ⟨B+1,0,none⟩=some (.int .i64 0):=hR.cell (c:=0) (by omega)
 have z1:w0.cell? ⟨B+1,1,none⟩=some (.int .i64 0):=hR.cell (c:=1) (by omega)
 have z2:w0.cell? ⟨B+1,2,none⟩=some (.int .i64 0):=hR.cell (c:=2) (by omega)
 have z3:w0.cell? ⟨B+1,3,none⟩=some (.int .i64 0):=hR.cell (c:=3) (by omega)
 have z4:w0.cell? ⟨B+1,4,none⟩=some (.int .i64 0):=hR.cell (c:=4) (by omega)
 have z5:w0.cell? ⟨B+1,5,none⟩=some (.int .i64 0):=hR.cell (c:=5) (by omega)
 have z6:w0.cell? ⟨B+1,6,none⟩=some (.int .i64 0):=hR.cell (c:=6) (by omega)
 have z7:w0.cell? ⟨B+1,7,none⟩=some (.int .i64 0):=hR.cell (c:=7) (by omega)
 have HBe:=hide hBe
 clear hB hR hg0 hBe
 go_enter Tryz.func36,Tryz.ntmps36
 go_upto_region 1 with fail
 rw [←hw0,uh HBe]
 clear hw0 HBe
 go_wp2
 refine bodyPost_ret (v:=.agg #[.int .i64 (s 0),.int .i64 (s 1),.int .i64 (s 2),.int .i64 (s 3),.int .i64 (g 0),.int .i64 (g 1),.int .i64 (g 2),.int .i64 (g 3)]) (by simp [results,Tryz.results36,go_sem,z0,z1,z2,z3,z4,z5,z6,z7]) rfl ?_
 exact ⟨rfl,uh hgo [_,_,_,_,_,_,_,_]⟩

end Go.Proofs.YtepppmepilffcaaGreat
