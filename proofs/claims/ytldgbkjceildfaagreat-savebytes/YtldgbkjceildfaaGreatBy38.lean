import Derived.Test.YtldgbkjceildfaaGreatBy36
import Derived.RangeFuncNested
import Derived.RangeFuncBound
import Derived.RangeFuncCalls
import Derived.RangeFuncLeaves
import Derived.Shelf.Abstract
import Derived.Shelf.RegionOpen
import Derived.OwnWalkIn
import Derived.TacticsInMore
import Derived.LoopNIn
import Derived.LoopIn
import Derived.RangeFuncBox
namespace Go.Proofs.YtldgbkjceildfaaGreat
open Go.RowKit

theorem Sn.goldsB_each {g:Nat→Int}:∀{n:Nat},Sn.goldsB g n=true→∀t,t<n→Sn.goldB g t=true
 | 0,_,_,h=>absurd h (by omega)
 | n+1,h,t,ht=>by
  have h':(Sn.goldsB g n && Sn.goldB g n)=true:=h;rw [Bool.and_eq_true] at h';by_cases e:t=n
  ·rw [e];exact h'.2
  ·exact Sn.goldsB_each h'.1 t (by omega)

theorem Sn.rowC_each {c:Nat→Int} {E:Nat→Nat→Int}:∀{n:Nat},Sn.rowC c E n=0→∀k,k<n→Sn.entC c E k=0
 | 0,_,_,h=>absurd h (by omega)
 | n+1,h,k,hk=>by
  have h0:Sn.rowC c E n=0:=by
   cases Decidable.em (Sn.rowC c E n=0) with
   | inl e=>exact e
   | inr e =>
    have:=Sn.rowC_stays (n:=n) rfl e (n+1) (by omega);omega
  have h1:(if Sn.rowC c E n=0 then Sn.entC c E n else Sn.rowC c E n)=0:=h;rw [if_pos h0] at h1;by_cases e:k=n
  ·rw [e];exact h1
  ·exact Sn.rowC_each h0 k (by omega)

theorem Sn.stats_small (k:Int) (j:Nat):0≤En.stats k j∧En.stats k j≤255:=by
 have h:∀(a b:Int),(0≤a∧a≤255)→(0≤b∧b≤255)→∀(p:Prop) [Decidable p],0≤(if p then a else b)∧(if p then a else b)≤255:=fun a b h1 h2 p _=>by split <;> assumption
 unfold En.stats;split
 ·split <;> omega
 ·exact h _ _ (by decide) (h _ _ (by decide) (h _ _ (by decide) (h _ _ (by decide) (by decide) _) _) _) _
 ·exact h _ _ (by decide) (h _ _ (by decide) (h _ _ (by decide) (h _ _ (by decide) (by decide) _) _) _) _
 ·exact h _ _ (by decide) (h _ _ (by decide) (h _ _ (by decide) (h _ _ (by decide) (by decide) _) _) _) _
 ·exact h _ _ (by decide) (h _ _ (by decide) (by decide) _) _
 ·decide

theorem Sn.chk_small {s g c:Nat→Int} {E I:Nat→Nat→Int} (h:Sn.Chk s g c E I 0):(0≤s 1∧s 1<1073741824)∧(1≤s 2∧s 2≤3)∧(0≤s 3∧s 3≤2)∧(∀t,t<4→0≤g t∧g t≤999)∧(∀i j,i<32→j<11→0≤E i j∧E i j≤255)∧(∀i j,i<40→j<4→0≤I i j∧I i j≤255):=by
 unfold Sn.Chk at h;split at h;case isFalse=>omega
 rename_i h1;split at h;case isFalse=>omega
 split at h;case isFalse=>omega
 split at h;case isFalse =>
  rename_i h4;exact absurd h.symm h4
 rename_i h4;have hok:Gd.Ok c 40 I:=by
  rcases h with ⟨_,q⟩|⟨q,_⟩
  ·exact q
  ·omega
 unfold Sn.headB at h1;rw [Bool.and_eq_true] at h1;obtain ⟨hg,hn⟩:=h1;unfold Sn.numB at hn;have hn:=of_decide_eq_true hn;refine ⟨by omega,by omega,by omega,fun t ht=>?_,fun i j hi hj=>?_,fun i j hi hj=>?_⟩
 ·have q:=Sn.goldsB_each hg t ht;unfold Sn.goldB at q;have:=of_decide_eq_true q;omega
 ·have he:=Sn.rowC_each h4 i hi;unfold Sn.entC at he;split at he;case isFalse=>omega
  rename_i k0;split at he;case isFalse=>omega
  rename_i k1;split at he
  ·split at he;case isFalse=>omega
   rename_i hz hf;unfold Sn.freeB at hf;have hf:=of_decide_eq_true hf;rcases (show j=0∨j=1∨j=2∨j=3∨j=4∨j=5∨j=6∨j=7∨j=8∨j=9∨j=10 by omega) with rfl|rfl|rfl|rfl|rfl|rfl|rfl|rfl|rfl|rfl|rfl <;> omega
  ·split at he;case isFalse=>omega
   rename_i hz hs;obtain ⟨s1,s2,s3⟩:=hs;unfold Sn.soundB at s1;have s1:=of_decide_eq_true s1;have w6:=Sn.stats_small (E i 0) 6;have w7:=Sn.stats_small (E i 0) 7;have w8:=Sn.stats_small (E i 0) 8;have hxy:0≤E i 3∧E i 3<24∧0≤E i 4∧E i 4<16:=by
    unfold Sn.aloneB at s2;rw [Bool.and_eq_true] at s2;cases q:Gr.inB (E i 3) (E i 4) with
    | true=>exact (Gr.inB_iff _ _).1 q
    | false =>
     have hw:=(Gr.walkB_iff _).1 s2.1;rw [Gr.at_out q] at hw;omega
   have hseat:0≤E i 2∧E i 2≤3:=by
    unfold Sn.seatedB at s3;split at s3
    ·have:=of_decide_eq_true s3;omega
    ·have:=of_decide_eq_true s3;omega
   rcases (show j=0∨j=1∨j=2∨j=3∨j=4∨j=5∨j=6∨j=7∨j=8∨j=9∨j=10 by omega) with rfl|rfl|rfl|rfl|rfl|rfl|rfl|rfl|rfl|rfl|rfl <;> omega
 ·rcases hok.each i hi with hz|hp
  ·obtain ⟨z0,z1,z2,z3⟩:=hz;rcases (show j=0∨j=1∨j=2∨j=3 by omega) with rfl|rfl|rfl|rfl <;> omega
  ·obtain ⟨q1,q2,q3,q4⟩:=Sn.placed_small hp;rcases (show j=0∨j=1∨j=2∨j=3 by omega) with rfl|rfl|rfl|rfl <;> omega

end Go.Proofs.YtldgbkjceildfaaGreat

namespace Go.Proofs.YtldgbkjceildfaaGreat
open Go.RowKit Go.Shelf

attribute [local go_sem] Oper.semAt_some

def Sv.pv (b off len k:Nat):Value:=.slice (some ⟨b,off+64*k,none⟩) (min 64 (len - 64*k)) (min 64 (len - 64*k))

def Sv.Keeps (Bs Bn:Nat) (Kp:World→World→Prop):Prop:=∀W W',Kp W W'→W'.cell? ⟨Bs,0,none⟩=W.cell? ⟨Bs,0,none⟩∧W'.cell? ⟨Bn,0,none⟩=W.cell? ⟨Bn,0,none⟩

set_option maxRecDepth 100000 in
set_option maxHeartbeats 4000000 in
theorem chunkEach_in (F:Fence) (n:Nat) (hf:F.fn 97) (hro:F.round=none) (hn:1≤n) (l Bs Bn b off len cap c:Nat) (f:Nat→Nat) (hlen:len≤1048576) (hc1:64*c<len+64) (hc2:len≤64*c) (hcap:len≤cap) (hcm:cap≤9223372036854775807) (hfk:∀k,k<c→f k=k) (Kp:World→World→Prop) (hKp:Sv.Keeps Bs Bn Kp) (J Jx:List Nat→World→Prop) (W:World) (hJ:AbidesFrom W.heap.size J)
  (hY:∀pre x W,J pre W→pre.length<c→YieldAt F (n - 1) Tryz.prog l #[Sv.pv b off len (f x)] W fun e W' =>
   (e=.returned (.bool true)∧J (pre ++ [x]) W'∧Kp W W')∨(e=.returned (.bool false)∧Jx (pre ++ [x]) W'))
  (hBs:W.cell? ⟨Bs,0,none⟩=some (.slice (some ⟨b,off,none⟩) len cap)) (hBn:W.cell? ⟨Bn,0,none⟩=some (.int .i64 64)) (h0:J [] W) :
  CallsIn F n Tryz.prog 97 #[.func (.yield l) #[] #[],.pointer (some ⟨Bs,0,none⟩),.pointer (some ⟨Bn,0,none⟩)] W fun e W'=>(∃v,e=.returned v) ∧
   ((∃ys,ys=List.range c∧J ys W')∨(∃pre,(∃k,k≤c∧pre=List.range k)∧Jx pre W')):=by
 have hJd:∀pre x y,J pre x→x.grownBy y none→J pre y:=fun pre x y h hg=>hJ pre x y none h hg (fun r e=>by cases e);clear hJ;refine callsIn_of_wp Tryz.func97 rfl hf ?_ hro;simp only [Tryz.ntmps97,List.size_toArray,List.length_cons,List.length_nil,Nat.reduceAdd,Nat.reduceSub,Array.replicate_succ,Array.replicate_zero,List.push_toArray,List.append_toArray,List.nil_append,List.cons_append]
 gi_wp2
 gi_loopw [4] (fun i wr=>∃k:Nat,k≤c∧i=.int .i64 ((64*k:Nat):Int)∧J (List.range k) wr∧wr.cell? ⟨Bs,0,none⟩=some (.slice (some ⟨b,off,none⟩) len cap)∧wr.cell? ⟨Bn,0,none⟩=some (.int .i64 64))
  (fun i _=>len+64 - (intOf i).toNat)
 case atStart=>exact ⟨0,Nat.zero_le _,rfl,h0,hBs,hBn⟩
 case round =>
  obtain ⟨k,hk,rfl,hJs,hS,hN⟩:=hrel;by_cases hlt:64*k<len
  ·have hkc:k<c:=by omega
   obtain ⟨i,hi⟩:∃i,64*k=i:=⟨_,rfl⟩;obtain ⟨e,he⟩:∃e,min 64 (len - i)=e:=⟨_,rfl⟩;have hv:Sv.pv b off len (f k)=.slice (some ⟨b,off+i,none⟩) e e:=by
    unfold Sv.pv;rw [hfk k hkc,hi,he]
   obtain ⟨fn,tmps,assign,body,hy,hR⟩:=hY _ k wr.drew (hJd _ _ _ hJs (gdw (World.grownBy.refl _ none) 1)) (by rw [List.length_range];exact hkc);rw [hv] at hy;have hR':=hide hR;rw [hi];have i1:(i:Int)<(len:Int):=by omega
   have i2:(i:Int)≤(len:Int):=by omega
   have i3:(i:Int)≤(cap:Int):=by omega
   have i4:(cap:Int)≤9223372036854775807:=by omega
   have i5:(i:Int)≤(i:Int)+(e:Int):=by omega
   have i6:(i:Int)+(e:Int)≤(cap:Int):=by omega
   have i7:(i:Int)≤1048576:=by omega
   have i8:(e:Int)≤64:=by omega
   have i9:min (64:Int) ((len - i:Nat):Int)=(e:Int):=by omega
   have HK:=hide (And.intro hi (And.intro hkc hlt));clear hR hv he hi hkc hlt hk hY hfk hc1 hc2 hcap;have hmx:Tryz.prog.follows .mixedOrders=true:=by kernel_rfl
   have i0:∀(w:World) (ts:Array TypeId) (t:TypeId),(Builtin.min_ ts t #[.int .i64 64,.int .i64 ((len - i:Nat):Int)]).run Tryz.prog w=.ok (.int .i64 (e:Int)) w:=fun w ts t=>by
    rw [run_min_int2,←i9];split <;> simp <;> omega
   gi_wp2
   gi_region
   all_goals clear i0
   all_goals (
    gi_wp2
    refine (uh hR').mono ?_;rintro e0 W3 (⟨rfl,hJ3,hk3⟩|⟨rfl,hJx3⟩)
    ·have hS3:=((hKp _ _ hk3).1.trans (World.cell?_drew wr _)).trans hS;have hN3:=((hKp _ _ hk3).2.trans (World.cell?_drew wr _)).trans hN
     gi_wp2
     go_roundw;case rel=>exact ⟨k+1,by have:=uh HK;omega,by have:=uh HK;go_num,by rw [List.range_succ];exact hJ3,hS3,hN3⟩
     case measure=>simp [intOf];have:=uh HK;omega
    ·gi_wp2
     refine bodyPost_ret (results_none rfl _ _ _) rfl ?_;exact ⟨⟨_,rfl⟩,.inr ⟨_,⟨k+1,by have:=uh HK;omega,List.range_succ.symm⟩,hJx3⟩⟩)
  ·have hge:¬((64*k:Nat):Int)<(len:Int):=by omega
   obtain rfl:k=c:=by omega
   obtain ⟨i,hi⟩:∃i,64*k=i:=⟨_,rfl⟩;rw [hi] at hge ⊢;clear hi hlt hk
   gi_wp2
   go_end0;exact ⟨⟨_,rfl⟩,.inl (by first | exact ⟨_,rfl,hJs⟩ | exact hJs)⟩

set_option maxHeartbeats 1000000 in
theorem chunk_in (F:Fence) (n:Nat) (hf:F.fn 59) (hro:F.round=none) (a:Option Addr) (len cap:Nat) (w:World) :
  CallsIn F n Tryz.prog 59 #[.slice a len cap,.int .i64 64] w fun e w'=>e=.returned (.func (.func 97) #[] #[.pointer (some ⟨w.heap.size,0,none⟩),.pointer (some ⟨w.heap.size+1,0,none⟩)])∧w'=(w.alloc (.cells #[.slice a len cap] 24)).alloc (.cells #[.int .i64 64] 3):=by
 refine callsIn_of_wp Tryz.func59 rfl hf ?_ hro;simp only [Tryz.ntmps59,List.size_toArray,List.length_cons,List.length_nil,Nat.reduceAdd,Nat.reduceSub,Array.replicate_succ,Array.replicate_zero,List.push_toArray,List.append_toArray,List.nil_append,List.cons_append]
 gi_wp2
 go_ret;exact ⟨rfl,rfl⟩

theorem chunk_stops (F:Fence) (n:Nat) (hf:F.fn 97) (hro:F.round=none) (hn:1≤n) (Bs Bn b off len cap c:Nat) (f:Nat→Nat) (hlen:len≤1048576) (hc1:64*c<len+64) (hc2:len≤64*c) (hcap:len≤cap) (hcm:cap≤9223372036854775807) (hfk:∀k,k<c→f k=k) (Kp:World→World→Prop) (hKp:Sv.Keeps Bs Bn Kp) (w:World) (hBs:w.cell? ⟨Bs,0,none⟩=some (.slice (some ⟨b,off,none⟩) len cap)) (hBn:w.cell? ⟨Bn,0,none⟩=some (.int .i64 64)) :
  SeqStopsK F n Tryz.prog 97 #[.pointer (some ⟨Bs,0,none⟩),.pointer (some ⟨Bn,0,none⟩)] (fun x:Nat=>#[Sv.pv b off len (f x)]) Kp (fun ys=>ys=List.range c) (fun pre=>∃k,k≤c∧pre=List.range k) c w:=fun l J Jx W hW hJ _ hY h0 =>
 chunkEach_in F n hf hro hn l Bs Bn b off len cap c f hlen hc1 hc2 hcap hcm hfk Kp hKp J Jx W hJ hY ((hW.cell (p:=⟨Bs,0,none⟩) (Go.block_lt_of_cell hBs)).trans hBs) ((hW.cell (p:=⟨Bn,0,none⟩) (Go.block_lt_of_cell hBn)).trans hBn) h0

end Go.Proofs.YtldgbkjceildfaaGreat
