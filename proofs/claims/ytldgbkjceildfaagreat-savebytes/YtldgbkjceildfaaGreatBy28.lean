import Derived.Test.YtldgbkjceildfaaGreatBy21
import Derived.RangeFuncNested
import Derived.RangeFuncBound
import Derived.RangeFuncCalls
import Derived.RangeFuncLeaves
import Derived.Shelf.Abstract
import Derived.Shelf.RegionOpen
import Derived.OwnWalkIn
import Derived.TacticsInMore
import Derived.LoopNIn
import Derived.LoopIn
import Derived.RangeFuncBox
namespace Go.Proofs.YtldgbkjceildfaaGreat
open Go.RowKit Go.Maps

structure Dk.St where
 f:Int→List Int
 done:Nat
 left:Int
 dead:Bool

def Dk.fresh:Dk.St:=⟨fun _=>Dk.noughts,0,-1,false⟩

def Dk.Mine (x:World) (base p b cnt:Nat) (s:Dk.St):Prop:=Dk.Own x base p b cnt s.f s.done s.left s.dead

def Dk.wr (cnt:Nat) (s:Dk.St) (n:Int) (l:List Int):Int × Dk.St :=
 if s.dead=true then (11,s) else if Dk.has cnt n=false∨l.length≠64 then (1,s) else if s.left=0 then (11,⟨s.f,s.done,0,true⟩) else (0,⟨Dk.putF s.f n l,s.done+1,if 0<s.left then s.left - 1 else s.left,false⟩)

theorem Dk.wr_done (cnt:Nat) (s:Dk.St) (n:Int) (l:List Int):s.done≤(Dk.wr cnt s n l).2.done∧(Dk.wr cnt s n l).2.done≤s.done+1:=by
 unfold Dk.wr
 split
 ·simp
 ·split
  ·simp
  ·split <;> simp

theorem Dk.wr_left (cnt:Nat) (s:Dk.St) (n:Int) (l:List Int) (h:s.left≤9223372036854775807):(Dk.wr cnt s n l).2.left≤9223372036854775807:=by
 unfold Dk.wr
 split
 ·exact h
 ·split
  ·exact h
  ·split
   ·simp
   ·simp only
    split <;> omega

theorem Dk.mine_write (base p b cnt:Nat) (s:Dk.St) (n:Int) (a:Option Addr) (c:Nat) (l:List Int) (w:World) (H:Dk.Mine w base p b cnt s) (hs:Ck.Src w (.slice a l.length c) l) (hb:∀ad,l.length=64→a=some ad→ad.block≠p) (hl2:s.left≤9223372036854775807) (hd1:s.done≤1099511627776) :
  Calls Tryz.prog 60 #[.pointer (some ⟨p,0,none⟩),.int .i64 n,.slice a l.length c] w fun e w'=>e=.returned (.int .i64 (Dk.wr cnt s n l).1)∧Dk.Mine w' base p b cnt (Dk.wr cnt s n l).2∧Turn (fun k=>k=p∨k=b) w w':=by
 obtain ⟨f,done,left,dead⟩:=s
 unfold Dk.wr
 cases dead with
 | true =>
  refine (dkWrite_dead base p b cnt f done left n _ w H).mono ?_
  rintro e w' ⟨rfl,rfl⟩
  exact ⟨rfl,H,Turn.refl _ _⟩
 | false =>
  by_cases h:Dk.has cnt n=false∨l.length≠64
  ·rw [if_neg (by simp),if_pos h]
   refine (dkWrite_arg base p b cnt f done left n a l.length c w H h).mono ?_
   rintro e w' ⟨rfl,rfl⟩
   exact ⟨rfl,H,Turn.refl _ _⟩
  ·have h1:Dk.has cnt n=true:=by
    cases q:Dk.has cnt n
    ·exact absurd (.inl q) h
    ·rfl
   have h2:l.length=64:=Decidable.byContradiction fun q=>h (.inr q)
   rw [if_neg (by simp),if_neg h]
   by_cases h0:left=0
   ·subst h0
    rw [if_pos rfl,h2]
    refine (dkWrite_cut base p b cnt f done n a c w H h1).mono ?_
    rintro e w' ⟨rfl,h3,h4⟩
    exact ⟨rfl,h3,h4.mono fun k q=>.inl q⟩
   ·rw [if_neg h0]
    rcases hs with ⟨_,rfl⟩ | ⟨ad,c',e,hc⟩
    ·simp at h2
    ·simp only [Value.slice.injEq,true_and] at e
     obtain ⟨rfl,rfl⟩:=e
     rw [h2]
     refine (dkWrite_ok base p b cnt f done left n ad c l w H h1 hc (hb ad h2 rfl) h2 h0 hl2 hd1).mono ?_
     rintro e w' ⟨rfl,h3,h4⟩
     exact ⟨rfl,h3,h4⟩

theorem Dk.Mine.turn {x y:World} {B:Nat→Prop} {base p b cnt:Nat} {s:Dk.St} (H:Dk.Mine x base p b cnt s) (ht:Turn B x y) (hp:¬B p) (hb:¬B b):Dk.Mine y base p b cnt s:=Dk.Own.turn H ht hp hb

theorem Dk.Mine.on {x y:World} {base p b cnt:Nat} {s:Dk.St} (H:Dk.Mine x base p b cnt s) (hg:x.grownBy y none):Dk.Mine y base p b cnt s:=Dk.Own.on H hg

end Go.Proofs.YtldgbkjceildfaaGreat

namespace Go.Proofs.YtldgbkjceildfaaGreat
open Go.RowKit Go.Maps

theorem Dk.still {w x y:World} {p b:Nat} (h:Turn (fun _=>False) w x) (ht:Turn (fun k=>k=p∨k=b) x y) (hp:w.heap.size≤p) (hb:w.heap.size≤b):Turn (fun _=>False) w y :=
 h.trans ht (fun i hi e=>by rcases e with rfl | rfl <;> omega)

theorem Dk.mine_new (n:Nat) (w:World) (h1:1≤n) (h2:n≤1024) :
  Calls Tryz.prog 16 #[.int .i64 (n:Int)] w fun e w'=>∃p b,e=.returned (.tuple #[.pointer (some ⟨p,0,none⟩),.int .i64 0])∧Dk.Mine w' w.heap.size p b n Dk.fresh∧w.grownBy w' none:=by
 refine (dkNew_any n w h1 h2).mono ?_
 rintro e w' ⟨p,b,rfl,h3,h4⟩
 exact ⟨p,b,rfl,h3,h4⟩

end Go.Proofs.YtldgbkjceildfaaGreat

namespace Go.Proofs.YtldgbkjceildfaaGreat

def Sv.pad (p:List Int):List Int:=p ++ List.replicate (64 - p.length) 0

theorem Sv.pad_len {p:List Int} (h:p.length≤64):(Sv.pad p).length=64:=by
 unfold Sv.pad
 rw [List.length_append,List.length_replicate]
 omega

def Sv.pc (l:List Int) (k:Nat):List Int:=(l.drop (64*k)).take 64

theorem Sv.pc_len (l:List Int) (k:Nat):(Sv.pc l k).length=min 64 (l.length - 64*k):=by
 unfold Sv.pc
 rw [List.length_take,List.length_drop]

def Sv.put (cnt:Nat):Dk.St→Int→List (List Int)→Int × Dk.St
 | s,_,[]=>(0,s)
 | s,a,p :: ps=>if (Dk.wr cnt s a p).1=0 then Sv.put cnt (Dk.wr cnt s a p).2 (a+1) ps else Dk.wr cnt s a p

theorem Sv.put_more (cnt:Nat) (q:List Int):∀(ps:List (List Int)) (s:Dk.St) (a:Int),(Sv.put cnt s a ps).1=0→Sv.put cnt s a (ps ++ [q])=Dk.wr cnt (Sv.put cnt s a ps).2 (a+ps.length) q
 | [],s,a,_=>by
  show (if (Dk.wr cnt s a q).1=0 then ((0:Int),(Dk.wr cnt s a q).2) else Dk.wr cnt s a q)=Dk.wr cnt s (a+0) q
  rw [Int.add_zero]
  split
  ·rename_i h
   rw [←h]
  ·rfl
 | p :: ps,s,a,h=>by
  unfold Sv.put at h
  show (if (Dk.wr cnt s a p).1=0 then Sv.put cnt (Dk.wr cnt s a p).2 (a+1) (ps ++ [q]) else Dk.wr cnt s a p)=_
  by_cases h0:(Dk.wr cnt s a p).1=0
  ·rw [if_pos h0] at h ⊢
   rw [Sv.put_more cnt q ps _ _ h]
   show _=Dk.wr cnt (if (Dk.wr cnt s a p).1=0 then Sv.put cnt (Dk.wr cnt s a p).2 (a+1) ps else Dk.wr cnt s a p).2 (a+((ps.length+1:Nat):Int)) q
   rw [if_pos h0,show a+1+(ps.length:Int)=a+((ps.length+1:Nat):Int) by omega]
  ·rw [if_neg h0] at h
   exact absurd h h0

theorem Sv.put_stop (cnt:Nat) (qs:List (List Int)):∀(ps:List (List Int)) (s:Dk.St) (a:Int),(Sv.put cnt s a ps).1≠0→Sv.put cnt s a (ps ++ qs)=Sv.put cnt s a ps
 | [],s,a,h=>absurd rfl h
 | p :: ps,s,a,h=>by
  unfold Sv.put at h
  show (if (Dk.wr cnt s a p).1=0 then Sv.put cnt (Dk.wr cnt s a p).2 (a+1) (ps ++ qs) else Dk.wr cnt s a p)=(if (Dk.wr cnt s a p).1=0 then Sv.put cnt (Dk.wr cnt s a p).2 (a+1) ps else Dk.wr cnt s a p)
  by_cases h0:(Dk.wr cnt s a p).1=0
  ·rw [if_pos h0] at h
   rw [if_pos h0,if_pos h0,Sv.put_stop cnt qs ps _ _ h]
  ·rw [if_neg h0,if_neg h0]

theorem Sv.wr_is (cnt:Nat) (s:Dk.St) (a:Nat) (p:List Int) (hd:s.dead=false) (ha:a<cnt) (hp:p.length=64) :
  (s.left=0∧Dk.wr cnt s a p=(11,⟨s.f,s.done,0,true⟩))∨(s.left≠0∧Dk.wr cnt s a p=(0,⟨Dk.putF s.f a p,s.done+1,if 0<s.left then s.left - 1 else s.left,false⟩)):=by
 unfold Dk.wr
 have hh:Dk.has cnt (a:Int)=true:=by unfold Dk.has;simp;omega
 rw [if_neg (by rw [hd];simp),if_neg (by rw [hh];simp [hp])]
 by_cases h0:s.left=0
 ·exact .inl ⟨h0,by rw [if_pos h0]⟩
 ·exact .inr ⟨h0,by rw [if_neg h0]⟩

structure Sv.Puts (s:Dk.St) (a:Nat) (ps:List (List Int)) (r:Int × Dk.St):Prop where
 else_:∀m:Int,(m<a∨(a:Int)+ps.length≤m)→r.2.f m=s.f m
 low:s.done≤r.2.done
 high:r.2.done≤s.done+ps.length
 left:r.2.left≤9223372036854775807
 way:(r.1=0∧r.2.dead=false∧(∀i:Nat,i<ps.length→ps[i]?=some (r.2.f ((a:Int)+i)))∧(s.left<0→r.2.left<0))∨(r.1=11∧r.2.dead=true∧0≤s.left)

theorem Sv.puts (cnt:Nat):∀(ps:List (List Int)) (s:Dk.St) (a:Nat),s.dead=false→s.left≤9223372036854775807→a+ps.length≤cnt→(∀p∈ps,p.length=64)→Sv.Puts s a ps (Sv.put cnt s a ps)
 | [],s,a,hd,hl,_,_=>⟨fun _ _=>rfl,Nat.le_refl _,Nat.le_refl _,hl,.inl ⟨rfl,hd,fun i hi=>absurd hi (Nat.not_lt_zero _),fun h=>h⟩⟩
 | p :: ps,s,a,hd,hl,hc,hp=>by
  have hcl:a+(ps.length+1)≤cnt:=hc
  unfold Sv.put
  rcases Sv.wr_is cnt s a p hd (by omega) (hp p (List.mem_cons_self ..)) with ⟨h0,e⟩ | ⟨h0,e⟩
  ·rw [e,if_neg (by simp)]
   exact ⟨fun _ _=>rfl,Nat.le_refl _,Nat.le_add_right _ _,by simp,.inr ⟨rfl,rfl,by rw [h0];exact Int.le_refl _⟩⟩
  ·rw [e,if_pos rfl]
   simp only
   have hl1:(if 0<s.left then s.left - 1 else s.left)≤9223372036854775807:=by split <;> omega
   have h:=Sv.puts cnt ps ⟨Dk.putF s.f a p,s.done+1,if 0<s.left then s.left - 1 else s.left,false⟩ (a+1) rfl hl1 (by omega) (fun q hq=>hp q (List.mem_cons_of_mem _ hq))
   rw [show (a:Int)+1=((a+1:Nat):Int) by omega]
   obtain ⟨r,hr⟩:∃r,Sv.put cnt ⟨Dk.putF s.f a p,s.done+1,if 0<s.left then s.left - 1 else s.left,false⟩ ((a+1:Nat):Int) ps=r:=⟨_,rfl⟩
   rw [hr] at h ⊢
   clear hr
   have hlen:((p :: ps).length:Int)=(ps.length:Int)+1:=by simp
   have hlenN:(p :: ps).length=ps.length+1:=rfl
   have hlow:s.done+1≤r.2.done:=h.low
   have hhigh:r.2.done≤s.done+1+ps.length:=h.high
   refine ⟨fun m hm=>?_,by omega,by rw [hlenN];omega,h.left,?_⟩
   ·rw [hlen] at hm
    rw [h.else_ m (by omega)]
    show Dk.putF s.f a p m=s.f m
    unfold Dk.putF
    rw [if_neg (by omega)]
   ·rcases h.way with ⟨h1,h2,h3,h4⟩ | ⟨h1,h2,h3⟩
    ·refine .inl ⟨h1,h2,fun i hi=>?_,fun hlt=>h4 (by simp only;rw [if_neg (by omega)];exact hlt)⟩
     cases i with
     | zero =>
      rw [h.else_ _ (by omega)]
      show some p=some (Dk.putF s.f a p (a+((0:Nat):Int)))
      unfold Dk.putF
      rw [if_pos (by omega)]
     | succ i =>
      rw [List.getElem?_cons_succ,h3 i (by omega),show ((a+1:Nat):Int)+(i:Int)=(a:Int)+((i+1:Nat):Int) by omega]
    ·simp only at h3
     refine .inr ⟨h1,h2,?_⟩
     split at h3 <;> omega

def Sv.cat (f:Int→List Int) (a:Int):Nat→List Int
 | 0=>[]
 | n+1=>Sv.cat f a n ++ f (a+n)

theorem Sv.cat_congr {f g:Int→List Int} {a:Int}:∀{n:Nat},(∀i:Nat,i<n→f (a+i)=g (a+i))→Sv.cat f a n=Sv.cat g a n
 | 0,_=>rfl
 | n+1,h=>by
  unfold Sv.cat
  rw [Sv.cat_congr (fun i hi=>h i (by omega)),h n (by omega)]

def Sv.pcs (l:List Int) (c:Nat):List (List Int):=(List.range c).map fun k=>Sv.pad (Sv.pc l k)

theorem Sv.pcs_len (l:List Int) (c:Nat):(Sv.pcs l c).length=c:=by simp [Sv.pcs]

theorem Sv.pcs_each {l:List Int} {c:Nat}:∀p∈Sv.pcs l c,p.length=64:=by
 intro p hp
 obtain ⟨k,_,rfl⟩:=List.mem_map.1 hp
 exact Sv.pad_len (by rw [Sv.pc_len];omega)

theorem Sv.cat_pcs {l:List Int} {f:Int→List Int} {a:Int}:∀{n c:Nat},n≤c→(∀i:Nat,i<c→(Sv.pcs l c)[i]?=some (f (a+i)))→(Sv.cat f a n).take (min l.length (64*n))=l.take (64*n)
 | 0,c,_,_=>by simp [Sv.cat]
 | n+1,c,hc,h=>by
  have ih:=Sv.cat_pcs (l:=l) (f:=f) (a:=a) (n:=n) (c:=c) (by omega) h
  have hf:f (a+n)=Sv.pad (Sv.pc l n):=by
   have q:=h n (by omega)
   unfold Sv.pcs at q
   rw [List.getElem?_map,List.getElem?_range (by omega)] at q
   exact (Option.some.inj q).symm
  have h64:∀m,m≤n→(Sv.cat f a m).length=64*m:=by
   intro m
   induction m with
   | zero=>intro _;rfl
   | succ m im =>
    intro hm
    unfold Sv.cat
    have q:=h m (by omega)
    unfold Sv.pcs at q
    rw [List.getElem?_map,List.getElem?_range (by omega)] at q
    have q':=(Option.some.inj q).symm
    rw [List.length_append,im (by omega),q',Sv.pad_len (by rw [Sv.pc_len];omega)]
    omega
  have hl:=h64 n (Nat.le_refl _)
  unfold Sv.cat
  rw [hf]
  by_cases hlt:l.length≤64*n
  ·rw [List.take_append_of_le_length (by omega),Nat.min_eq_left (by omega)]
   rw [Nat.min_eq_left hlt] at ih
   rw [ih,List.take_of_length_le hlt,List.take_of_length_le (by omega)]
  ·rw [List.take_append,hl,List.take_of_length_le (by omega)]
   rw [Nat.min_eq_right (by omega),List.take_of_length_le (by omega)] at ih
   rw [ih]
   have hp:(Sv.pad (Sv.pc l n)).take (min l.length (64*(n+1)) - 64*n)=Sv.pc l n:=by
    unfold Sv.pad
    rw [List.take_append_of_le_length (by rw [Sv.pc_len];omega),List.take_of_length_le (by rw [Sv.pc_len];omega)]
   rw [hp]
   unfold Sv.pc
   rw [Nat.mul_succ,List.take_add]

def Sv.mark (f:Int→List Int):Int:=Sn.fn (f 0) 0
def Sv.at (f:Int→List Int) (a:Int):List Int:=(Sv.cat f a 15).take 919
def Sv.tells (f:Int→List Int):Option (List Int):=if Sv.mark f=1 then some (Sv.at f 1) else if Sv.mark f=20 then some (Sv.at f 20) else none
def Sv.free (f:Int→List Int):Nat:=if Sv.mark f=1 then 20 else 1

theorem Sv.tells_stays {f g:Int→List Int} (h0:g 0=f 0) (h:∀m:Int,(m<Sv.free f∨(Sv.free f:Int)+15≤m)→g m=f m):Sv.tells g=Sv.tells f:=by
 have hm:Sv.mark g=Sv.mark f:=by unfold Sv.mark;rw [h0]
 unfold Sv.tells
 rw [hm]
 unfold Sv.free at h
 by_cases h1:Sv.mark f=1
 ·rw [if_pos h1] at h
  rw [if_pos h1,if_pos h1]
  unfold Sv.at
  rw [Sv.cat_congr (f:=g) (g:=f) (fun i hi=>h _ (by omega))]
 ·rw [if_neg h1] at h
  rw [if_neg h1,if_neg h1]
  by_cases h2:Sv.mark f=20
  ·rw [if_pos h2,if_pos h2]
   unfold Sv.at
   rw [Sv.cat_congr (f:=g) (g:=f) (fun i hi=>h _ (by omega))]
  ·rw [if_neg h2,if_neg h2]

theorem Sv.tells_new {g:Int→List Int} {l:List Int} {a:Nat} (hl:l.length=919) (ha:a=1∨a=20) (h:∀i:Nat,i<15→(Sv.pcs l 15)[i]?=some (g ((a:Int)+i))) (h0:g 0=Sv.pad [(a:Int)]):Sv.tells g=some l:=by
 have hm:Sv.mark g=(a:Int):=by unfold Sv.mark;rw [h0];rfl
 have hc:Sv.at g a=l:=by
  have q:=Sv.cat_pcs (l:=l) (f:=g) (a:=a) (n:=15) (c:=15) (Nat.le_refl _) h
  rw [hl,show min 919 (64*15)=919 by decide,List.take_of_length_le (l:=l) (by omega)] at q
  exact q
 unfold Sv.tells
 rw [hm]
 rcases ha with rfl | rfl
 ·rw [if_pos (by omega)]
  exact congrArg some hc
 ·rw [if_neg (by omega),if_pos (by omega)]
  exact congrArg some hc

end Go.Proofs.YtldgbkjceildfaaGreat

namespace Go.Proofs.YtldgbkjceildfaaGreat
open Go.RowKit Go.Shelf

attribute [local go_sem] Oper.semAt_some

def Sv.pv (b off len k:Nat):Value:=.slice (some ⟨b,off+64*k,none⟩) (min 64 (len - 64*k)) (min 64 (len - 64*k))

def Sv.Keeps (Bs Bn:Nat) (Kp:World→World→Prop):Prop:=∀W W',Kp W W'→W'.cell? ⟨Bs,0,none⟩=W.cell? ⟨Bs,0,none⟩∧W'.cell? ⟨Bn,0,none⟩=W.cell? ⟨Bn,0,none⟩

set_option maxRecDepth 100000 in
set_option maxHeartbeats 4000000 in
theorem chunkEach_in (F:Fence) (n:Nat) (hf:F.fn 97) (hro:F.round=none) (hn:1≤n) (l Bs Bn b off len cap c:Nat) (f:Nat→Nat) (hlen:len≤1048576) (hc1:64*c<len+64) (hc2:len≤64*c) (hcap:len≤cap) (hcm:cap≤9223372036854775807) (hfk:∀k,k<c→f k=k) (Kp:World→World→Prop) (hKp:Sv.Keeps Bs Bn Kp) (J Jx:List Nat→World→Prop) (W:World) (hJ:AbidesFrom W.heap.size J)
  (hY:∀pre x W,J pre W→pre.length<c→YieldAt F (n - 1) Tryz.prog l #[Sv.pv b off len (f x)] W fun e W' =>
   (e=.returned (.bool true)∧J (pre ++ [x]) W'∧Kp W W')∨(e=.returned (.bool false)∧Jx (pre ++ [x]) W'))
  (hBs:W.cell? ⟨Bs,0,none⟩=some (.slice (some ⟨b,off,none⟩) len cap)) (hBn:W.cell? ⟨Bn,0,none⟩=some (.int .i64 64)) (h0:J [] W) :
  CallsIn F n Tryz.prog 97 #[.func (.yield l) #[] #[],.pointer (some ⟨Bs,0,none⟩),.pointer (some ⟨Bn,0,none⟩)] W fun e W'=>(∃v,e=.returned v) ∧
   ((∃ys,ys=List.range c∧J ys W')∨(∃pre,(∃k,k≤c∧pre=List.range k)∧Jx pre W')):=by
 have hJd:∀pre x y,J pre x→x.grownBy y none→J pre y:=fun pre x y h hg=>hJ pre x y none h hg (fun r e=>by cases e)
 clear hJ
 refine callsIn_of_wp Tryz.func97 rfl hf ?_ hro
 simp only [Tryz.ntmps97,List.size_toArray,List.length_cons,List.length_nil,Nat.reduceAdd,Nat.reduceSub,Array.replicate_succ,Array.replicate_zero,List.push_toArray,List.append_toArray,List.nil_append,List.cons_append]
 gi_wp2
 gi_loopw [4] (fun i wr=>∃k:Nat,k≤c∧i=.int .i64 ((64*k:Nat):Int)∧J (List.range k) wr∧wr.cell? ⟨Bs,0,none⟩=some (.slice (some ⟨b,off,none⟩) len cap)∧wr.cell? ⟨Bn,0,none⟩=some (.int .i64 64))
  (fun i _=>len+64 - (intOf i).toNat)
 case atStart=>exact ⟨0,Nat.zero_le _,rfl,h0,hBs,hBn⟩
 case round =>
  obtain ⟨k,hk,rfl,hJs,hS,hN⟩:=hrel
  by_cases hlt:64*k<len
  ·have hkc:k<c:=by omega
   obtain ⟨i,hi⟩:∃i,64*k=i:=⟨_,rfl⟩
   obtain ⟨e,he⟩:∃e,min 64 (len - i)=e:=⟨_,rfl⟩
   have hv:Sv.pv b off len (f k)=.slice (some ⟨b,off+i,none⟩) e e:=by
    unfold Sv.pv
    rw [hfk k hkc,hi,he]
   obtain ⟨fn,tmps,assign,body,hy,hR⟩:=hY _ k wr.drew (hJd _ _ _ hJs (gdw (World.grownBy.refl _ none) 1)) (by rw [List.length_range];exact hkc)
   rw [hv] at hy
   have hR':=hide hR
   rw [hi]
   have i1:(i:Int)<(len:Int):=by omega
   have i2:(i:Int)≤(len:Int):=by omega
   have i3:(i:Int)≤(cap:Int):=by omega
   have i4:(cap:Int)≤9223372036854775807:=by omega
   have i5:(i:Int)≤(i:Int)+(e:Int):=by omega
   have i6:(i:Int)+(e:Int)≤(cap:Int):=by omega
   have i7:(i:Int)≤1048576:=by omega
   have i8:(e:Int)≤64:=by omega
   have i9:min (64:Int) ((len - i:Nat):Int)=(e:Int):=by omega
   have HK:=hide (And.intro hi (And.intro hkc hlt))
   clear hR hv he hi hkc hlt hk hY hfk hc1 hc2 hcap
   have hmx:Tryz.prog.follows .mixedOrders=true:=by kernel_rfl
   have i0:∀(w:World) (ts:Array TypeId) (t:TypeId),(Builtin.min_ ts t #[.int .i64 64,.int .i64 ((len - i:Nat):Int)]).run Tryz.prog w=.ok (.int .i64 (e:Int)) w:=fun w ts t=>by
    rw [run_min_int2,←i9]
    split <;> simp <;> omega
   gi_wp2
   gi_region
   all_goals clear i0
   all_goals (
    gi_wp2
    refine (uh hR').mono ?_
    rintro e0 W3 (⟨rfl,hJ3,hk3⟩ | ⟨rfl,hJx3⟩)
    ·have hS3:=((hKp _ _ hk3).1.trans (World.cell?_drew wr _)).trans hS
     have hN3:=((hKp _ _ hk3).2.trans (World.cell?_drew wr _)).trans hN
     gi_wp2
     go_roundw
     case rel=>exact ⟨k+1,by have:=uh HK;omega,by have:=uh HK;go_num,by rw [List.range_succ];exact hJ3,hS3,hN3⟩
     case measure=>simp [intOf];have:=uh HK;omega
    ·gi_wp2
     refine bodyPost_ret (results_none rfl _ _ _) rfl ?_
     exact ⟨⟨_,rfl⟩,.inr ⟨_,⟨k+1,by have:=uh HK;omega,List.range_succ.symm⟩,hJx3⟩⟩)
  ·have hge:¬((64*k:Nat):Int)<(len:Int):=by omega
   obtain rfl:k=c:=by omega
   obtain ⟨i,hi⟩:∃i,64*k=i:=⟨_,rfl⟩
   rw [hi] at hge ⊢
   clear hi hlt hk
   gi_wp2
   go_end0
   exact ⟨⟨_,rfl⟩,.inl (by first | exact ⟨_,rfl,hJs⟩ | exact hJs)⟩

set_option maxHeartbeats 1000000 in
theorem chunk_in (F:Fence) (n:Nat) (hf:F.fn 59) (hro:F.round=none) (a:Option Addr) (len cap:Nat) (w:World) :
  CallsIn F n Tryz.prog 59 #[.slice a len cap,.int .i64 64] w fun e w'=>e=.returned (.func (.func 97) #[] #[.pointer (some ⟨w.heap.size,0,none⟩),.pointer (some ⟨w.heap.size+1,0,none⟩)])∧w'=(w.alloc (.cells #[.slice a len cap] 24)).alloc (.cells #[.int .i64 64] 3):=by
 refine callsIn_of_wp Tryz.func59 rfl hf ?_ hro
 simp only [Tryz.ntmps59,List.size_toArray,List.length_cons,List.length_nil,Nat.reduceAdd,Nat.reduceSub,Array.replicate_succ,Array.replicate_zero,List.push_toArray,List.append_toArray,List.nil_append,List.cons_append]
 gi_wp2
 go_ret
 exact ⟨rfl,rfl⟩

theorem chunk_stops (F:Fence) (n:Nat) (hf:F.fn 97) (hro:F.round=none) (hn:1≤n) (Bs Bn b off len cap c:Nat) (f:Nat→Nat) (hlen:len≤1048576) (hc1:64*c<len+64) (hc2:len≤64*c) (hcap:len≤cap) (hcm:cap≤9223372036854775807) (hfk:∀k,k<c→f k=k) (Kp:World→World→Prop) (hKp:Sv.Keeps Bs Bn Kp) (w:World) (hBs:w.cell? ⟨Bs,0,none⟩=some (.slice (some ⟨b,off,none⟩) len cap)) (hBn:w.cell? ⟨Bn,0,none⟩=some (.int .i64 64)) :
  SeqStopsK F n Tryz.prog 97 #[.pointer (some ⟨Bs,0,none⟩),.pointer (some ⟨Bn,0,none⟩)] (fun x:Nat=>#[Sv.pv b off len (f x)]) Kp (fun ys=>ys=List.range c) (fun pre=>∃k,k≤c∧pre=List.range k) c w:=fun l J Jx W hW hJ _ hY h0 =>
 chunkEach_in F n hf hro hn l Bs Bn b off len cap c f hlen hc1 hc2 hcap hcm hfk Kp hKp J Jx W hJ hY ((hW.cell (p:=⟨Bs,0,none⟩) (Go.block_lt_of_cell hBs)).trans hBs) ((hW.cell (p:=⟨Bn,0,none⟩) (Go.block_lt_of_cell hBn)).trans hBn) h0

end Go.Proofs.YtldgbkjceildfaaGreat
