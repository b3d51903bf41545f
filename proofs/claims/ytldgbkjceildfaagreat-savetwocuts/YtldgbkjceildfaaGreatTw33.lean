import Derived.Test.YtldgbkjceildfaaGreatTw24
import Derived.Test.YtldgbkjceildfaaGreatTw26
namespace Go.Proofs.YtldgbkjceildfaaGreat
open Go.RowKit

def Sn.voids (j:Nat):Value:=if j=4∨j=5∨j=6 then .slice none 0 0 else .int .i64 0

section
variable {w x y z:World} {P W G o:Nat} {F:Nat→Int} {t nC nE nI:Nat} {vC vE vI:Value}

end

end Go.Proofs.YtldgbkjceildfaaGreat

namespace Go.Proofs.YtldgbkjceildfaaGreat

def Sv.pad (p:List Int):List Int:=p ++ List.replicate (64 - p.length) 0

theorem Sv.pad_len {p:List Int} (h:p.length≤64):(Sv.pad p).length=64:=by
 unfold Sv.pad
 rw [List.length_append,List.length_replicate]
 omega

def Sv.pc (l:List Int) (k:Nat):List Int:=(l.drop (64*k)).take 64

theorem Sv.pc_len (l:List Int) (k:Nat):(Sv.pc l k).length=min 64 (l.length - 64*k):=by
 unfold Sv.pc
 rw [List.length_take,List.length_drop]

def Sv.put (cnt:Nat):Dk.St→Int→List (List Int)→Int × Dk.St
 | s,_,[]=>(0,s)
 | s,a,p :: ps=>if (Dk.wr cnt s a p).1=0 then Sv.put cnt (Dk.wr cnt s a p).2 (a+1) ps else Dk.wr cnt s a p

theorem Sv.put_more (cnt:Nat) (q:List Int):∀(ps:List (List Int)) (s:Dk.St) (a:Int),(Sv.put cnt s a ps).1=0→Sv.put cnt s a (ps ++ [q])=Dk.wr cnt (Sv.put cnt s a ps).2 (a+ps.length) q
 | [],s,a,_=>by
  show (if (Dk.wr cnt s a q).1=0 then ((0:Int),(Dk.wr cnt s a q).2) else Dk.wr cnt s a q)=Dk.wr cnt s (a+0) q
  rw [Int.add_zero]
  split
  ·rename_i h
   rw [←h]
  ·rfl
 | p :: ps,s,a,h=>by
  unfold Sv.put at h
  show (if (Dk.wr cnt s a p).1=0 then Sv.put cnt (Dk.wr cnt s a p).2 (a+1) (ps ++ [q]) else Dk.wr cnt s a p)=_
  by_cases h0:(Dk.wr cnt s a p).1=0
  ·rw [if_pos h0] at h ⊢
   rw [Sv.put_more cnt q ps _ _ h]
   show _=Dk.wr cnt (if (Dk.wr cnt s a p).1=0 then Sv.put cnt (Dk.wr cnt s a p).2 (a+1) ps else Dk.wr cnt s a p).2 (a+((ps.length+1:Nat):Int)) q
   rw [if_pos h0,show a+1+(ps.length:Int)=a+((ps.length+1:Nat):Int) by omega]
  ·rw [if_neg h0] at h
   exact absurd h h0

theorem Sv.put_stop (cnt:Nat) (qs:List (List Int)):∀(ps:List (List Int)) (s:Dk.St) (a:Int),(Sv.put cnt s a ps).1≠0→Sv.put cnt s a (ps ++ qs)=Sv.put cnt s a ps
 | [],s,a,h=>absurd rfl h
 | p :: ps,s,a,h=>by
  unfold Sv.put at h
  show (if (Dk.wr cnt s a p).1=0 then Sv.put cnt (Dk.wr cnt s a p).2 (a+1) (ps ++ qs) else Dk.wr cnt s a p)=(if (Dk.wr cnt s a p).1=0 then Sv.put cnt (Dk.wr cnt s a p).2 (a+1) ps else Dk.wr cnt s a p)
  by_cases h0:(Dk.wr cnt s a p).1=0
  ·rw [if_pos h0] at h
   rw [if_pos h0,if_pos h0,Sv.put_stop cnt qs ps _ _ h]
  ·rw [if_neg h0,if_neg h0]

theorem Sv.wr_is (cnt:Nat) (s:Dk.St) (a:Nat) (p:List Int) (hd:s.dead=false) (ha:a<cnt) (hp:p.length=64) :
  (s.left=0∧Dk.wr cnt s a p=(11,⟨s.f,s.done,0,true⟩))∨(s.left≠0∧Dk.wr cnt s a p=(0,⟨Dk.putF s.f a p,s.done+1,if 0<s.left then s.left - 1 else s.left,false⟩)):=by
 unfold Dk.wr
 have hh:Dk.has cnt (a:Int)=true:=by unfold Dk.has;simp;omega
 rw [if_neg (by rw [hd];simp),if_neg (by rw [hh];simp [hp])]
 by_cases h0:s.left=0
 ·exact .inl ⟨h0,by rw [if_pos h0]⟩
 ·exact .inr ⟨h0,by rw [if_neg h0]⟩

structure Sv.Puts (s:Dk.St) (a:Nat) (ps:List (List Int)) (r:Int × Dk.St):Prop where
 else_:∀m:Int,(m<a∨(a:Int)+ps.length≤m)→r.2.f m=s.f m
 low:s.done≤r.2.done
 high:r.2.done≤s.done+ps.length
 left:r.2.left≤9223372036854775807
 way:(r.1=0∧r.2.dead=false∧(∀i:Nat,i<ps.length→ps[i]?=some (r.2.f ((a:Int)+i)))∧(s.left<0→r.2.left<0))∨(r.1=11∧r.2.dead=true∧0≤s.left)

theorem Sv.puts (cnt:Nat):∀(ps:List (List Int)) (s:Dk.St) (a:Nat),s.dead=false→s.left≤9223372036854775807→a+ps.length≤cnt→(∀p∈ps,p.length=64)→Sv.Puts s a ps (Sv.put cnt s a ps)
 | [],s,a,hd,hl,_,_=>⟨fun _ _=>rfl,Nat.le_refl _,Nat.le_refl _,hl,.inl ⟨rfl,hd,fun i hi=>absurd hi (Nat.not_lt_zero _),fun h=>h⟩⟩
 | p :: ps,s,a,hd,hl,hc,hp=>by
  have hcl:a+(ps.length+1)≤cnt:=hc
  unfold Sv.put
  rcases Sv.wr_is cnt s a p hd (by omega) (hp p (List.mem_cons_self ..)) with ⟨h0,e⟩ | ⟨h0,e⟩
  ·rw [e,if_neg (by simp)]
   exact ⟨fun _ _=>rfl,Nat.le_refl _,Nat.le_add_right _ _,by simp,.inr ⟨rfl,rfl,by rw [h0];exact Int.le_refl _⟩⟩
  ·rw [e,if_pos rfl]
   simp only
   have hl1:(if 0<s.left then s.left - 1 else s.left)≤9223372036854775807:=by split <;> omega
   have h:=Sv.puts cnt ps ⟨Dk.putF s.f a p,s.done+1,if 0<s.left then s.left - 1 else s.left,false⟩ (a+1) rfl hl1 (by omega) (fun q hq=>hp q (List.mem_cons_of_mem _ hq))
   rw [show (a:Int)+1=((a+1:Nat):Int) by omega]
   obtain ⟨r,hr⟩:∃r,Sv.put cnt ⟨Dk.putF s.f a p,s.done+1,if 0<s.left then s.left - 1 else s.left,false⟩ ((a+1:Nat):Int) ps=r:=⟨_,rfl⟩
   rw [hr] at h ⊢
   clear hr
   have hlen:((p :: ps).length:Int)=(ps.length:Int)+1:=by simp
   have hlenN:(p :: ps).length=ps.length+1:=rfl
   have hlow:s.done+1≤r.2.done:=h.low
   have hhigh:r.2.done≤s.done+1+ps.length:=h.high
   refine ⟨fun m hm=>?_,by omega,by rw [hlenN];omega,h.left,?_⟩
   ·rw [hlen] at hm
    rw [h.else_ m (by omega)]
    show Dk.putF s.f a p m=s.f m
    unfold Dk.putF
    rw [if_neg (by omega)]
   ·rcases h.way with ⟨h1,h2,h3,h4⟩ | ⟨h1,h2,h3⟩
    ·refine .inl ⟨h1,h2,fun i hi=>?_,fun hlt=>h4 (by simp only;rw [if_neg (by omega)];exact hlt)⟩
     cases i with
     | zero =>
      rw [h.else_ _ (by omega)]
      show some p=some (Dk.putF s.f a p (a+((0:Nat):Int)))
      unfold Dk.putF
      rw [if_pos (by omega)]
     | succ i =>
      rw [List.getElem?_cons_succ,h3 i (by omega),show ((a+1:Nat):Int)+(i:Int)=(a:Int)+((i+1:Nat):Int) by omega]
    ·simp only at h3
     refine .inr ⟨h1,h2,?_⟩
     split at h3 <;> omega

def Sv.cat (f:Int→List Int) (a:Int):Nat→List Int
 | 0=>[]
 | n+1=>Sv.cat f a n ++ f (a+n)

theorem Sv.cat_congr {f g:Int→List Int} {a:Int}:∀{n:Nat},(∀i:Nat,i<n→f (a+i)=g (a+i))→Sv.cat f a n=Sv.cat g a n
 | 0,_=>rfl
 | n+1,h=>by
  unfold Sv.cat
  rw [Sv.cat_congr (fun i hi=>h i (by omega)),h n (by omega)]

def Sv.pcs (l:List Int) (c:Nat):List (List Int):=(List.range c).map fun k=>Sv.pad (Sv.pc l k)

theorem Sv.pcs_len (l:List Int) (c:Nat):(Sv.pcs l c).length=c:=by simp [Sv.pcs]

theorem Sv.pcs_each {l:List Int} {c:Nat}:∀p∈Sv.pcs l c,p.length=64:=by
 intro p hp
 obtain ⟨k,_,rfl⟩:=List.mem_map.1 hp
 exact Sv.pad_len (by rw [Sv.pc_len];omega)

theorem Sv.cat_pcs {l:List Int} {f:Int→List Int} {a:Int}:∀{n c:Nat},n≤c→(∀i:Nat,i<c→(Sv.pcs l c)[i]?=some (f (a+i)))→(Sv.cat f a n).take (min l.length (64*n))=l.take (64*n)
 | 0,c,_,_=>by simp [Sv.cat]
 | n+1,c,hc,h=>by
  have ih:=Sv.cat_pcs (l:=l) (f:=f) (a:=a) (n:=n) (c:=c) (by omega) h
  have hf:f (a+n)=Sv.pad (Sv.pc l n):=by
   have q:=h n (by omega)
   unfold Sv.pcs at q
   rw [List.getElem?_map,List.getElem?_range (by omega)] at q
   exact (Option.some.inj q).symm
  have h64:∀m,m≤n→(Sv.cat f a m).length=64*m:=by
   intro m
   induction m with
   | zero=>intro _;rfl
   | succ m im =>
    intro hm
    unfold Sv.cat
    have q:=h m (by omega)
    unfold Sv.pcs at q
    rw [List.getElem?_map,List.getElem?_range (by omega)] at q
    have q':=(Option.some.inj q).symm
    rw [List.length_append,im (by omega),q',Sv.pad_len (by rw [Sv.pc_len];omega)]
    omega
  have hl:=h64 n (Nat.le_refl _)
  unfold Sv.cat
  rw [hf]
  by_cases hlt:l.length≤64*n
  ·rw [List.take_append_of_le_length (by omega),Nat.min_eq_left (by omega)]
   rw [Nat.min_eq_left hlt] at ih
   rw [ih,List.take_of_length_le hlt,List.take_of_length_le (by omega)]
  ·rw [List.take_append,hl,List.take_of_length_le (by omega)]
   rw [Nat.min_eq_right (by omega),List.take_of_length_le (by omega)] at ih
   rw [ih]
   have hp:(Sv.pad (Sv.pc l n)).take (min l.length (64*(n+1)) - 64*n)=Sv.pc l n:=by
    unfold Sv.pad
    rw [List.take_append_of_le_length (by rw [Sv.pc_len];omega),List.take_of_length_le (by rw [Sv.pc_len];omega)]
   rw [hp]
   unfold Sv.pc
   rw [Nat.mul_succ,List.take_add]

def Sv.mark (f:Int→List Int):Int:=Sn.fn (f 0) 0
def Sv.at (f:Int→List Int) (a:Int):List Int:=(Sv.cat f a 15).take 919
def Sv.tells (f:Int→List Int):Option (List Int):=if Sv.mark f=1 then some (Sv.at f 1) else if Sv.mark f=20 then some (Sv.at f 20) else none
def Sv.free (f:Int→List Int):Nat:=if Sv.mark f=1 then 20 else 1

theorem Sv.tells_stays {f g:Int→List Int} (h0:g 0=f 0) (h:∀m:Int,(m<Sv.free f∨(Sv.free f:Int)+15≤m)→g m=f m):Sv.tells g=Sv.tells f:=by
 have hm:Sv.mark g=Sv.mark f:=by unfold Sv.mark;rw [h0]
 unfold Sv.tells
 rw [hm]
 unfold Sv.free at h
 by_cases h1:Sv.mark f=1
 ·rw [if_pos h1] at h
  rw [if_pos h1,if_pos h1]
  unfold Sv.at
  rw [Sv.cat_congr (f:=g) (g:=f) (fun i hi=>h _ (by omega))]
 ·rw [if_neg h1] at h
  rw [if_neg h1,if_neg h1]
  by_cases h2:Sv.mark f=20
  ·rw [if_pos h2,if_pos h2]
   unfold Sv.at
   rw [Sv.cat_congr (f:=g) (g:=f) (fun i hi=>h _ (by omega))]
  ·rw [if_neg h2,if_neg h2]

theorem Sv.tells_new {g:Int→List Int} {l:List Int} {a:Nat} (hl:l.length=919) (ha:a=1∨a=20) (h:∀i:Nat,i<15→(Sv.pcs l 15)[i]?=some (g ((a:Int)+i))) (h0:g 0=Sv.pad [(a:Int)]):Sv.tells g=some l:=by
 have hm:Sv.mark g=(a:Int):=by unfold Sv.mark;rw [h0];rfl
 have hc:Sv.at g a=l:=by
  have q:=Sv.cat_pcs (l:=l) (f:=g) (a:=a) (n:=15) (c:=15) (Nat.le_refl _) h
  rw [hl,show min 919 (64*15)=919 by decide,List.take_of_length_le (l:=l) (by omega)] at q
  exact q
 unfold Sv.tells
 rw [hm]
 rcases ha with rfl | rfl
 ·rw [if_pos (by omega)]
  exact congrArg some hc
 ·rw [if_neg (by omega),if_pos (by omega)]
  exact congrArg some hc


open Go.RowKit

theorem Sn.text_eq {c d:Nat→Int} (hc:∀i,0≤c i∧c i≤255) (hd:∀i,0≤d i∧d i≤255):Gd.text c=Gd.text d↔∀i,i<384→c i=d i:=by
 constructor
 ·intro e i hi
  have e2:(Gd.text c).data.toList=(Gd.text d).data.toList:=by rw [e]
  unfold Gd.text at e2
  rw [strOfNums_data,strOfNums_data,List.map_map,List.map_map] at e2
  have e3:=congrArg (fun l:List UInt8=>l[i]?) e2
  simp [List.getElem?_map,List.getElem?_range hi] at e3
  have e4:=congrArg UInt8.toNat e3
  simp at e4
  have h1:=hc i
  have h2:=hd i
  omega
 ·intro e
  unfold Gd.text
  congr 1
  exact List.map_congr_left fun i hi=>e i (List.mem_range.1 hi)

theorem Sn.text_ne {c d:Nat→Int} (hc:∀i,0≤c i∧c i≤255) (hd:∀i,0≤d i∧d i≤255):((Gd.text c).toList == (Gd.text d).toList)=Sn.allB (fun i=>c i == d i) 384:=by
 by_cases e:∀i,i<384→c i=d i
 ·rw [Sn.allB_yes fun i hi=>by simpa using e i hi,(Sn.text_eq hc hd).2 e]
  simp
 ·have hn:(Gd.text c).toList≠(Gd.text d).toList:=fun q=>by
   rw [ByteArray.toList_eq,ByteArray.toList_eq] at q
   exact e ((Sn.text_eq hc hd).1 (congrArg ByteArray.mk (Array.toList_inj.1 q)))
  have hx:∃i,i<384∧c i≠d i:=Classical.byContradiction fun q=>e fun i hi=>Classical.byContradiction fun r=>q ⟨i,hi,r⟩
  obtain ⟨i,hi,hne⟩:=hx
  rw [Sn.allB_no (k:=i) (by simpa using hne) hi]
  simpa using hn

theorem run_ne_gold (g h:Nat→Int) (w:World):(binOp .neq 28 (.agg #[.int .i64 (g 0),.int .i64 (g 1),.int .i64 (g 2),.int .i64 (g 3)]) (.agg #[.int .i64 (h 0),.int .i64 (h 1),.int .i64 (h 2),.int .i64 (h 3)])).run Tryz.prog w=.ok (.bool (!Sn.sameG g h)) w:=by
 have hg:=fun d w=>run_equal_gold d g h w
 generalize Sn.sameG g h=q at hg ⊢
 simp [go_sem,hg]

theorem Sn.sameH_no_s {s t g h:Nat→Int} {j:Nat} (hj:j<4) (hn:s j≠t j):Sn.sameH s t g h=false:=by
 cases e:Sn.sameH s t g h with
 | false=>rfl
 | true=>exact absurd (((Sn.sameH_iff s t g h).1 e).1 j hj) hn


open Go.RowKit

def Sn.sameW (s t g h c d:Nat→Int) (E F I J:Nat→Nat→Int):Bool :=
 Sn.sameH s t g h && (Sn.allB (fun i=>c i == d i) 384 && (Sn.allB (fun i=>Sn.sameE (E i) (F i)) 32 && Sn.allB (fun i=>Sn.sameI (I i) (J i)) 40))

end Go.Proofs.YtldgbkjceildfaaGreat
