import Derived.Test.YtldgbkjceildfaaGreatBy10
namespace Go.Proofs.YtldgbkjceildfaaGreat
open Go.RowKit

theorem run_eq_place (a b c a' b' c':Int) (w:World):(binOp .eql 157 (.agg #[.int .i64 a,.int .i64 b,.int .i64 c]) (.agg #[.int .i64 a',.int .i64 b',.int .i64 c'])).run Tryz.prog w=.ok (.bool (decide (a=a') && (decide (b=b') && decide (c=c')))) w:=by
 by_cases h1:a=a' <;> by_cases h2:b=b' <;> by_cases h3:c=c' <;> simp [go_sem,h1,h2,h3]

theorem run_eq_item (k a b c k' a' b' c':Int) (w:World):(binOp .eql 72 (.agg #[.int .i64 k,.int .i64 a,.int .i64 b,.int .i64 c]) (.agg #[.int .i64 k',.int .i64 a',.int .i64 b',.int .i64 c'])).run Tryz.prog w=.ok (.bool (decide (k=k') && (decide (a=a') && (decide (b=b') && decide (c=c'))))) w:=by
 by_cases h0:k=k' <;> by_cases h1:a=a' <;> by_cases h2:b=b' <;> by_cases h3:c=c' <;> simp [go_sem,h0,h1,h2,h3]

theorem run_ne_item (k a b c k' a' b' c':Int) (w:World):(binOp .neq 72 (.agg #[.int .i64 k,.int .i64 a,.int .i64 b,.int .i64 c]) (.agg #[.int .i64 k',.int .i64 a',.int .i64 b',.int .i64 c'])).run Tryz.prog w=.ok (.bool (!(decide (k=k') && (decide (a=a') && (decide (b=b') && decide (c=c')))))) w:=by
 by_cases h0:k=k' <;> by_cases h1:a=a' <;> by_cases h2:b=b' <;> by_cases h3:c=c' <;> simp [go_sem,h0,h1,h2,h3]

theorem goodsPlace_any (k p a b:Int) (w:World):Calls Tryz.prog 112 #[.agg #[.int .i64 k,.int .i64 p,.int .i64 a,.int .i64 b]] w (Says w (.agg #[.int .i64 p,.int .i64 a,.int .i64 b])):=by
 have hg:=hide (fun (o1 o2:Obj)=>gal (World.grownBy_alloc w o1 none) o2);go_enter Tryz.func112,Tryz.ntmps112;go_wp2;refine bodyPost_ret (v:=.agg #[.int .i64 p,.int .i64 a,.int .i64 b]) (by simp [results,Tryz.results112,go_sem]) rfl ?_;exact ⟨rfl,uh hg _ _⟩

theorem wornBy_any (seat kind:Int) (h0:0≤kind) (h1:kind≤100) (w:World):Calls Tryz.prog 122 #[.int .i64 seat,.int .i64 kind] w (Says w (.agg #[.int .i64 3,.int .i64 seat,.int .i64 (kind - 2)])):=by
 have hg:=hide (fun (o1:Obj)=>World.grownBy_alloc w o1 none);go_enter Tryz.func122,Tryz.ntmps122;go_wp2;refine bodyPost_ret (v:=.agg #[.int .i64 3,.int .i64 seat,.int .i64 (kind - 2)]) (by simp [results,Tryz.results122,go_sem]) rfl ?_;exact ⟨rfl,uh hg _⟩

def Gd.serves (k input:Int):Bool:=if input=6 then decide (k=1) else if input=7 then decide (k=2) || decide (k=3) else true

theorem serves_any (k input:Int) (w:World):Calls Tryz.prog 121 #[.int .i64 k,.int .i64 input] w fun e w'=>e=.returned (.bool (Gd.serves k input))∧w'=w:=by
 unfold Gd.serves;by_cases h6:input=6
 ·rw [if_pos h6];go_enter Tryz.func121,Tryz.ntmps121;go_wp2;go_ret;exact ⟨rfl,rfl⟩
 ·rw [if_neg h6];by_cases h7:input=7
  ·rw [if_pos h7];by_cases h2:k=2
   ·subst h2;go_enter Tryz.func121,Tryz.ntmps121;go_wp2;go_ret;exact ⟨rfl,rfl⟩
   ·rw [decide_eq_false h2];by_cases h3:k=3
    ·subst h3;go_enter Tryz.func121,Tryz.ntmps121;go_wp2;go_ret;exact ⟨rfl,rfl⟩
    ·rw [decide_eq_false h3];have h2':(k == 2)=false:=by simp [h2]
     have h3':(k == 3)=false:=by simp [h3]
     go_enter Tryz.func121,Tryz.ntmps121;go_wp2;go_ret;exact ⟨by simp,rfl⟩
  ·rw [if_neg h7];go_enter Tryz.func121,Tryz.ntmps121;go_wp2;go_ret;exact ⟨rfl,rfl⟩

def Gd.isSeat (s:Int):Bool:=decide (0≤s∧s<4)

theorem isSeat_any (s:Int) (w:World):Calls Tryz.prog 120 #[.int .i64 s] w fun e w'=>e=.returned (.bool (Gd.isSeat s))∧w'=w:=by
 unfold Gd.isSeat;by_cases h0:0≤s
 ·have e:decide (0≤s∧s<4)=decide (s<4):=by simp [h0]
  rw [e];go_enter Tryz.func120,Tryz.ntmps120;go_wp2;go_ret;exact ⟨rfl,rfl⟩
 ·have e:decide (0≤s∧s<4)=false:=by simp [h0]
  rw [e];go_enter Tryz.func120,Tryz.ntmps120;go_wp2;go_ret;exact ⟨rfl,rfl⟩

def Gd.zeroB (k p a b:Int):Bool:=decide (k=0∧p=0∧a=0∧b=0)

theorem isGone_yes (w:World):Calls Tryz.prog 109 #[.agg #[.int .i64 0,.int .i64 0,.int .i64 0,.int .i64 0]] w (Says w (.bool true)):=by
 have hg:=hide (fun (o1:Obj)=>World.grownBy_alloc w o1 none);go_enter Tryz.func109,Tryz.ntmps109;go_wp2;go_ret;exact ⟨rfl,uh hg _⟩

theorem isGone_no (k p a b:Int) (h:Gd.zeroB k p a b=false) (w:World):Calls Tryz.prog 109 #[.agg #[.int .i64 k,.int .i64 p,.int .i64 a,.int .i64 b]] w (Says w (.bool false)):=by
 have hg:=hide (fun (o1:Obj)=>World.grownBy_alloc w o1 none);have h':¬(k=0∧p=0∧a=0∧b=0):=of_decide_eq_false h;have e:=hide h';clear h h';go_enter Tryz.func109,Tryz.ntmps109;go_wp2;all_goals first | exact absurd (And.intro ‹k=0› (And.intro ‹p=0› (And.intro ‹a=0› ‹b=0›))) (uh e) | (go_ret;exact ⟨rfl,uh hg _⟩)

theorem isGone_any (k p a b:Int) (w:World):Calls Tryz.prog 109 #[.agg #[.int .i64 k,.int .i64 p,.int .i64 a,.int .i64 b]] w (Says w (.bool (Gd.zeroB k p a b))):=by
 by_cases h:Gd.zeroB k p a b=true
 ·rw [h];obtain ⟨rfl,rfl,rfl,rfl⟩:k=0∧p=0∧a=0∧b=0:=of_decide_eq_true h;exact isGone_yes w
 ·have h':Gd.zeroB k p a b=false:=by simpa using h
  rw [h'];exact isGone_no k p a b h' w


open Go.RowKit

theorem Gd.inQ_no {I:Nat→Nat→Int} {p a q:Int} {k:Nat} (h:¬(I k 1=p∧I k 2=a∧I k 3=q)):Gd.inQ I p a q k=false:=by
 simp only [Gd.inQ,Bool.and_eq_false_iff,decide_eq_false_iff_not];by_cases h1:I k 1=p
 ·by_cases h2:I k 2=a
  ·exact .inr (.inr fun h3=>h ⟨h1,h2,h3⟩)
  ·exact .inr (.inl h2)
 ·exact .inl h1

theorem Gd.inQ_yes {I:Nat→Nat→Int} {p a q:Int} {k:Nat} (h1:I k 1=p) (h2:I k 2=a) (h3:I k 3=q):Gd.inQ I p a q k=true:=by
 simp [Gd.inQ,h1,h2,h3]

set_option maxHeartbeats 1600000 in
theorem goodsAt_any (b n c:Nat) (I:Nat→Nat→Int) (p a q:Int) (w:World) (hI:Its w b 0 n I) :
  Calls Tryz.prog 111 #[.slice (some ⟨b,0,none⟩) n c,.agg #[.int .i64 p,.int .i64 a,.int .i64 q]] w (Says w (.int .i64 (Gd.find I n p a q))):=by
 have hn:=hI.1;have hI':=hide hI;clear hI;go_enter Tryz.func111,Tryz.ntmps111;go_wp2_with fail
 go_loopw [9] (fun i wr=>∃k:Nat,k≤n∧i=.int .i64 (k:Int)∧(∀j,j<k→Gd.inQ I p a q j=false)∧Arr wr w.heap.size 157 3 (fun j=>#[Value.int .i64 p,.int .i64 a,.int .i64 q][j]?.getD undef)∧w.grownBy wr none) (fun i _=>200 - (intOf i).toNat)
 case atStart=>exact ⟨0,by omega,rfl,fun j hj=>by omega,Arr.lit (heap_alloc_new w _),World.grownBy_alloc _ _ _⟩
 case round =>
  obtain ⟨k,hk,rfl,hno,hp,hgr⟩:=hrel;have hno':=hide hno;have hgr':=hide hgr;have hp':=hide hp;have p0:wr.cell? ⟨w.heap.size,0,none⟩=some (.int .i64 p):=hp.cell (i:=0) (by omega);have p1:wr.cell? ⟨w.heap.size,1,none⟩=some (.int .i64 a):=hp.cell (i:=1) (by omega);have p2:wr.cell? ⟨w.heap.size,2,none⟩=some (.int .i64 q):=hp.cell (i:=2) (by omega);have hlw:=hp.lt;clear hno hgr hp;by_cases hlt:k<n
  ·obtain ⟨u0,u1,u2,u3⟩:=((uh hI').on (uh hgr')).row hlt;have hlt':(k:Int)<(n:Int):=by omega
   have HL:=hide hlt;clear hlt;go_wp2_with fail;obtain ⟨wb,hwb⟩:∃wb,wr.alloc (.cells #[.int .i64 (I k 0),.int .i64 (I k 1),.int .i64 (I k 2),.int .i64 (I k 3)] 72)=wb:=⟨_,rfl⟩;have hga:wr.grownBy wb none:=by rw [←hwb];exact World.grownBy_alloc _ _ _
   have hnew:=fun j (hj:j<4)=>(Arr.lit (heap_alloc_new wr (.cells #[.int .i64 (I k 0),.int .i64 (I k 1),.int .i64 (I k 2),.int .i64 (I k 3)] 72))).cell (i:=j) hj;rw [hwb] at hnew ⊢;have hsz:wr.heap.size<wb.heap.size:=by rw [←hwb];simp
   refine wp_region_grown (by kernel_rfl) (by kernel_rfl) ?_;intro St hN W hI hx;have c0:∀σ,(W σ).cell? ⟨wr.heap.size,0,none⟩=some (.int .i64 (I k 0)):=fun σ=>(gce (hI σ) _ 0 hsz (by simp)).trans (hnew 0 (by omega));have c1:∀σ,(W σ).cell? ⟨wr.heap.size,1,none⟩=some (.int .i64 (I k 1)):=fun σ=>(gce (hI σ) _ 1 hsz (by simp)).trans (hnew 1 (by omega));have c2:∀σ,(W σ).cell? ⟨wr.heap.size,2,none⟩=some (.int .i64 (I k 2)):=fun σ=>(gce (hI σ) _ 2 hsz (by simp)).trans (hnew 2 (by omega));have c3:∀σ,(W σ).cell? ⟨wr.heap.size,3,none⟩=some (.int .i64 (I k 3)):=fun σ=>(gce (hI σ) _ 3 hsz (by simp)).trans (hnew 3 (by omega));have d0:∀σ,(W σ).cell? ⟨w.heap.size,0,none⟩=some (.int .i64 p):=fun σ=>(gce (gtr hga (hI σ)) _ 0 hlw (by simp)).trans p0;have d1:∀σ,(W σ).cell? ⟨w.heap.size,1,none⟩=some (.int .i64 a):=fun σ=>(gce (gtr hga (hI σ)) _ 1 hlw (by simp)).trans p1;have d2:∀σ,(W σ).cell? ⟨w.heap.size,2,none⟩=some (.int .i64 q):=fun σ=>(gce (gtr hga (hI σ)) _ 2 hlw (by simp)).trans p2;have cp:∀σ,Calls Tryz.prog 112 #[.agg #[.int .i64 (I k 0),.int .i64 (I k 1),.int .i64 (I k 2),.int .i64 (I k 3)]] (W σ) fun e w''=>e=.returned (.agg #[.int .i64 (I k 1),.int .i64 (I k 2),.int .i64 (I k 3)])∧∃σ',w''=W σ':=fun σ=>calls_class hI hx (goodsPlace_any _ _ _ _ _);have hI2:=hide hI;have hga':=hide hga;clear hI hx p0 p1 p2 u0 u1 u2 u3 hnew hwb hsz hga;by_cases hq:I k 1=p∧I k 2=a∧I k 3=q
   ·have hqt:=hide (Gd.inQ_yes hq.1 hq.2.1 hq.2.2);obtain ⟨h1,h2,h3⟩:=hq;rw [h1,h2,h3] at cp;rw [h1] at c1;rw [h2] at c2;rw [h3] at c3;clear h1 h2 h3
    repeat (go_big_quiet_step ((go_at_call 112;exact cp _)))
    refine wpQuiet_nil ?_;rintro _ ⟨σ,rfl⟩;obtain ⟨wq,hwq⟩:∃wq,W σ=wq:=⟨_,rfl⟩;have hgq:=hide (uh hI2 σ);rw [hwq] at hgq ⊢;clear c0 c1 c2 c3 d0 d1 d2 cp hI2 hwq;clear σ W hN St;have he:=hide (En.first_hit (uh hno') (uh hqt) (uh HL));have hfin:=hide (gtr (uh hgr') (gtr (uh hga') (uh hgq)));go_wp2;go_ret;exact ⟨rti (uh he).symm,uh hfin⟩
   ·have hqf:=hide (Gd.inQ_no hq);have hcmp:∀wx:World,(binOp .eql 157 (.agg #[.int .i64 (I k 1),.int .i64 (I k 2),.int .i64 (I k 3)]) (.agg #[.int .i64 p,.int .i64 a,.int .i64 q])).run Tryz.prog wx=.ok (.bool false) wx:=fun wx=>by rw [run_eq_place];exact congrArg (fun z=>Result.ok (Value.bool z) wx) (uh hqf)
    clear hq
    repeat (go_big_quiet_step ((go_at_call 112;exact cp _)))
    refine wpQuiet_nil ?_;rintro _ ⟨σ,rfl⟩;obtain ⟨wq,hwq⟩:∃wq,W σ=wq:=⟨_,rfl⟩;have hgq:=hide (uh hI2 σ);rw [hwq] at hgq ⊢;clear c0 c1 c2 c3 d0 d1 d2 cp hI2 hwq;clear σ W hN St;have hfin:=hide (gtr (uh hgr') (gtr (uh hga') (uh hgq)));have hpq:=hide ((uh hp').grown (gtr (uh hga') (uh hgq)) (by simp));clear hcmp;go_wp2;go_roundw;case rel=>exact ⟨k+1,by have:=uh HL;omega,by go_num,fun j hj=>by
     by_cases e:j=k
     ·rw [e];exact uh hqf
     ·exact uh hno' j (by omega),uh hpq,uh hfin⟩
    case measure=>simp [intOf];omega
  ·have hge:¬(k:Int)<(n:Int):=by omega
   have he:=hide (En.first_none (n:=n) (fun j hj=>uh hno' j (by omega)));go_wp2;go_ret;exact ⟨rti (uh he).symm,uh hgr'⟩


open Go.RowKit

def Gd.carQ (I:Nat→Nat→Int) (n:Nat) (seat:Int) (t:Int→Bool):Nat→Bool:=fun b=>decide (0≤Gd.find I n 2 seat (b:Int)) && t (I (Gd.find I n 2 seat (b:Int)).toNat 0)

def Gd.car (I:Nat→Nat→Int) (n:Nat) (seat:Int) (t:Int→Bool):Int:=if 0≤En.first (Gd.carQ I n seat t) 4 then Gd.find I n 2 seat (En.first (Gd.carQ I n seat t) 4) else -1

theorem Gd.has_car (I:Nat→Nat→Int) (n:Nat) (seat lo hi:Int):Gd.has I n seat lo hi=Gd.car I n seat (fun k=>decide (lo≤k) && decide (k≤hi)):=rfl

theorem Gd.car_hit {I:Nat→Nat→Int} {n:Nat} {seat:Int} {t:Int→Bool} {k:Nat} (hno:∀j,j<k→Gd.carQ I n seat t j=false) (hk:Gd.carQ I n seat t k=true) (h4:k<4):Gd.car I n seat t=Gd.find I n 2 seat (k:Int):=by
 unfold Gd.car;rw [En.first_hit hno hk h4,if_pos (by omega)]

theorem Gd.car_none {I:Nat→Nat→Int} {n:Nat} {seat:Int} {t:Int→Bool} (hno:∀j,j<4→Gd.carQ I n seat t j=false):Gd.car I n seat t=-1:=by
 unfold Gd.car;rw [En.first_none hno,if_neg (by omega)]

theorem Gd.find_lt {I:Nat→Nat→Int} {n:Nat} {p a q:Int} (h:0≤Gd.find I n p a q):(Gd.find I n p a q).toNat<n∧Gd.find I n p a q=((Gd.find I n p a q).toNat:Int):=by
 obtain ⟨k,hk,e,_⟩:=Gd.find_pos h;rw [e];simp [hk]


open Go.RowKit

theorem Ents.flat {w:World} {b n:Nat} {E:Nat→Nat→Int} (h:Ents w b n E) {c:Nat} (hc:c<n*11):w.cell? ⟨b,c,none⟩=some (En.flat E c):=by
 have:=h.2.2 (c / 11) (c % 11) (by omega) (by omega)
 rwa [show c / 11*11+c % 11=c by omega] at this

def En.list (n:Nat) (E:Nat→Nat→Int):List Value:=(List.range (n*11)).map (En.flat E)

theorem En.list_len (n:Nat) (E:Nat→Nat→Int):(En.list n E).length=n*11:=by simp [En.list]

theorem En.list_at {n:Nat} {E:Nat→Nat→Int} {c:Nat} (hc:c<n*11):(En.list n E)[c]?=some (En.flat E c):=by
 unfold En.list;rw [List.getElem?_map,List.getElem?_range hc];rfl

theorem En.list_one {n:Nat} {E:Nat→Nat→Int}:∀v∈En.list n E,v.oneCell'=true:=by
 intro v hv;unfold En.list at hv;obtain ⟨c,_,rfl⟩:=List.mem_map.1 hv;rfl

theorem Ents.src {w:World} {b n:Nat} {E:Nat→Nat→Int} (h:Ents w b n E):∀j v,(En.list n E)[j]?=some v→w.cell? ((⟨b,0,none⟩:Addr).add j)=some v:=by
 intro j v hj;have hlt:j<n*11:=by
  have:=(List.getElem?_eq_some_iff.1 hj).1
  rwa [En.list_len] at this
 rw [En.list_at hlt] at hj;rw [show (⟨b,0,none⟩:Addr).add j=⟨b,j,none⟩ by rw [Go.WideShapes.add_plain,Nat.zero_add],h.flat hlt];exact hj

end Go.Proofs.YtldgbkjceildfaaGreat
