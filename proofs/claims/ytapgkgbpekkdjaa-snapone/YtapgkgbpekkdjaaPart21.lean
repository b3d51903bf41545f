import Derived.Deep.Cut
import Derived.Test.YtapgkgbpekkdjaaPart20
namespace Go.Proofs.Ytapgkgbpekkdjaa
open Go.RowKit

set_option maxHeartbeats 400000 in
theorem within11_at (a n:Int) (w:World) (hn:0<n) (hn2:n≤4611686018427387904) :
  Calls Try.prog 13 #[.int .i64 a,.int .i64 n] w fun e w'=>e=.returned (.int .i64 (a % n))∧w'=w:=by
 have t1:=Int.tmod_lt_of_pos a (b:=n) hn
 have t2:=Int.lt_tmod_of_pos a (b:=n) hn
 have hn0:(n == 0)=false:=by simp;omega
 by_cases h:a.tmod n<0
 ·have ha:¬0≤a:=by
   intro h0
   have:=Int.tmod_nonneg n h0
   omega
  have hd:=hide (Gr.within_neg a n hn h)
  go_enter Try.func13,Try.ntmps13
  go_wp2
  go_ret
  exact ⟨rti (uh hd),rfl⟩
 ·have hd:=hide (Gr.within_pos a n hn h)
  by_cases ha:0≤a
  ·have e:a.tmod n=a % n:=Int.tmod_eq_emod_of_nonneg ha
   have h':¬a % n<0:=by rw [←e];exact h
   clear h t1 t2 e
   go_enter Try.func13,Try.ntmps13
   go_wp2
   go_ret
   exact ⟨rfl,rfl⟩
  ·go_enter Try.func13,Try.ntmps13
   go_wp2
   go_ret
   exact ⟨rti (uh hd),rfl⟩


open Go.RowKit

theorem Gd.inQ_no {I:Nat→Nat→Int} {p a q:Int} {k:Nat} (h:¬(I k 1=p∧I k 2=a∧I k 3=q)):Gd.inQ I p a q k=false:=by
 simp only [Gd.inQ,Bool.and_eq_false_iff,decide_eq_false_iff_not]
 by_cases h1:I k 1=p
 ·by_cases h2:I k 2=a
  ·exact .inr (.inr fun h3=>h ⟨h1,h2,h3⟩)
  ·exact .inr (.inl h2)
 ·exact .inl h1

theorem Gd.inQ_yes {I:Nat→Nat→Int} {p a q:Int} {k:Nat} (h1:I k 1=p) (h2:I k 2=a) (h3:I k 3=q):Gd.inQ I p a q k=true:=by
 simp [Gd.inQ,h1,h2,h3]

set_option maxHeartbeats 1600000 in
theorem goodsAt_any (b n c:Nat) (I:Nat→Nat→Int) (p a q:Int) (w:World) (hI:Its w b 0 n I) :
  Calls Try.prog 54 #[.slice (some ⟨b,0,none⟩) n c,.agg #[.int .i64 p,.int .i64 a,.int .i64 q]] w (Says w (.int .i64 (Gd.find I n p a q))):=by
 have hn:=hI.1
 have hI':=hide hI
 clear hI
 go_enter Try.func54,Try.ntmps54
 go_wp2_with fail
 go_loopw [9] (fun i wr=>∃k:Nat,k≤n∧i=.int .i64 (k:Int)∧(∀j,j<k→Gd.inQ I p a q j=false)∧Arr wr w.heap.size 95 3 (fun j=>#[Value.int .i64 p,.int .i64 a,.int .i64 q][j]?.getD undef)∧w.grownBy wr none) (fun i _=>200 - (intOf i).toNat)
 case atStart=>exact ⟨0,by omega,rfl,fun j hj=>by omega,Arr.lit (heap_alloc_new w _),World.grownBy_alloc _ _ _⟩
 case round =>
  obtain ⟨k,hk,rfl,hno,hp,hgr⟩:=hrel
  have hno':=hide hno
  have hgr':=hide hgr
  have hp':=hide hp
  have p0:wr.cell? ⟨w.heap.size,0,none⟩=some (.int .i64 p):=hp.cell (i:=0) (by omega)
  have p1:wr.cell? ⟨w.heap.size,1,none⟩=some (.int .i64 a):=hp.cell (i:=1) (by omega)
  have p2:wr.cell? ⟨w.heap.size,2,none⟩=some (.int .i64 q):=hp.cell (i:=2) (by omega)
  have hlw:=hp.lt
  clear hno hgr hp
  by_cases hlt:k<n
  ·obtain ⟨u0,u1,u2,u3⟩:=((uh hI').on (uh hgr')).row hlt
   have hlt':(k:Int)<(n:Int):=by omega
   have HL:=hide hlt
   clear hlt
   go_wp2_with fail
   obtain ⟨wb,hwb⟩:∃wb,wr.alloc (.cells #[.int .i64 (I k 0),.int .i64 (I k 1),.int .i64 (I k 2),.int .i64 (I k 3)] 47)=wb:=⟨_,rfl⟩
   have hga:wr.grownBy wb none:=by rw [←hwb];exact World.grownBy_alloc _ _ _
   have hnew:=fun j (hj:j<4)=>(Arr.lit (heap_alloc_new wr (.cells #[.int .i64 (I k 0),.int .i64 (I k 1),.int .i64 (I k 2),.int .i64 (I k 3)] 47))).cell (i:=j) hj
   rw [hwb] at hnew ⊢
   have hsz:wr.heap.size<wb.heap.size:=by rw [←hwb];simp
   refine wp_region_grown (by kernel_rfl) (by kernel_rfl) ?_
   intro St hN W hI hx
   have c0:∀σ,(W σ).cell? ⟨wr.heap.size,0,none⟩=some (.int .i64 (I k 0)):=fun σ=>(gce (hI σ) _ 0 hsz (by simp)).trans (hnew 0 (by omega))
   have c1:∀σ,(W σ).cell? ⟨wr.heap.size,1,none⟩=some (.int .i64 (I k 1)):=fun σ=>(gce (hI σ) _ 1 hsz (by simp)).trans (hnew 1 (by omega))
   have c2:∀σ,(W σ).cell? ⟨wr.heap.size,2,none⟩=some (.int .i64 (I k 2)):=fun σ=>(gce (hI σ) _ 2 hsz (by simp)).trans (hnew 2 (by omega))
   have c3:∀σ,(W σ).cell? ⟨wr.heap.size,3,none⟩=some (.int .i64 (I k 3)):=fun σ=>(gce (hI σ) _ 3 hsz (by simp)).trans (hnew 3 (by omega))
   have d0:∀σ,(W σ).cell? ⟨w.heap.size,0,none⟩=some (.int .i64 p):=fun σ=>(gce (gtr hga (hI σ)) _ 0 hlw (by simp)).trans p0
   have d1:∀σ,(W σ).cell? ⟨w.heap.size,1,none⟩=some (.int .i64 a):=fun σ=>(gce (gtr hga (hI σ)) _ 1 hlw (by simp)).trans p1
   have d2:∀σ,(W σ).cell? ⟨w.heap.size,2,none⟩=some (.int .i64 q):=fun σ=>(gce (gtr hga (hI σ)) _ 2 hlw (by simp)).trans p2
   have cp:∀σ,Calls Try.prog 55 #[.agg #[.int .i64 (I k 0),.int .i64 (I k 1),.int .i64 (I k 2),.int .i64 (I k 3)]] (W σ) fun e w''=>e=.returned (.agg #[.int .i64 (I k 1),.int .i64 (I k 2),.int .i64 (I k 3)])∧∃σ',w''=W σ':=fun σ=>calls_class hI hx (goodsPlace_any _ _ _ _ _)
   have hI2:=hide hI
   have hga':=hide hga
   clear hI hx p0 p1 p2 u0 u1 u2 u3 hnew hwb hsz hga
   by_cases hq:I k 1=p∧I k 2=a∧I k 3=q
   ·have hqt:=hide (Gd.inQ_yes hq.1 hq.2.1 hq.2.2)
    obtain ⟨h1,h2,h3⟩:=hq
    rw [h1,h2,h3] at cp
    rw [h1] at c1
    rw [h2] at c2
    rw [h3] at c3
    clear h1 h2 h3
    repeat (go_big_quiet_step ((go_at_call 55;exact cp _)))
    refine wpQuiet_nil ?_
    rintro _ ⟨σ,rfl⟩
    obtain ⟨wq,hwq⟩:∃wq,W σ=wq:=⟨_,rfl⟩
    have hgq:=hide (uh hI2 σ)
    rw [hwq] at hgq ⊢
    clear c0 c1 c2 c3 d0 d1 d2 cp hI2 hwq
    clear σ W hN St
    have he:=hide (En.first_hit (uh hno') (uh hqt) (uh HL))
    have hfin:=hide (gtr (uh hgr') (gtr (uh hga') (uh hgq)))
    go_wp2
    go_ret
    exact ⟨rti (uh he).symm,uh hfin⟩
   ·have hqf:=hide (Gd.inQ_no hq)
    have hcmp:∀wx:World,(binOp .eql 95 (.agg #[.int .i64 (I k 1),.int .i64 (I k 2),.int .i64 (I k 3)]) (.agg #[.int .i64 p,.int .i64 a,.int .i64 q])).run Try.prog wx=.ok (.bool false) wx:=fun wx=>by rw [run_eq_place];exact congrArg (fun z=>Result.ok (Value.bool z) wx) (uh hqf)
    clear hq
    repeat (go_big_quiet_step ((go_at_call 55;exact cp _)))
    refine wpQuiet_nil ?_
    rintro _ ⟨σ,rfl⟩
    obtain ⟨wq,hwq⟩:∃wq,W σ=wq:=⟨_,rfl⟩
    have hgq:=hide (uh hI2 σ)
    rw [hwq] at hgq ⊢
    clear c0 c1 c2 c3 d0 d1 d2 cp hI2 hwq
    clear σ W hN St
    have hfin:=hide (gtr (uh hgr') (gtr (uh hga') (uh hgq)))
    have hpq:=hide ((uh hp').grown (gtr (uh hga') (uh hgq)) (by simp))
    clear hcmp
    go_wp2
    go_roundw
    case rel=>exact ⟨k+1,by have:=uh HL;omega,by go_num,fun j hj=>by
     by_cases e:j=k
     ·rw [e];exact uh hqf
     ·exact uh hno' j (by omega),uh hpq,uh hfin⟩
    case measure=>simp [intOf];omega
  ·have hge:¬(k:Int)<(n:Int):=by omega
   have he:=hide (En.first_none (n:=n) (fun j hj=>uh hno' j (by omega)))
   go_wp2
   go_ret
   exact ⟨rti (uh he).symm,uh hgr'⟩


open Go.RowKit

theorem Ents.flat {w:World} {b n:Nat} {E:Nat→Nat→Int} (h:Ents w b n E) {c:Nat} (hc:c<n*11):w.cell? ⟨b,c,none⟩=some (En.flat E c):=by
 have:=h.2.2 (c / 11) (c % 11) (by omega) (by omega)
 rwa [show c / 11*11+c % 11=c by omega] at this

def En.list (n:Nat) (E:Nat→Nat→Int):List Value:=(List.range (n*11)).map (En.flat E)

theorem En.list_len (n:Nat) (E:Nat→Nat→Int):(En.list n E).length=n*11:=by simp [En.list]

theorem En.list_at {n:Nat} {E:Nat→Nat→Int} {c:Nat} (hc:c<n*11):(En.list n E)[c]?=some (En.flat E c):=by
 unfold En.list
 rw [List.getElem?_map,List.getElem?_range hc]
 rfl

theorem En.list_one {n:Nat} {E:Nat→Nat→Int}:∀v∈En.list n E,v.oneCell'=true:=by
 intro v hv
 unfold En.list at hv
 obtain ⟨c,_,rfl⟩:=List.mem_map.1 hv
 rfl

theorem Ents.src {w:World} {b n:Nat} {E:Nat→Nat→Int} (h:Ents w b n E):∀j v,(En.list n E)[j]?=some v→w.cell? ((⟨b,0,none⟩:Addr).add j)=some v:=by
 intro j v hj
 have hlt:j<n*11:=by
  have:=(List.getElem?_eq_some_iff.1 hj).1
  rwa [En.list_len] at this
 rw [En.list_at hlt] at hj
 rw [show (⟨b,0,none⟩:Addr).add j=⟨b,j,none⟩ by rw [Go.WideShapes.add_plain,Nat.zero_add],h.flat hlt]
 exact hj

end Go.Proofs.Ytapgkgbpekkdjaa
