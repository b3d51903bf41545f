import Derived.Test.YtbanjoflgoiegaaGreatPs30
namespace Go.Proofs.YtbanjoflgoiegaaGreat
open Go.RowKit

set_option maxHeartbeats 800000 in
theorem cIsHero_any (e:Nat→Int) (w:World):Calls Tryz.prog 71 #[.agg (En.cells e)] w (Says w (.bool (decide (e 0=1)))):=by
 have hg:=hide (World.grownBy_alloc w (.cells (En.cells e) 54) none)
 have z0:=(Lie.copied w e 54).ent.1
 unfold En.cells at hg z0 ⊢
 go_enter Tryz.func71,Tryz.ntmps71
 go_wp2
 go_ret
 exact ⟨rfl,uh hg⟩

set_option maxHeartbeats 800000 in
theorem cIsStunned_any (e:Nat→Int) (w:World):Calls Tryz.prog 72 #[.agg (En.cells e)] w (Says w (.bool (decide (0<e 10)))):=by
 have hg:=hide (World.grownBy_alloc w (.cells (En.cells e) 54) none)
 have z0:=(Lie.copied w e 54).ent.2.2.2.2.2.2.2.2.2.2
 unfold En.cells at hg z0 ⊢
 go_enter Tryz.func72,Tryz.ntmps72
 go_wp2
 go_ret
 exact ⟨rfl,uh hg⟩

set_option maxHeartbeats 800000 in
theorem cIsMonster_any (e:Nat→Int) (w:World):Calls Tryz.prog 74 #[.agg (En.cells e)] w (Says w (.bool (decide (e 0≠0∧e 0≠1)))):=by
 obtain ⟨w0,hw0⟩:∃w0,w0=w.alloc (.cells (En.cells e) 54):=⟨_,rfl⟩
 have hg:Hid (w.grownBy w0 none):=by rw [hw0];exact World.grownBy_alloc _ _ _
 have hQ:Hid (Lie w0 w.heap.size 54 11 (Ints e)):=by rw [hw0];exact Lie.copied _ _ _
 have ch:=hide (cIsHero_any e w0)
 obtain ⟨b,hb⟩:∃b,decide (e 0≠0∧e 0≠1)=b:=⟨_,rfl⟩
 rw [hb]
 have hb':=hide hb
 clear hb
 unfold En.cells at hw0 ch ⊢
 go_enter Tryz.func74,Tryz.ntmps74
 go_upto_region 1 with fail
 rw [←hw0]
 clear hw0
 obtain ⟨B,hB⟩:∃B,w.heap.size=B:=⟨_,rfl⟩
 rw [hB] at hQ ⊢
 clear hB
 obtain ⟨z0,z1,z2,z3,z4,z5,z6,z7,z8,z9,z10⟩:=(uh hQ).ent
 by_cases h0:e 0=0
 ·obtain rfl:b=false:=(uh hb').symm.trans (decide_eq_false (fun h=>h.1 h0))
  have hn:(e 0 != 0)=false:=by simp [h0]
  clear h0
  go_wp2
  go_ret
  exact ⟨rfl,uh hg⟩
 ·have hn:(e 0 != 0)=true:=by simpa using h0
  have hd:b=!decide (e 0=1):=(uh hb').symm.trans (by by_cases h1:e 0=1 <;> simp [h0,h1])
  obtain ⟨d,hd1⟩:∃d,decide (e 0=1)=d:=⟨_,rfl⟩
  rw [hd1] at hd ch
  subst hd
  clear h0 hd1 hb'
  go_wp2_with fail
  refine (uh ch).mono ?_
  rintro x w1 ⟨rfl,hg1⟩
  have hg2:=hide (gtr (uh hg) hg1)
  clear hg1 ch z0 z1 z2 z3 z4 z5 z6 z7 z8 z9 z10
  go_wp2
  go_ret
  exact ⟨rfl,uh hg2⟩

set_option maxRecDepth 8000 in
set_option maxHeartbeats 1600000 in
theorem cPlaced_any (e:Nat→Int) (q:Nat) (hq:q<384) (w:World):Calls Tryz.prog 79 #[.agg (En.cells e),.int .i64 (q:Int)] w (Says w (.agg (En.cells (En.upd (En.upd e 3 ((q:Int) % 24)) 4 ((q:Int) / 24))))):=by
 obtain ⟨wy,hwy⟩:∃wy,wy=w.alloc (.cells (En.cells e) 54):=⟨_,rfl⟩
 obtain ⟨w0,hw0⟩:∃w0,w0=wy.alloc (.cells #[.int .i64 0,.int .i64 0,.int .i64 0,.int .i64 0,.int .i64 0,.int .i64 0,.int .i64 0,.int .i64 0,.int .i64 0,.int .i64 0,.int .i64 0] 54):=⟨_,rfl⟩
 have hgy:w.grownBy wy none:=by rw [hwy];exact World.grownBy_alloc _ _ _
 have hg0:wy.grownBy w0 none:=by rw [hw0];exact World.grownBy_alloc _ _ _
 have hG:=hide (gtr hgy hg0)
 have hQ:Hid (Lie w0 w.heap.size 54 11 (Ints e)):=by
  refine Lie.on ?_ hg0
  rw [hwy]
  exact Lie.copied _ _ _
 have hR:Hid (Lie w0 wy.heap.size 54 11 (Ints (fun _=>0))):=by
  rw [hw0]
  exact Lie.copied wy (fun _=>0) _
 have sy:wy.heap.size=w.heap.size+1:=by rw [hwy];simp
 rw [sy] at hR
 have hcl:Hid (En.cells (En.upd (En.upd e 3 ((q:Int) % 24)) 4 ((q:Int) / 24))=#[.int .i64 (e 0),.int .i64 (e 1),.int .i64 (e 2),.int .i64 ((q:Int) % 24),.int .i64 ((q:Int) / 24),.int .i64 (e 5),.int .i64 (e 6),.int .i64 (e 7),.int .i64 (e 8),.int .i64 (e 9),.int .i64 (e 10)]):=rfl
 rw [uh hcl]
 have t2:IntKind.i64.wrap ((q:Int) / 24)=(q:Int) / 24:=by rw [IntKind.wrap_i64];omega
 clear hgy hg0 sy hcl
 unfold En.cells at hwy ⊢
 rw [hwy] at hw0
 clear hwy
 go_enter Tryz.func79,Tryz.ntmps79
 go_upto_region 1 with fail
 rw [←hw0]
 clear hw0
 obtain ⟨B,hB⟩:∃B,w.heap.size=B:=⟨_,rfl⟩
 rw [hB] at hQ hR ⊢
 have hB':=hide hB
 clear hB
 obtain ⟨e0,e1,e2,e3,e4,e5,e6,e7,e8,e9,e10⟩:=(uh hQ).ent
 obtain ⟨z0,z1,z2,z3,z4,z5,z6,z7,z8,z9,z10⟩:=(uh hR).ent
 have fQ:=(uh hQ).free
 have fR:=(uh hR).free
 have nQR:B≠B+1:=by omega
 have nRQ:B+1≠B:=by omega
 have hgq:Hid (∀a b vs,w.grownBy (((w0.setCell ⟨B,3,none⟩ a).setCell ⟨B,4,none⟩ b).setCells (B+1) 0 vs) none):=fun a b vs=>own_sets (by rw [uh hB'];omega) _ 0 _ (gsr (gsr (uh hG) ⟨B,3,none⟩ (by rw [uh hB'];exact Nat.le_refl _) a) ⟨B,4,none⟩ (by rw [uh hB'];exact Nat.le_refl _) b)
 clear hq hQ hR
 go_wp2
 refine bodyPost_ret (v:=.agg #[.int .i64 (e 0),.int .i64 (e 1),.int .i64 (e 2),.int .i64 ((q:Int) % 24),.int .i64 ((q:Int) / 24),.int .i64 (e 5),.int .i64 (e 6),.int .i64 (e 7),.int .i64 (e 8),.int .i64 (e 9),.int .i64 (e 10)]) (by simp [results,Tryz.results79,go_sem,z0,z1,z2,z3,z4,z5,z6,z7,z8,z9,z10]) rfl ?_
 exact ⟨rfl,uh hgq _ _ [_,_,_,_,_,_,_,_,_,_,_]⟩

set_option maxHeartbeats 1600000 in
theorem cArrival_any (ca a:Option Addr) (cc n k:Nat) (c:Nat→Int) (E:Nat→Nat→Int) (w:World) (hc:Vec w.heap.size w ca 384 (Byts c)) (hF:Nv.Floor c) (hcc:384≤cc) (hL:Nv.Lst w a n k E) (hW:Nv.Words n E) :
  Calls Tryz.prog 104 #[.slice ca 384 cc,.slice a n k] w (Nv.SaysSpot w c E n (Gr.find 384 c 3 % 24) (Gr.find 384 c 3 / 24)):=by
 have hc8:∀i,0≤c i∧c i≤255:=fun i=>⟨(hF.five i).1,by have:=(hF.five i).2;omega⟩
 obtain ⟨u,hu,hfu,-,-⟩:=Cr.up_stair hF
 have cf:=find_any w.heap.size ca 384 cc c 3 w hc hc8 hcc
 rw [hfu] at cf ⊢
 have cs:=navSpot_any ca a cc n k c E ((u:Int) % 24) ((u:Int) / 24) w hc hc8 hL hW (by omega) (by omega) (by omega) (by omega)
 have cf':=hide cf
 have cs':=hide cs
 have hun:¬(u:Int)<0:=by omega
 have t1:IntKind.i64.wrap ((u:Int) / 24)=(u:Int) / 24:=by rw [IntKind.wrap_i64];omega
 clear cf cs hc8 hfu hu hc hF hL hW hcc
 go_enter Tryz.func104,Tryz.ntmps104
 go_wp2_with fail
 refine (uh cf').mono ?_
 rintro e wq ⟨rfl,hy⟩
 subst wq
 go_wp2_with fail
 refine (uh cs').mono ?_
 rintro e w1 ⟨v,hv,rfl,hg⟩
 have hfin:Hid (Nv.SaysSpot w c E n ((u:Int) % 24) ((u:Int) / 24) (.returned (.int .i64 v)) w1):=⟨v,hv,rfl,hg⟩
 clear hv hg cs' cf'
 go_wp2
 go_ret
 exact uh hfin

end Go.Proofs.YtbanjoflgoiegaaGreat
