import Derived.Test.YtapgkgbpekkdjaaPart23
namespace Go.Proofs.Ytapgkgbpekkdjaa
open Go.RowKit

def Sn.sameE (e f:Nat→Int):Bool:=decide (e 0=f 0) && (decide (e 1=f 1) && (decide (e 2=f 2) && (decide (e 3=f 3) && (decide (e 4=f 4) && (decide (e 5=f 5) && (decide (e 6=f 6) && (decide (e 7=f 7) && (decide (e 8=f 8) && (decide (e 9=f 9) && decide (e 10=f 10))))))))))

def Sn.sameI (e f:Nat→Int):Bool:=decide (e 0=f 0) && (decide (e 1=f 1) && (decide (e 2=f 2) && decide (e 3=f 3)))

theorem Sn.sameE_iff (e f:Nat→Int):Sn.sameE e f=true↔∀j,j<11→e j=f j:=by
 unfold Sn.sameE
 simp only [Bool.and_eq_true,decide_eq_true_eq]
 constructor
 ·rintro ⟨h0,h1,h2,h3,h4,h5,h6,h7,h8,h9,h10⟩ j hj
  rcases (show j=0∨j=1∨j=2∨j=3∨j=4∨j=5∨j=6∨j=7∨j=8∨j=9∨j=10 by omega) with rfl | rfl | rfl | rfl | rfl | rfl | rfl | rfl | rfl | rfl | rfl <;> assumption
 ·intro h
  exact ⟨h 0 (by omega),h 1 (by omega),h 2 (by omega),h 3 (by omega),h 4 (by omega),h 5 (by omega),h 6 (by omega),h 7 (by omega),h 8 (by omega),h 9 (by omega),h 10 (by omega)⟩

theorem Sn.sameI_iff (e f:Nat→Int):Sn.sameI e f=true↔∀j,j<4→e j=f j:=by
 unfold Sn.sameI
 simp only [Bool.and_eq_true,decide_eq_true_eq]
 constructor
 ·rintro ⟨h0,h1,h2,h3⟩ j hj
  rcases (show j=0∨j=1∨j=2∨j=3 by omega) with rfl | rfl | rfl | rfl <;> assumption
 ·intro h
  exact ⟨h 0 (by omega),h 1 (by omega),h 2 (by omega),h 3 (by omega)⟩

set_option maxHeartbeats 1600000 in
theorem run_ne_ent (e f:Nat→Int) (w:World):(binOp .neq 45 (.agg #[.int .i64 (e 0),.int .i64 (e 1),.int .i64 (e 2),.int .i64 (e 3),.int .i64 (e 4),.int .i64 (e 5),.int .i64 (e 6),.int .i64 (e 7),.int .i64 (e 8),.int .i64 (e 9),.int .i64 (e 10)]) (.agg #[.int .i64 (f 0),.int .i64 (f 1),.int .i64 (f 2),.int .i64 (f 3),.int .i64 (f 4),.int .i64 (f 5),.int .i64 (f 6),.int .i64 (f 7),.int .i64 (f 8),.int .i64 (f 9),.int .i64 (f 10)])).run Try.prog w=.ok (.bool (!Sn.sameE e f)) w:=by
 unfold Sn.sameE
 by_cases h0:e 0=f 0
 ·by_cases h1:e 1=f 1
  ·by_cases h2:e 2=f 2
   ·by_cases h3:e 3=f 3
    ·by_cases h4:e 4=f 4
     ·by_cases h5:e 5=f 5
      ·by_cases h6:e 6=f 6
       ·by_cases h7:e 7=f 7
        ·by_cases h8:e 8=f 8
         ·by_cases h9:e 9=f 9
          ·by_cases h10:e 10=f 10
           ·simp [go_sem,h0,h1,h2,h3,h4,h5,h6,h7,h8,h9,h10]
           ·simp [go_sem,h0,h1,h2,h3,h4,h5,h6,h7,h8,h9,h10]
          ·simp [go_sem,h0,h1,h2,h3,h4,h5,h6,h7,h8,h9]
         ·simp [go_sem,h0,h1,h2,h3,h4,h5,h6,h7,h8]
        ·simp [go_sem,h0,h1,h2,h3,h4,h5,h6,h7]
       ·simp [go_sem,h0,h1,h2,h3,h4,h5,h6]
      ·simp [go_sem,h0,h1,h2,h3,h4,h5]
     ·simp [go_sem,h0,h1,h2,h3,h4]
    ·simp [go_sem,h0,h1,h2,h3]
   ·simp [go_sem,h0,h1,h2]
  ·simp [go_sem,h0,h1]
 ·simp [go_sem,h0]


open Go.RowKit

theorem Own.of_append {w:World} {base n:Nat} {v:Value} {E:Nat→Nat→Int} (h:w.ownsRow base 45 11 v n (En.list n E)) (hv:v≠.slice none 0 0) (hn:n≤32) :
  ∃g cap,v=.slice (some ⟨g,0,none⟩) n cap∧base≤g∧n≤cap∧cap≤maxLen∧Own w g n E:=by
 rcases h.2 with ⟨h',_⟩ | ⟨g,cap,cur,rfl,hb,hg,hnc,hcm,hcs,htake⟩
 ·exact absurd h' hv
 ·exact ⟨g,cap,rfl,hb,hnc,hcm,Own.of_owns h hn (fun c hc=>En.list_at hc)⟩

theorem En.flat_src {w w':World} {b n:Nat} {E:Nat→Nat→Int} (h:Ents w b n E) (hg:w.grownBy w' none):∀j v,(En.list n E)[j]?=some v→w'.cell? ((⟨b,0,none⟩:Addr).add j)=some v:=(h.on hg).src

set_option maxHeartbeats 1600000 in
theorem refSpawn_full (b n c:Nat) (E:Nat→Nat→Int) (e:Nat→Int) (w:World) (hE:Ents w b n E) (hk:1≤e 0∧e 0≤4) (hf:∀j,j<n→En.freeQ E j=false) :
  Calls Try.prog 24 #[.slice (some ⟨b,0,none⟩) n c,.agg (En.cells e)] w (Says w (.tuple #[.slice none 0 0,.int .i64 0,.int .i64 5])):=by
 have hn:=hE.1
 have hg:=hide (World.grownBy_alloc w (.cells (En.cells e) 45) none)
 have hE':=hide (hE.on (uh hg))
 have hf':=hide hf
 obtain ⟨W,hW⟩:∃W,W=w.alloc (.cells (En.cells e) 45):=⟨_,rfl⟩
 rw [←hW] at hg hE'
 obtain ⟨k1,k2⟩:=hk
 have k3:¬e 0<1:=by omega
 have k4:¬4<e 0:=by omega
 have hW':=hide hW
 clear hE hf hW
 unfold En.cells at hW' ⊢
 go_enter Try.func24,Try.ntmps24
 go_wp2_with fail
 rw [←uh hW']
 clear hW' k1 k2 k3 k4
 go_loop [7] (fun i=>∃k:Nat,k≤n∧i=.int .i64 (k:Int)) (fun i=>40 - (intOf i).toNat)
 case atStart=>exact ⟨0,by omega,rfl⟩
 case round =>
  obtain ⟨k,hk,rfl⟩:=hrel
  by_cases hlt:k<n
  ·obtain ⟨u0,_⟩:=(uh hE').row hlt
   have hlt':(k:Int)<(n:Int):=by omega
   have h32:(k:Int)<32:=by omega
   have hz:(E k 0 == 0)=false:=by have:=uh hf' k hlt;simpa [En.freeQ] using this
   have HL:=hide hlt
   clear hlt
   go_wp2
   go_round
   case rel=>exact ⟨k+1,by have:=uh HL;omega,by go_num⟩
   case measure=>simp [intOf];omega
  ·have hge:¬(k:Int)<(n:Int):=by omega
   go_wp2
   go_ret3
   exact ⟨rfl,uh hg⟩

set_option maxRecDepth 8000 in
set_option maxHeartbeats 4000000 in
theorem refSpawn_some (b n c r:Nat) (E:Nat→Nat→Int) (e:Nat→Int) (w:World) (hE:Ents w b n E) (hk:1≤e 0∧e 0≤4) (hr:r<n) (hq:E r 0=0) (hf:∀j,j<r→En.freeQ E j=false) (hG:En.Gens n E) :
  Calls Try.prog 24 #[.slice (some ⟨b,0,none⟩) n c,.agg (En.cells e)] w (Spawns w n (En.put E r (En.gen e ((E r 1+1) % 256))) r):=by
 have hn:=hE.1
 have hg:=hide (World.grownBy_alloc w (.cells (En.cells e) 45) none)
 have hE':=hide (hE.on (uh hg))
 have hbox:=hide (Arr.lit (heap_alloc_new w (.cells (En.cells e) 45)))
 have hf':=hide hf
 obtain ⟨g0,g1⟩:=hG r hr
 obtain ⟨W,hW⟩:∃W,W=w.alloc (.cells (En.cells e) 45):=⟨_,rfl⟩
 have hWs:Hid (W.heap.size=w.heap.size+1):=by rw [hW];simp [Hid]
 rw [←hW] at hg hE' hbox
 obtain ⟨k1,k2⟩:=hk
 have k3:¬e 0<1:=by omega
 have k4:¬4<e 0:=by omega
 have hW':=hide hW
 have hbw:=hide hE.2.1
 obtain ⟨i0,hi,hz0,hz1,hz2⟩:=info_parts info_ent
 obtain ⟨G2,hG2⟩:∃G2,G2=(E r 1+1) % 256:=⟨_,rfl⟩
 have hst:Hid (∀(x:World) (g:Nat),Own x g n E→Own (x.setCells g (r*11) (En.cells (En.gen e G2)).toList) g n (En.put E r (En.gen e G2))):=fun x g h=>h.store r _
 have hgs:Hid (∀(x:World) (g:Nat),w.grownBy x none→w.heap.size≤g→w.grownBy (x.setCells g (r*11) (En.cells (En.gen e G2)).toList) none):=fun x g h hg=>own_sets hg _ _ x h
 obtain ⟨F,hF⟩:∃F,F=En.put E r (En.gen e G2):=⟨_,rfl⟩
 rw [←hF] at hst
 rw [←hG2,←hF]
 have hG2':=hide hG2
 have hq':=hide hq
 clear hE hf hW hG hF hG2 hq
 unfold En.cells at hW' hbox ⊢
 go_enter Try.func24,Try.ntmps24
 go_wp2_with fail
 rw [←uh hW']
 clear hW' k1 k2 k3 k4
 go_loop [7] (fun i=>∃k:Nat,k≤r∧i=.int .i64 (k:Int)) (fun i=>40 - (intOf i).toNat)
 case atStart=>exact ⟨0,by omega,rfl⟩
 case round =>
  obtain ⟨k,hk,rfl⟩:=hrel
  by_cases hlt:k<r
  ·obtain ⟨u0,_⟩:=(uh hE').row (k:=k) (by omega)
   have hlt':(k:Int)<(n:Int):=by omega
   have h32:(k:Int)<32:=by omega
   have hz:(E k 0 == 0)=false:=by have:=uh hf' k hlt;simpa [En.freeQ] using this
   have HL:=hide hlt
   clear hlt
   go_wp2
   go_round
   case rel=>exact ⟨k+1,by have:=uh HL;omega,by go_num⟩
   case measure=>simp [intOf];omega
  ·obtain rfl:k=r:=by omega
   obtain ⟨u0,u1,_⟩:=(uh hE').row hr
   rw [uh hq'] at u0
   have hlt':(k:Int)<(n:Int):=by omega
   have h32:(k:Int)<32:=by omega
   go_wp2_with (at_builtin;refine wpList_append_own _ rfl _ _ 26 rfl W.heap.size 45 i0 (.agg #[.int .i64 0,.int .i64 0,.int .i64 0,.int .i64 0,.int .i64 0,.int .i64 0,.int .i64 0,.int .i64 0,.int .i64 0,.int .i64 0,.int .i64 0]) 11 88 Try.underlying26 hi hz0 hz1 hz2 rfl (by decide) _ 0 [] rfl (World.ownsRow_made _ _ _ (Nat.le_refl _) (by decide) (by simp)) ⟨b,0,none⟩ n c (En.list n E) rfl (En.list_len n E) (En.flat_src (uh hE') (World.grownBy_alloc _ _ _)) En.list_one ?c4 ?c5 ?c6 ?_)
   case c4=>unfold maxLen;omega
   case c5=>omega
   try (case c6=>simp)
   intro v' w1 hown hgrow hnil
   obtain ⟨g,cap,rfl,hlo,hnc,hcm,hown1⟩:=Own.of_append hown hnil hn
   have hgW:=gow (World.grownBy_alloc W (.cells #[] 45) none) hgrow (by intro m hm;simp [Value.ownBlock] at hm;omega)
   have hgr1:=hide (gtr (uh hg) hgW)
   have hbox1:=hide ((uh hbox).grown hgW (by simp))
   have hlo':w.heap.size<g:=by have:=uh hWs;omega
   have hcapf:=hide (And.intro hlo' (And.intro hnc hcm))
   have hs1:w1.cell? ⟨b,k*11+1,none⟩=some (.int .i64 (E k 1)):=((uh hE').on hgW).2.2 k 1 hr (by omega)
   have hz:=fun j (hj:j<11)=>(uh hbox1).cell (i:=j) hj
   have z0:=hz 0 (by omega)
   have z1:=hz 1 (by omega)
   have z2:=hz 2 (by omega)
   have z3:=hz 3 (by omega)
   have z4:=hz 4 (by omega)
   have z5:=hz 5 (by omega)
   have z6:=hz 6 (by omega)
   have z7:=hz 7 (by omega)
   have z8:=hz 8 (by omega)
   have z9:=hz 9 (by omega)
   have z10:=hz 10 (by omega)
   simp only [List.getElem?_toArray,List.getElem?_cons_zero,List.getElem?_cons_succ,Option.getD_some] at z0 z1 z2 z3 z4 z5 z6 z7 z8 z9 z10
   have zf:=(uh hbox1).free 1
   have hown1':=hide hown1
   clear hown hgrow hnil hlo hnc hcm hown1 hi hz0 hz1 hz2 hgW hz u0 u1
   obtain ⟨w2,hw2⟩:∃w2,w2=w1.setCell ⟨w.heap.size,1,none⟩ (.int .i64 G2):=⟨_,rfl⟩
   have hown2:Hid (Own w2 g n E):=by
    have hne:w.heap.size≠g:=by omega
    obtain ⟨hn',m,F',hA,hm,hF'⟩:=uh hown1'
    obtain ⟨cur,q1,q2,q3⟩:=hA
    rw [hw2]
    exact ⟨hn',m,F',⟨cur,(heap_setCell_other w1 ⟨w.heap.size,1,none⟩ g _ hne.symm).trans q1,q2,q3⟩,hm,hF'⟩
   have hgr2:Hid (w.grownBy w2 none):=by rw [hw2];exact gsr (uh hgr1) ⟨w.heap.size,1,none⟩ (Nat.le_refl _) _
   obtain ⟨t0,t1,t2,t3,t4,t5,t6,t7,t8,t9,t10⟩:=(uh hown2).ents.row hr
   have f:=fun i=>(uh hown2).free i
   have hb2:=(uh hbox1).store 1 (.int .i64 G2)
   rw [←hw2] at hb2
   have y0:w2.cell? ⟨w.heap.size,0,none⟩=some (.int .i64 (e 0)):=hb2.cell (i:=0) (by show 0<11;omega)
   have y1:w2.cell? ⟨w.heap.size,1,none⟩=some (.int .i64 G2):=hb2.cell (i:=1) (by show 1<11;omega)
   have y2:w2.cell? ⟨w.heap.size,2,none⟩=some (.int .i64 (e 2)):=hb2.cell (i:=2) (by show 2<11;omega)
   have y3:w2.cell? ⟨w.heap.size,3,none⟩=some (.int .i64 (e 3)):=hb2.cell (i:=3) (by show 3<11;omega)
   have y4:w2.cell? ⟨w.heap.size,4,none⟩=some (.int .i64 (e 4)):=hb2.cell (i:=4) (by show 4<11;omega)
   have y5:w2.cell? ⟨w.heap.size,5,none⟩=some (.int .i64 (e 5)):=hb2.cell (i:=5) (by show 5<11;omega)
   have y6:w2.cell? ⟨w.heap.size,6,none⟩=some (.int .i64 (e 6)):=hb2.cell (i:=6) (by show 6<11;omega)
   have y7:w2.cell? ⟨w.heap.size,7,none⟩=some (.int .i64 (e 7)):=hb2.cell (i:=7) (by show 7<11;omega)
   have y8:w2.cell? ⟨w.heap.size,8,none⟩=some (.int .i64 (e 8)):=hb2.cell (i:=8) (by show 8<11;omega)
   have y9:w2.cell? ⟨w.heap.size,9,none⟩=some (.int .i64 (e 9)):=hb2.cell (i:=9) (by show 9<11;omega)
   have y10:w2.cell? ⟨w.heap.size,10,none⟩=some (.int .i64 (e 10)):=hb2.cell (i:=10) (by show 10<11;omega)
   have hw2':=hide hw2
   clear hb2
   clear hw2
   go_upto_region 9 with fail
   rw [←uh hG2',←uh hw2']
   clear hs1 z0 z1 z2 z3 z4 z5 z6 z7 z8 z9 z10 zf hw2'
   go_wp2
   go_ret3
   exact ⟨g,cap,rfl,Nat.le_of_lt (uh hcapf).1,(uh hcapf).2.1,(uh hcapf).2.2,uh hst _ _ (uh hown2),uh hgs _ _ (uh hgr2) (Nat.le_of_lt (uh hcapf).1)⟩

end Go.Proofs.Ytapgkgbpekkdjaa
