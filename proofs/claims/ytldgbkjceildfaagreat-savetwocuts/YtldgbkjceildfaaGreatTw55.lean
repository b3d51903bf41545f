import Derived.Test.YtldgbkjceildfaaGreatTw53
import Derived.Test.YtldgbkjceildfaaGreatTw54
namespace Go.Proofs.YtldgbkjceildfaaGreat
open Go.RowKit Go.ChangeShapes Go.WideShapes

def Sv.rowCells (V:Nat→Option Addr × Nat × Nat) (n:Nat):List Value:=(List.range n).map fun i=>.slice (V i).1 (V i).2.1 (V i).2.2

theorem Sv.rowCells_len (V:Nat→Option Addr × Nat × Nat) (n:Nat):(Sv.rowCells V n).length=n:=by
 unfold Sv.rowCells
 simp

theorem Sv.rowCells_at (V:Nat→Option Addr × Nat × Nat) {n i:Nat} (h:i<n):(Sv.rowCells V n)[i]?=some (.slice (V i).1 (V i).2.1 (V i).2.2):=by
 unfold Sv.rowCells
 simp [h]

def Sv.V3 (n:Nat) (V:Nat→Option Addr × Nat × Nat) (i:Nat):Option Addr × Nat × Nat:=if i<3 then (some ⟨n+i,0,none⟩,1,1) else V (i - 3)
def Sv.z3 (z:Nat→Nat→Int) (i:Nat):Nat→Int:=if i<3 then fun _=>(i:Int)+1 else z (i - 3)

theorem Sv.rows_more {w x y:World} {a1:Option Addr} {len1 n b:Nat} {V:Nat→Option Addr × Nat × Nat} {z:Nat→Nat→Int} {v':Value} (hC:Cr.Came w a1 len1 V z) (hg:w.grownBy x none) (hn:w.heap.size≤n) (hnx:n+3<x.heap.size) (hl:3+len1≤maxLen)
  (hc:∀i,i<3→x.cell? ⟨n+i,0,none⟩=some (.int .i64 ((i:Int)+1))) (hy:x.grownBy y (some (n+3)))
  (ho:y.ownsRow b 23 1 v' (3+len1) ([.slice (some ⟨n,0,none⟩) 1 1,.slice (some ⟨n+1,0,none⟩) 1 1,.slice (some ⟨n+2,0,none⟩) 1 1] ++ Sv.rowCells V len1)) :
  ∃a' c',v'=.slice a' (3+len1) c'∧Cr.Came y a' (3+len1) (Sv.V3 n V) (Sv.z3 z)∧w.grownBy y none:=by
 have hgy:w.grownBy y none:=gow hg hy (fun k e=>by cases e;omega)
 obtain ⟨hlen,hv⟩:=ho
 rcases hv with ⟨_,h0⟩ | ⟨g,cap,cur,rfl,hb,hcur,h1,h2,h3,h4⟩
 ·omega
 ·refine ⟨some ⟨g,0,none⟩,cap,rfl,⟨hl,fun i hi=>⟨g,0,rfl,(Array.getElem?_eq_some_iff.1 hcur).1,?_,?_⟩⟩,hgy⟩
  ·have hcell:=World.ownsRow.cells (w:=y) (base:=b) (e:=23) (size:=1) (n:=3+len1) (xs:=[.slice (some ⟨n,0,none⟩) 1 1,.slice (some ⟨n+1,0,none⟩) 1 1,.slice (some ⟨n+2,0,none⟩) 1 1] ++ Sv.rowCells V len1) ⟨hlen,.inr ⟨g,cap,cur,rfl,hb,hcur,h1,h2,h3,h4⟩⟩ (g:=g) rfl i
   rw [add_plain] at hcell
   refine hcell _ ?_
   unfold Sv.V3
   rcases (show i=0∨i=1∨i=2∨3≤i by omega) with rfl | rfl | rfl | h
   ·rfl
   ·rfl
   ·rfl
   ·rw [if_neg (by omega),List.getElem?_append_right (by simpa using h)]
    exact Sv.rowCells_at V (by simp;omega)
  ·unfold Sv.V3 Sv.z3
   by_cases h:i<3
   ·rw [if_pos h,if_pos h]
    refine ⟨by unfold maxLen;show (1:Nat)≤_;omega,fun j hj=>?_⟩
    have hj1:j<1:=hj
    obtain rfl:j=0:=by omega
    refine ⟨n+i,0,rfl,by have:=hy.size;omega,?_,by show -9223372036854775808≤(i:Int)+1;omega,by show (i:Int)+1≤9223372036854775807;omega⟩
    refine (gce hy (n+i) 0 (by omega) (by simp;omega)).trans (hc i h)
   ·rw [if_neg h,if_neg h]
    obtain ⟨_,_,_,_,_,hm,hz⟩:=hC.2 (i - 3) (by omega)
    exact ⟨hm,hz.on hgy⟩

theorem Sv.info_row:(Tryz.prog.info? 23).map (fun i=>(i.zero,i.size,i.bytes))=some (some (.slice none 0 0),1,24):=by kernel_rfl

theorem wpList_append_rows {w0 w:World} {ops:Array Oper} {rest:List Oper} {o:Oper} {a:Act} {Q:Exit→Act→World→Prop} (hgd:o.guard=none) (s x:Operand) (ho:o.op=.call { callee:=.builtin .append,args:=#[s,x],argTypes:=#[22,22] })
  (base:Nat) (v:Value) (n:Nat) (xs:List Value) (hs:a.eval s=v) (hown:w.ownsRow base 23 1 v n xs) (a1:Option Addr) (len1 cap1:Nat) (V:Nat→Option Addr × Nat × Nat) (z:Nat→Nat→Int) (hx:a.eval x=.slice a1 len1 cap1) (hC:Cr.Came w0 a1 len1 V z) (hg:w0.grownBy w none) (hcap:a1=none→len1=0∧cap1=0)
  (hb:(n+len1)*24≤140737488355328) (hbase:base≤w.heap.size)
  (h:∀v' w',w'.ownsRow base 23 1 v' (n+len1) (xs ++ Sv.rowCells V len1)→w.grownBy w' v.ownBlock→wpList Tryz.prog ops Q rest (a.put o.dst v') w'):wpList Tryz.prog ops Q (o :: rest) a w:=by
 obtain ⟨i0,hi,hz0,hz1,hz2⟩:=info_parts Sv.info_row
 cases a1 with
 | none =>
  obtain ⟨rfl,rfl⟩:=hcap rfl
  refine wpList_append_own_none hgd s x 22 ho base 23 i0 1 Tryz.underlying22 hi v n xs hs hown hx ?_
  refine h v w ?_ (World.grownBy.refl _ _)
  show w.ownsRow base 23 1 v n (xs ++ [])
  rw [List.append_nil]
  exact hown
 | some ad =>
  refine wpList_append_own w hgd s x 22 ho base 23 i0 (.slice none 0 0) 1 24 Tryz.underlying22 hi hz0 hz1 hz2 rfl (by decide) v n xs hs hown ad len1 cap1 (Sv.rowCells V len1) hx (by rw [Sv.rowCells_len,Nat.mul_one]) (fun j u hu=>?_) (fun u hu=>?_) (by unfold maxLen;omega) hb hbase ?_
  ·have hj:j<len1:=by
    rw [←Sv.rowCells_len V len1]
    exact (List.getElem?_eq_some_iff.1 hu).1
   rw [Sv.rowCells_at V hj] at hu
   cases hu
   obtain ⟨b,q,e,hb',hc,_⟩:=hC.2 j hj
   cases e
   rw [add_plain]
   exact (gce hg b (q+j) hb' (by simp)).trans hc
  ·unfold Sv.rowCells at hu
   obtain ⟨q,-,rfl⟩:=List.mem_map.1 hu
   rfl
  ·intro v' w' h3 h4 _
   exact h v' w' h3 h4

theorem rows_small {H:Type} {enc:TypeId × Value→H} {w:World} {base:Nat} {sp:Nat→Bool} {held:Bool} {fuel:Nat} {a:Option Addr} {len cap:Nat} {x:DataW H × List MemPlace} (h:DataW.trod enc Tryz.prog w base sp held fuel 22 [.slice a len cap]=some x) (hr:∀n∈x.1.weights Tryz.prog 22,n≤reachBytes):len*24≤140737488351232∧(a=none→len=0∧cap=0):=by
 rcases Go.Deep.open_slice Tryz.underlying22 h with ⟨hcs,_⟩ | ⟨a',len',cap',m,n,D,Pl,hcs,_,hl,hm,hmm,rfl,hx⟩
 ·simp only [List.cons.injEq,Value.slice.injEq,and_true] at hcs
  obtain ⟨rfl,rfl,rfl⟩:=hcs
  exact ⟨by omega,fun _=>⟨rfl,rfl⟩⟩
 ·simp only [List.cons.injEq,Value.slice.injEq,and_true] at hcs
  obtain ⟨rfl,rfl,rfl⟩:=hcs
  have hb1:Tryz.prog.bytesOf 23=24:=by kernel_rfl
  have:=hr _ (by
   show _∈DataW.weights Tryz.prog 22 (.slice ((List.range len).map D) ((List.range (m - len)).map fun j=>D (len+j)))
   unfold DataW.weights
   rw [Tryz.underlying22]
   exact List.mem_cons_self)
  rw [hb1] at this
  have h2:reachBytes=140737488351232:=rfl
  simp at this
  exact ⟨by omega,fun e=>by cases e⟩

theorem Sv.page_camp {w0 x:World} {base:Nat} {v:Value} {seed:Int} {L:List (List Value)} (hB:Sn.Book w0 x base v seed L) {k:Nat} (hk:k<L.length) (hk31:k≤31) (hs:-9223372036854775808≤seed∧seed≤9223372036854775807) :
  ∃q cap C P,v=.slice (some ⟨q,0,none⟩) L.length cap∧q<x.heap.size∧L.length≤cap∧(∀j,j<11→x.cell? ⟨q,k*11+j,none⟩=some (Sv.Pg.box P j))∧Sv.Camp x C P.q:=by
 obtain ⟨q,cap,rfl,hq,hcap,S,gC,gE,gI,cC,cE,cI,hcell,hL,hcE,hG,hs0,hs1⟩:=hB.at hk
 refine ⟨q,cap,⟨S.s,S.g,S.c,S.E,S.I,fun _=>false⟩,⟨S.s,S.g,gC,gE,gI,cC,cE,cI⟩,rfl,(hB.own.lt q rfl).2,hcap,fun j hj=>?_,Sv.page_ok _ hG hs0 hs1 hk31 hs,gC,gE,gI,cC,cE,cI,rfl,hcE,hL⟩
 rw [hcell j hj]
 rcases (show j=0∨j=1∨j=2∨j=3∨j=4∨j=5∨j=6∨j=7∨j=8∨j=9∨j=10 by omega) with rfl | rfl | rfl | rfl | rfl | rfl | rfl | rfl | rfl | rfl | rfl <;> rfl

theorem Sv.pages3 {w0 x:World} {base:Nat} {v:Value} {seed:Int} {L:List (List Value)} (hB:Sn.Book w0 x base v seed L) (hL:3≤L.length) (hs:-9223372036854775808≤seed∧seed≤9223372036854775807) :
  ∃q cap C0 C1 C2 P0 P1 P2,v=.slice (some ⟨q,0,none⟩) L.length cap∧q<x.heap.size∧L.length≤cap∧(∀j,j<11→x.cell? ⟨q,j,none⟩=some (Sv.Pg.box P0 j))∧(∀j,j<11→x.cell? ⟨q,11+j,none⟩=some (Sv.Pg.box P1 j))∧(∀j,j<11→x.cell? ⟨q,22+j,none⟩=some (Sv.Pg.box P2 j)) ∧
   Sv.Camp x C0 P0.q∧Sv.Camp x C1 P1.q∧Sv.Camp x C2 P2.q:=by
 obtain ⟨q,cap,C0,P0,rfl,hq,hc,h0,k0⟩:=Sv.page_camp hB (k:=0) (by omega) (by omega) hs
 obtain ⟨q1,cap1,C1,P1,e1,-,-,h1,k1⟩:=Sv.page_camp hB (k:=1) (by omega) (by omega) hs
 obtain ⟨q2,cap2,C2,P2,e2,-,-,h2,k2⟩:=Sv.page_camp hB (k:=2) (by omega) (by omega) hs
 simp only [Value.slice.injEq,Option.some.injEq,Addr.mk.injEq,and_true,true_and] at e1 e2
 obtain ⟨rfl,rfl⟩:=e1
 obtain ⟨rfl,rfl⟩:=e2
 refine ⟨q,cap,C0,C1,C2,P0,P1,P2,rfl,hq,hc,fun j hj=>?_,fun j hj=>?_,fun j hj=>?_,k0,k1,k2⟩
 ·simpa using h0 j hj
 ·simpa using h1 j hj
 ·simpa using h2 j hj


open Go.RowKit

structure Sv.Tw (w x:World) (base p bm:Nat) (st:Dk.St) (o:Option Sv.C) (C1 C2:Sv.C) (F1 F2:Sv.Q) (B1 B2:Nat):Prop where
 disk:Sv.Disk x base p bm 40 st o
 grown:w.grownBy x none
 lo:w.heap.size≤p∧w.heap.size≤bm
 dead:st.dead=false
 one:Lie x B1 33 15 F1.box
 two:Lie x B2 33 15 F2.box
 c1:Sv.Camp x C1 F1
 c2:Sv.Camp x C2 F2

theorem Sv.Tw.on {w x y:World} {base p bm B1 B2:Nat} {st:Dk.St} {o:Option Sv.C} {C1 C2:Sv.C} {F1 F2:Sv.Q} (h:Sv.Tw w x base p bm st o C1 C2 F1 F2 B1 B2) (hg:x.grownBy y none):Sv.Tw w y base p bm st o C1 C2 F1 F2 B1 B2 :=
 ⟨h.disk.on hg,gtr h.grown hg,h.lo,h.dead,h.one.on hg,h.two.on hg,h.c1.on hg,h.c2.on hg⟩

theorem Sv.Tw.next {w x y:World} {base p bm B1 B2:Nat} {st st':Dk.St} {o o':Option Sv.C} {C1 C2:Sv.C} {F1 F2:Sv.Q} (h:Sv.Tw w x base p bm st o C1 C2 F1 F2 B1 B2) (hd:Sv.Disk y base p bm 40 st' o') (ht:Turn (fun k=>k=p∨k=bm) x y) (hdd:st'.dead=false):Sv.Tw w y base p bm st' o' C1 C2 F1 F2 B1 B2 :=
 ⟨hd,(Dk.still (Turn.new h.grown) ht h.lo.1 h.lo.2).grownBy,h.lo,hdd,h.disk.lie ht h.one (by decide),h.disk.lie ht h.two (by decide),h.c1.disk h.disk ht,h.c2.disk h.disk ht⟩

def Sv.headsT (n:Nat):Code→Bool
 | .region k _ _=>k == n
 | .seq a _=>Sv.headsT n a
 | _=>false

def Sv.findsT (n:Nat):Code→Option Code
 | .seq a b=>if Sv.headsT n a then some (.seq a b) else match Sv.findsT n a with
  | some c=>some c
  | none=>Sv.findsT n b
 | .cond _ a b=>match Sv.findsT n a with
  | some c=>some c
  | none=>Sv.findsT n b
 | _=>none

noncomputable def Sv.two11:Code:=(Tryz.f5.body.bind (Sv.findsT 11)).getD .skip
noncomputable def Sv.two21:Code:=(Tryz.f5.body.bind (Sv.findsT 21)).getD .skip
noncomputable def Sv.two17:Code:=(Tryz.f5.body.bind (Sv.findsT 17)).getD .skip

set_option maxRecDepth 16000 in
set_option maxHeartbeats 25600000 in
theorem saveTwo_arm0 {f0 f1 f2 f3 f4 f5 f6 f7 f8 f9 f10 f11 f12 f13 f14 f15 f17 f18 f19 f23 f24 f25 f26 f27 f28 f29 f30 f31 f32 f33 f34 f35 f36 f37 f38 f39 f40 f41 f42 f43 f44 f45 f46 f47 f48 f49 f50 f51 f52 f53 f54 f55 f56 f57 f58 f59 f60 f61 f62 f63 f64 f65 f66 f67 f68 f69 f70 f71 f72 f73 f74 f75 f76 f77 f78 f79 f80 f81 f82 f83 f84 f85 f86 f87 f88 f89 f90 f91 f92 f93 f94 f95 f96 f97 f98 f99 f100 f101 f102 f103 f104 f105 f106 f107 f108 f109 f110 f111 f112 f113 f114 f115 f116 f117 f118 f119 f120 f121 f122 f123 f124 f125 f126 f127 f128 f129 f130 f131 f132 f133 f134 f135 f136 f137 f138 f139:Value} (w z:World) (X B2:Nat) (FX F2:Sv.Q) (C2:Sv.C) (BX:Lie z X 33 15 FX.box) (two:Lie z B2 33 15 F2.box) (LX:Sv.Tells z (some C2) FX) (c2:Sv.Camp z C2 F2) (hg:w.grownBy z none) :
  Code.wp Tryz.prog Sv.two21 (bodyPost Tryz.prog Tryz.f5 fun e w'=>e=.returned (.bool true)∧Below w.heap.size w w') ⟨#[f0,f1,f2,f3,f4,f5,f6,f7,f8,f9,f10,f11,f12,f13,f14,f15,(.pointer (some ⟨B2,0,none⟩)),f17,f18,f19,(.int .i64 0),(.pointer (some ⟨X,0,none⟩)),(.int .i64 0),f23,f24,f25,f26,f27,f28,f29,f30,f31,f32,f33,f34,f35,f36,f37,f38,f39,f40,f41,f42,f43,f44,f45,f46,f47,f48,f49,f50,f51,f52,f53,f54,f55,f56,f57,f58,f59,f60,f61,f62,f63,f64,f65,f66,f67,f68,f69,f70,f71,f72,f73,f74,f75,f76,f77,f78,f79,f80,f81,f82,f83,f84,f85,f86,f87,f88,f89,f90,f91,f92,f93,f94,f95,f96,f97,f98,f99,f100,f101,f102,f103,f104,f105,f106,f107,f108,f109,f110,f111,f112,f113,f114,f115,f116,f117,f118,f119,f120,f121,f122,f123,f124,f125,f126,f127,f128,f129,f130,f131,f132,f133,f134,f135,f136,f137,f138,f139],[]⟩ z:=by
 conv=>arg 2;whnf
 have cq:=hide (svSame_tells LX c2.tells)
 have hG:=hide hg
 obtain ⟨p0,p1,p2,p3,p4,p5,p6,p7,p8,p9,p10,p11,p12,p13,p14⟩:=Sv.cells15 BX
 obtain ⟨q0,q1,q2,q3,q4,q5,q6,q7,q8,q9,q10,q11,q12,q13,q14⟩:=Sv.cells15 two
 unfold Sv.cells at cq
 clear BX two LX c2 hg
 go_wp2_with fail
 refine (uh cq).mono ?_
 rintro e z4 ⟨rfl,hg4⟩
 have hfin:=hide (none_below (gtr (uh hG) hg4))
 clear cq hg4 hG p0 p1 p2 p3 p4 p5 p6 p7 p8 p9 p10 p11 p12 p13 p14 q0 q1 q2 q3 q4 q5 q6 q7 q8 q9 q10 q11 q12 q13 q14
 go_wp2
 go_ret
 exact ⟨rfl,uh hfin⟩

set_option maxRecDepth 16000 in
set_option maxHeartbeats 25600000 in
theorem saveTwo_arm1 {f0 f1 f2 f3 f4 f5 f6 f7 f8 f9 f10 f11 f12 f13 f14 f16 f23 f24 f25 f26 f27 f28 f29 f30 f31 f32 f33 f34 f35 f36 f37 f38 f39 f40 f41 f42 f43 f44 f45 f46 f47 f48 f49 f50 f51 f52 f53 f54 f55 f56 f57 f58 f59 f60 f61 f62 f63 f64 f65 f66 f67 f68 f69 f70 f71 f72 f73 f74 f75 f76 f77 f78 f79 f80 f81 f82 f83 f84 f85 f86 f87 f88 f89 f90 f91 f92 f93 f94 f95 f96 f97 f98 f99 f100 f101 f102 f103 f104 f105 f106 f107 f108 f109 f110 f111 f112 f113 f114 f115 f116 f117 f118 f119 f120 f121 f122 f123 f124 f125 f126 f127 f128 f129 f130 f131 f132 f133 f134 f135 f136 f137 f138 f139:Value} (w z:World) (X U B1:Nat) (FX FU F1:Sv.Q) (C1:Sv.C) (BX:Lie z X 33 15 FX.box) (BU:Lie z U 33 15 FU.box) (one:Lie z B1 33 15 F1.box) (LX:Sv.Tells z (some C1) FX) (LU:Sv.Tells z (some C1) FU) (c1:Sv.Camp z C1 F1) (hg:w.grownBy z none) :
  Code.wp Tryz.prog Sv.two21 (bodyPost Tryz.prog Tryz.f5 fun e w'=>e=.returned (.bool true)∧Below w.heap.size w w') ⟨#[f0,f1,f2,f3,f4,f5,f6,f7,f8,f9,f10,f11,f12,f13,f14,(.pointer (some ⟨B1,0,none⟩)),f16,(.int .i64 0),(.pointer (some ⟨U,0,none⟩)),(.int .i64 0),(.int .i64 11),(.pointer (some ⟨X,0,none⟩)),(.int .i64 0),f23,f24,f25,f26,f27,f28,f29,f30,f31,f32,f33,f34,f35,f36,f37,f38,f39,f40,f41,f42,f43,f44,f45,f46,f47,f48,f49,f50,f51,f52,f53,f54,f55,f56,f57,f58,f59,f60,f61,f62,f63,f64,f65,f66,f67,f68,f69,f70,f71,f72,f73,f74,f75,f76,f77,f78,f79,f80,f81,f82,f83,f84,f85,f86,f87,f88,f89,f90,f91,f92,f93,f94,f95,f96,f97,f98,f99,f100,f101,f102,f103,f104,f105,f106,f107,f108,f109,f110,f111,f112,f113,f114,f115,f116,f117,f118,f119,f120,f121,f122,f123,f124,f125,f126,f127,f128,f129,f130,f131,f132,f133,f134,f135,f136,f137,f138,f139],[]⟩ z:=by
 conv=>arg 2;whnf
 have cq:=hide (svSame_tells LU c1.tells)
 obtain ⟨p0,p1,p2,p3,p4,p5,p6,p7,p8,p9,p10,p11,p12,p13,p14⟩:=Sv.cells15 BU
 obtain ⟨q0,q1,q2,q3,q4,q5,q6,q7,q8,q9,q10,q11,q12,q13,q14⟩:=Sv.cells15 one
 unfold Sv.cells at cq
 go_wp2_with fail
 refine (uh cq).mono ?_
 rintro e z4 ⟨rfl,hg4⟩
 have hG:=hide (gtr hg hg4)
 have BX4:=hide (BX.on hg4)
 have BU4:=hide (BU.on hg4)
 have cq2:=hide (svSame_tells (LX.on hg4) (LU.on hg4))
 clear cq hg4 hg one c1 BX BU LX LU p0 p1 p2 p3 p4 p5 p6 p7 p8 p9 p10 p11 p12 p13 p14 q0 q1 q2 q3 q4 q5 q6 q7 q8 q9 q10 q11 q12 q13 q14
 obtain ⟨p0,p1,p2,p3,p4,p5,p6,p7,p8,p9,p10,p11,p12,p13,p14⟩:=Sv.cells15 (uh BX4)
 obtain ⟨q0,q1,q2,q3,q4,q5,q6,q7,q8,q9,q10,q11,q12,q13,q14⟩:=Sv.cells15 (uh BU4)
 unfold Sv.cells at cq2
 go_wp2_with fail
 refine (uh cq2).mono ?_
 rintro e z5 ⟨rfl,hg5⟩
 have hfin:=hide (none_below (gtr (uh hG) hg5))
 clear cq2 hg5 hG BX4 BU4 p0 p1 p2 p3 p4 p5 p6 p7 p8 p9 p10 p11 p12 p13 p14 q0 q1 q2 q3 q4 q5 q6 q7 q8 q9 q10 q11 q12 q13 q14
 go_wp2
 go_ret
 exact ⟨rfl,uh hfin⟩

set_option maxRecDepth 16000 in
set_option maxHeartbeats 25600000 in
theorem saveTwo_arm2 {f0 f1 f2 f3 f4 f5 f6 f7 f8 f9 f10 f11 f12 f13 f14 f15 f16 f23 f24 f25 f26 f27 f28 f29 f30 f31 f32 f33 f34 f35 f36 f37 f38 f39 f40 f41 f42 f43 f44 f45 f46 f47 f48 f49 f50 f51 f52 f53 f54 f55 f56 f57 f58 f59 f60 f61 f62 f63 f64 f65 f66 f67 f68 f69 f70 f71 f72 f73 f74 f75 f76 f77 f78 f79 f80 f81 f82 f83 f84 f85 f86 f87 f88 f89 f90 f91 f92 f93 f94 f95 f96 f97 f98 f99 f100 f101 f102 f103 f104 f105 f106 f107 f108 f109 f110 f111 f112 f113 f114 f115 f116 f117 f118 f119 f120 f121 f122 f123 f124 f125 f126 f127 f128 f129 f130 f131 f132 f133 f134 f135 f136 f137 f138 f139:Value} (w z:World) (X U:Nat) (nf:Int) (FX FU:Sv.Q) (o:Option Sv.C) (BX:Lie z X 33 15 FX.box) (BU:Lie z U 33 15 FU.box) (LX:Sv.Tells z o FX) (LU:Sv.Tells z o FU) (hg:w.grownBy z none) :
  Code.wp Tryz.prog Sv.two21 (bodyPost Tryz.prog Tryz.f5 fun e w'=>e=.returned (.bool true)∧Below w.heap.size w w') ⟨#[f0,f1,f2,f3,f4,f5,f6,f7,f8,f9,f10,f11,f12,f13,f14,f15,f16,(.int .i64 11),(.pointer (some ⟨U,0,none⟩)),(.int .i64 nf),(.int .i64 11),(.pointer (some ⟨X,0,none⟩)),(.int .i64 nf),f23,f24,f25,f26,f27,f28,f29,f30,f31,f32,f33,f34,f35,f36,f37,f38,f39,f40,f41,f42,f43,f44,f45,f46,f47,f48,f49,f50,f51,f52,f53,f54,f55,f56,f57,f58,f59,f60,f61,f62,f63,f64,f65,f66,f67,f68,f69,f70,f71,f72,f73,f74,f75,f76,f77,f78,f79,f80,f81,f82,f83,f84,f85,f86,f87,f88,f89,f90,f91,f92,f93,f94,f95,f96,f97,f98,f99,f100,f101,f102,f103,f104,f105,f106,f107,f108,f109,f110,f111,f112,f113,f114,f115,f116,f117,f118,f119,f120,f121,f122,f123,f124,f125,f126,f127,f128,f129,f130,f131,f132,f133,f134,f135,f136,f137,f138,f139],[]⟩ z:=by
 conv=>arg 2;whnf
 have cq2:=hide (svSame_tells LX LU)
 have hG:=hide hg
 obtain ⟨p0,p1,p2,p3,p4,p5,p6,p7,p8,p9,p10,p11,p12,p13,p14⟩:=Sv.cells15 BX
 obtain ⟨q0,q1,q2,q3,q4,q5,q6,q7,q8,q9,q10,q11,q12,q13,q14⟩:=Sv.cells15 BU
 unfold Sv.cells at cq2
 clear BX BU LX LU hg
 go_wp2_with fail
 refine (uh cq2).mono ?_
 rintro e z5 ⟨rfl,hg5⟩
 have hfin:=hide (none_below (gtr (uh hG) hg5))
 clear cq2 hg5 hG p0 p1 p2 p3 p4 p5 p6 p7 p8 p9 p10 p11 p12 p13 p14 q0 q1 q2 q3 q4 q5 q6 q7 q8 q9 q10 q11 q12 q13 q14
 go_wp2
 go_ret
 exact ⟨rfl,uh hfin⟩


open Go.RowKit

set_option maxRecDepth 16000 in
set_option maxHeartbeats 25600000 in
theorem saveTwo_tail {f0 f1 f2 f3 f4 f5 f6 f7 f8 f9 f10 f11 f13 f14 f21 f22 f23 f24 f25 f26 f27 f28 f29 f30 f31 f32 f33 f34 f35 f36 f37 f38 f39 f40 f41 f42 f43 f44 f45 f46 f47 f48 f49 f50 f51 f52 f53 f54 f55 f56 f57 f58 f59 f60 f61 f62 f63 f64 f65 f66 f67 f68 f69 f70 f71 f72 f73 f74 f75 f76 f77 f78 f79 f80 f81 f82 f83 f84 f85 f86 f87 f88 f89 f90 f91 f92 f93 f94 f95 f96 f97 f98 f99 f100 f101 f102 f103 f104 f105 f106 f107 f108 f109 f110 f111 f112 f113 f114 f115 f116 f117 f118 f119 f120 f121 f122 f123 f124 f125 f126 f127 f128 f129 f130 f131 f132 f133 f134 f135 f136 f137 f138 f139:Value} (w y8:World) (bs p bm B1 B2 U:Nat) (st2:Dk.St) (r1 r2 nf:Int) (o o1 o2:Option Sv.C) (C1 C2:Sv.C) (F1 F2 FU:Sv.Q) (HW1:Hid ((r1=0∧o1=some C1)∨(r1=11∧o1=o))) (HW2:Hid ((r2=0∧o2=some C2)∨(r2=11∧o2=o1))) (HNF:Hid (Sv.no o1=nf))
  (T8:Hid (Sv.Tw w y8 bs p bm st2 o2 C1 C2 F1 F2 B1 B2)) (BU8:Hid (Lie y8 U 33 15 FU.box)) (LU8:Hid (Sv.Tells y8 o1 FU)) :
  Code.wp Tryz.prog Sv.two17 (bodyPost Tryz.prog Tryz.f5 fun e w'=>e=.returned (.bool true)∧Below w.heap.size w w') ⟨#[f0,f1,f2,f3,f4,f5,f6,f7,f8,f9,f10,f11,(.pointer (some ⟨p,0,none⟩)),f13,f14,(.pointer (some ⟨B1,0,none⟩)),(.pointer (some ⟨B2,0,none⟩)),(.int .i64 r1),(.pointer (some ⟨U,0,none⟩)),(.int .i64 nf),(.int .i64 r2),f21,f22,f23,f24,f25,f26,f27,f28,f29,f30,f31,f32,f33,f34,f35,f36,f37,f38,f39,f40,f41,f42,f43,f44,f45,f46,f47,f48,f49,f50,f51,f52,f53,f54,f55,f56,f57,f58,f59,f60,f61,f62,f63,f64,f65,f66,f67,f68,f69,f70,f71,f72,f73,f74,f75,f76,f77,f78,f79,f80,f81,f82,f83,f84,f85,f86,f87,f88,f89,f90,f91,f92,f93,f94,f95,f96,f97,f98,f99,f100,f101,f102,f103,f104,f105,f106,f107,f108,f109,f110,f111,f112,f113,f114,f115,f116,f117,f118,f119,f120,f121,f122,f123,f124,f125,f126,f127,f128,f129,f130,f131,f132,f133,f134,f135,f136,f137,f138,f139],[]⟩ y8:=by
 conv=>arg 2;whnf
 obtain ⟨nh,hnh⟩:∃k,Sv.no o2=k:=⟨_,rfl⟩
 have clv:=hide ((uh T8).disk.loadF (by omega) (uh T8).dead)
 rw [hnh] at clv
 have HNH:=hide hnh
 clear hnh
 go_wp2_with fail
 refine (uh clv).mono ?_
 rintro e z1 ⟨hz1,FX,rfl,hFX⟩
 obtain ⟨z2,hz2⟩:∃x,x=z1.alloc (.cells (Sv.cells FX) 33):=⟨_,rfl⟩
 have hg2:z1.grownBy z2 none:=by rw [hz2];exact World.grownBy_alloc _ _ _
 obtain ⟨X,hX0⟩:∃B,z1.heap.size=B:=⟨_,rfl⟩
 have BX:Hid (Lie z2 X 33 15 FX.box):=by
  show Lie z2 _ _ _ _
  rw [hz2,←hX0]
  exact Sv.cells_lie z1 FX
 have LX:=hide (hFX.on hg2)
 have T81:=hide ((uh T8).on (gtr hz1 hg2))
 have BU81:=hide ((uh BU8).on (gtr hz1 hg2))
 have LU81:=hide ((uh LU8).on (gtr hz1 hg2))
 clear clv hz1 hFX hg2 T8 BU8 LU8
 unfold Sv.cells at hz2 ⊢
 go_upto_region 18 with fail
 rw [←hz2]
 clear hz2 hX0 z1
 have clw:=hide ((uh T81).disk.loadF (by omega) (uh T81).dead)
 rw [uh HNH] at clw
 go_wp2_with fail
 refine (uh clw).mono ?_
 rintro e z1 ⟨hz1,FY,rfl,hFY⟩
 obtain ⟨z2,hz2⟩:∃x,x=z1.alloc (.cells (Sv.cells FY) 33):=⟨_,rfl⟩
 have hg2:z1.grownBy z2 none:=by rw [hz2];exact World.grownBy_alloc _ _ _
 obtain ⟨Y,hX0⟩:∃B,z1.heap.size=B:=⟨_,rfl⟩
 have BY:Hid (Lie z2 Y 33 15 FY.box):=by
  show Lie z2 _ _ _ _
  rw [hz2,←hX0]
  exact Sv.cells_lie z1 FY
 have LY:=hide (hFY.on hg2)
 have T811:=hide ((uh T81).on (gtr hz1 hg2))
 have BU811:=hide ((uh BU81).on (gtr hz1 hg2))
 have LU811:=hide ((uh LU81).on (gtr hz1 hg2))
 have BX1:=hide ((uh BX).on (gtr hz1 hg2))
 have LX1:=hide ((uh LX).on (gtr hz1 hg2))
 clear clw hz1 hFY hg2 T81 BU81 LU81 BX LX
 unfold Sv.cells at hz2 ⊢
 go_upto_region 19 with fail
 rw [←hz2]
 clear hz2 hX0 z1
 have cq:=hide (svSame_tells (uh LX1) (uh LY))
 obtain ⟨p0,p1,p2,p3,p4,p5,p6,p7,p8,p9,p10,p11,p12,p13,p14⟩:=Sv.cells15 (uh BX1)
 obtain ⟨q0,q1,q2,q3,q4,q5,q6,q7,q8,q9,q10,q11,q12,q13,q14⟩:=Sv.cells15 (uh BY)
 unfold Sv.cells at cq
 go_wp2_with fail
 refine (uh cq).mono ?_
 rintro e z3 ⟨rfl,hg3⟩
 have T9:=hide ((uh T811).on hg3)
 have BU9:=hide ((uh BU811).on hg3)
 have LU9:=hide ((uh LU811).on hg3)
 have BX9:=hide ((uh BX1).on hg3)
 have LX9:=hide ((uh LX1).on hg3)
 clear cq hg3 BY LY BX1 LX1 BU811 LU811 T811 p0 p1 p2 p3 p4 p5 p6 p7 p8 p9 p10 p11 p12 p13 p14 q0 q1 q2 q3 q4 q5 q6 q7 q8 q9 q10 q11 q12 q13 q14
 go_upto_if 101 with fail
 go_cut [] from 101 to 101 (fun wx=>wx=z3)
 case first =>
  go_wp2_with fail
  go_meet
  exact rfl
 case rest =>
  obtain rfl:=hcut
  rename_i Kx Ax
  refine Ax _ _ ?_
  rcases uh HW2 with ⟨rfl,h2⟩ | ⟨rfl,h2⟩
  ·obtain rfl:nh=0:=by
    have h:=uh HNH
    rw [h2] at h
    exact h.symm
   rw [h2] at LX9
   exact saveTwo_arm0 w _ X B2 FX F2 C2 (uh BX9) (uh T9).two (uh LX9) (uh T9).c2 (uh T9).grown
  ·obtain rfl:nf=nh:=by
    have h:=uh HNH
    rw [h2] at h
    exact (uh HNF).symm.trans h
   rw [h2] at LX9
   rcases uh HW1 with ⟨rfl,h1⟩ | ⟨rfl,h1⟩
   ·obtain rfl:nf=0:=by
     have h:=uh HNF
     rw [h1] at h
     exact h.symm
    rw [h1] at LX9 LU9
    exact saveTwo_arm1 w _ X U B1 FX FU F1 C1 (uh BX9) (uh BU9) (uh T9).one (uh LX9) (uh LU9) (uh T9).c1 (uh T9).grown
   ·exact saveTwo_arm2 w _ X U nf FX FU o1 (uh BX9) (uh BU9) (uh LX9) (uh LU9) (uh T9).grown


open Go.RowKit

set_option maxRecDepth 16000 in
set_option maxHeartbeats 25600000 in
theorem saveTwo_rest {f0 f1 f2 f4 f5 f6 f7 f8 f9 f10 f11 f13 f14 f17 f18 f19 f20 f21 f22 f23 f24 f25 f26 f27 f28 f29 f30 f31 f32 f33 f34 f35 f36 f37 f38 f39 f40 f41 f42 f43 f44 f45 f46 f47 f48 f49 f50 f51 f52 f53 f54 f55 f56 f57 f58 f59 f60 f61 f62 f63 f64 f65 f66 f67 f68 f69 f70 f71 f72 f73 f74 f75 f76 f77 f78 f79 f80 f81 f82 f83 f84 f85 f86 f87 f88 f89 f90 f91 f92 f93 f94 f95 f96 f97 f98 f99 f100 f101 f102 f103 f104 f105 f106 f107 f108 f109 f110 f111 f112 f113 f114 f115 f116 f117 f118 f119 f120 f121 f122 f123 f124 f125 f126 f127 f128 f129 f130 f131 f132 f133 f134 f135 f136 f137 f138 f139:Value} (w y3:World) (bs p bm B1 B2 kb:Nat) (st:Dk.St) (a3:Int) (o:Option Sv.C) (C1 C2:Sv.C) (F1 F2:Sv.Q) (cwb:Hid (∀x,Calls Tryz.prog 13 #[.int .i64 a3,.int .i64 42] x fun e w'=>e=.returned (.int .i64 (kb:Int))∧w'=x)) (hkb:kb<42) (T3:Hid (Sv.Tw w y3 bs p bm st o C1 C2 F1 F2 B1 B2)) (HDN:Hid (st.done≤16)) :
  Code.wp Tryz.prog Sv.two11 (bodyPost Tryz.prog Tryz.f5 fun e w'=>e=.returned (.bool true)∧Below w.heap.size w w') ⟨#[f0,f1,f2,(.int .i64 a3),f4,f5,f6,f7,f8,f9,f10,f11,(.pointer (some ⟨p,0,none⟩)),f13,f14,(.pointer (some ⟨B1,0,none⟩)),(.pointer (some ⟨B2,0,none⟩)),f17,f18,f19,f20,f21,f22,f23,f24,f25,f26,f27,f28,f29,f30,f31,f32,f33,f34,f35,f36,f37,f38,f39,f40,f41,f42,f43,f44,f45,f46,f47,f48,f49,f50,f51,f52,f53,f54,f55,f56,f57,f58,f59,f60,f61,f62,f63,f64,f65,f66,f67,f68,f69,f70,f71,f72,f73,f74,f75,f76,f77,f78,f79,f80,f81,f82,f83,f84,f85,f86,f87,f88,f89,f90,f91,f92,f93,f94,f95,f96,f97,f98,f99,f100,f101,f102,f103,f104,f105,f106,f107,f108,f109,f110,f111,f112,f113,f114,f115,f116,f117,f118,f119,f120,f121,f122,f123,f124,f125,f126,f127,f128,f129,f130,f131,f132,f133,f134,f135,f136,f137,f138,f139],[]⟩ y3:=by
 conv=>arg 2;whnf
 have cv:=hide (Sv.Disk.saveF (uh T3).disk (by omega) (uh T3).dead (by have:=uh HDN;exact Nat.le_trans this (by decide)) (uh T3).c1)
 obtain ⟨b0,b1,b2,b3,b4,b5,b6,b7,b8,b9,b10,b11,b12,b13,b14⟩:=Sv.cells15 (uh T3).one
 unfold Sv.cells at cv
 go_wp2_with fail
 refine (uh cv).mono ?_
 rintro e y4 ⟨r1,st1,o1,rfl,hD4,hK4,ht4⟩
 have HW1:Hid ((r1=0∧o1=some C1)∨(r1=11∧o1=o)):=by
  rcases hK4.way with ⟨h1,_,h2,_⟩ | ⟨h1,_,h2,_⟩
  ·exact .inl ⟨h1,h2⟩
  ·exact .inr ⟨h1,h2⟩
 have hdn':=hK4.high
 have cs:=hide hD4.start
 clear cv hD4 hK4 b0 b1 b2 b3 b4 b5 b6 b7 b8 b9 b10 b11 b12 b13 b14
 go_wp2_with fail
 refine (uh cs).mono ?_
 rintro e y5 ⟨rfl,hD5,ht5⟩
 have T5:=hide ((uh T3).next hD5 (ht4.trans ht5 (fun _ _ q=>q)) rfl)
 obtain ⟨nf,hnf⟩:∃k,Sv.no o1=k:=⟨_,rfl⟩
 have clu:=hide (hD5.loadF (by omega) rfl)
 rw [hnf] at clu
 have HNF:=hide hnf
 have HD1:Hid (st1.done≤32):=(show st1.done≤32 by have:=uh HDN;exact Nat.le_trans hdn' (by show st.done+16≤32;omega))
 clear cs hD5 ht4 ht5 T3 hnf hdn' HDN
 go_wp2_with fail
 refine (uh clu).mono ?_
 rintro e z1 ⟨hz1,FU,rfl,hFU⟩
 obtain ⟨z2,hz2⟩:∃x,x=z1.alloc (.cells (Sv.cells FU) 33):=⟨_,rfl⟩
 have hg2:z1.grownBy z2 none:=by rw [hz2];exact World.grownBy_alloc _ _ _
 obtain ⟨U,hX0⟩:∃B,z1.heap.size=B:=⟨_,rfl⟩
 have BU:Hid (Lie z2 U 33 15 FU.box):=by
  show Lie z2 _ _ _ _
  rw [hz2,←hX0]
  exact Sv.cells_lie z1 FU
 have LU:=hide (hFU.on hg2)
 have T51:=hide ((uh T5).on (gtr hz1 hg2))
 clear clu hz1 hFU hg2 T5 
 unfold Sv.cells at hz2 ⊢
 go_upto_region 14 with fail
 rw [←hz2]
 clear hz2 hX0 z1
 have cC:=hide ((uh T51).disk.cut (kb:Int) (by omega))
 go_wp2_with fail
 refine (uh cwb _).mono ?_
 rintro e xq ⟨rfl,hq'⟩
 obtain rfl:z2=xq:=hq'.symm
 clear cwb hq'
 go_wp2_with fail
 refine (uh cC).mono ?_
 rintro e y6 ⟨rfl,hD6,ht6⟩
 have T6:=hide ((uh T51).next hD6 ht6 rfl)
 have BU6:=hide ((uh T51).disk.lie ht6 (uh BU) (by decide))
 have LU6:=hide ((uh LU).disk (uh T51).disk ht6)
 have HDN:Hid (st1.done≤32):=HD1
 clear cC hD6 ht6 T51 BU LU HD1
 have cv:=hide (Sv.Disk.saveF (uh T6).disk (by omega) (uh T6).dead (by have:=uh HDN;exact Nat.le_trans this (by decide)) (uh T6).c2)
 obtain ⟨b0,b1,b2,b3,b4,b5,b6,b7,b8,b9,b10,b11,b12,b13,b14⟩:=Sv.cells15 (uh T6).two
 unfold Sv.cells at cv
 go_wp2_with fail
 refine (uh cv).mono ?_
 rintro e y7 ⟨r2,st2,o2,rfl,hD4,hK4,ht4⟩
 have HW2:Hid ((r2=0∧o2=some C2)∨(r2=11∧o2=o1)):=by
  rcases hK4.way with ⟨h1,_,h2,_⟩ | ⟨h1,_,h2,_⟩
  ·exact .inl ⟨h1,h2⟩
  ·exact .inr ⟨h1,h2⟩
 have hdn':=hK4.high
 have cs:=hide hD4.start
 clear cv hD4 hK4 b0 b1 b2 b3 b4 b5 b6 b7 b8 b9 b10 b11 b12 b13 b14
 go_upto_region 16 with fail
 go_cut [] from 81 to 82 (fun wx=>Hid (Sv.Tw w wx bs p bm ⟨st2.f,st2.done,-1,false⟩ o2 C1 C2 F1 F2 B1 B2∧Lie wx U 33 15 FU.box∧Sv.Tells wx o1 FU))
 case first =>
  go_wp2_with fail
  refine (uh cs).mono ?_
  rintro e y8 ⟨rfl,hD8,ht8⟩
  have ht68:=ht4.trans ht8 (fun _ _ q=>q)
  have hfin:Hid (Sv.Tw w y8 bs p bm ⟨st2.f,st2.done,-1,false⟩ o2 C1 C2 F1 F2 B1 B2∧Lie y8 U 33 15 FU.box∧Sv.Tells y8 o1 FU):=⟨(uh T6).next hD8 ht68 rfl,(uh T6).disk.lie ht68 (uh BU6) (by decide),(uh LU6).disk (uh T6).disk ht68⟩
  clear cs hD8 ht4 ht8 ht68 T6 BU6 LU6 hdn' HDN
  go_wp2_with fail
  go_meet
  exact hfin
 case rest =>
  rename_i Kx Ax
  refine Ax _ _ ?_
  exact saveTwo_tail w wc bs p bm B1 B2 U _ _ _ nf o o1 o2 C1 C2 F1 F2 FU HW1 HW2 HNF (uh hcut).1 (uh hcut).2.1 (uh hcut).2.2


open Go.RowKit

theorem Sv.held_of {P:Program} {md:Region.Mode} {ops ops':Array Oper} {l l':Array Bool} {Q:Exit→Act→World→Prop} {S:World→Prop} {n:Nat} {a:Act} {w:World} (ho:ops=ops') (hl:l=l') (h:wpAnyH P md ops' Q S n l' a w):wpAnyH P md ops Q S n l a w:=by
 subst ho hl
 exact h

set_option maxRecDepth 16000 in
set_option maxHeartbeats 25600000 in
theorem saveTwo_any (a0 a2 a3:Int) (a1:Option Addr) (len1 cap1:Nat) (a4:Bool) (V:Nat→Option Addr × Nat × Nat) (z:Nat→Nat→Int) (w:World) (w0:(Lit.int .i64 a0).wf=true) (hC:Cr.Came w a1 len1 V z) (hcap:a1=none→len1=0∧cap1=0) (hsz:len1*24≤140737488351232) :
  Calls Tryz.prog 5 #[.int .i64 a0,.slice a1 len1 cap1,.int .i64 a2,.int .i64 a3,.bool a4] w fun e w'=>e=.returned (.bool true)∧Below w.heap.size w w':=by
 have hz:=hide (Sv.wfs w0)
 have hC':=hide hC
 have hcap':=hide hcap
 have HSZ:=hide hsz
 obtain ⟨ka,hka,hka42⟩:∃k:Nat,a2 % 42=(k:Int)∧k<42:=⟨(a2 % 42).toNat,by omega,by omega⟩
 obtain ⟨kb,hkb,hkb42⟩:∃k:Nat,a3 % 42=(k:Int)∧k<42:=⟨(a3 % 42).toNat,by omega,by omega⟩
 have cwa:=hide (fun x=>within14_any a2 42 x (by omega) (by omega))
 have cwb:=hide (fun x=>within14_any a3 42 x (by omega) (by omega))
 rw [hka] at cwa
 rw [hkb] at cwb
 have HK:Hid (ka<42∧kb<42):=⟨hka42,hkb42⟩
 clear w0 hC hka hkb hcap hsz hka42 hkb42
 go_enter Tryz.func5,Tryz.ntmps5
 go_wp2_with fail
 refine (known14_any _).mono ?_
 rintro e x1 ⟨rfl,hg1⟩
 have G1:=hide hg1
 clear hg1
 obtain ⟨n,hn⟩:∃n,x1.heap.size=n:=⟨_,rfl⟩
 have HN:=hide hn
 obtain ⟨x2,hx2⟩:∃x,x=(((x1.alloc (.cells #[.int .i64 1] 3)).alloc (.cells #[.int .i64 2] 3)).alloc (.cells #[.int .i64 3] 3)).alloc (.cells #[.slice (some ⟨n,0,none⟩) 1 1,.slice (some ⟨n+1,0,none⟩) 1 1,.slice (some ⟨n+1+1,0,none⟩) 1 1] 23):=⟨_,rfl⟩
 have G2:Hid (w.grownBy x2 none):=by
  show w.grownBy x2 none
  rw [hx2]
  exact gal (gal (gal (gal (uh G1) _) _) _) _
 have CS:Hid ((∀i,i<3→x2.cell? ⟨n+i,0,none⟩=some (.int .i64 ((i:Int)+1)))∧x2.heap.size=n+4∧w.heap.size≤n):=by
  refine ⟨fun i hi=>?_,by rw [hx2];simp [hn],by rw [←hn];exact (uh G1).size⟩
  have e1:∀(y:World) (v:Int),(y.alloc (.cells #[.int .i64 v] 3)).cell? ⟨y.heap.size,0,none⟩=some (.int .i64 v):=fun y v=>by
   rw [cell_of_row _ _ 0 _ _ (0,0) (heap_alloc_new y _)]
   rfl
  have k1:=e1 x1 1
  have k2:=e1 (x1.alloc (.cells #[.int .i64 1] 3)) 2
  have k3:=e1 ((x1.alloc (.cells #[.int .i64 1] 3)).alloc (.cells #[.int .i64 2] 3)) 3
  have s1:(x1.alloc (.cells #[.int .i64 1] 3)).heap.size=n+1:=by simp [hn]
  have s2:((x1.alloc (.cells #[.int .i64 1] 3)).alloc (.cells #[.int .i64 2] 3)).heap.size=n+2:=by simp [hn]
  have s3:(((x1.alloc (.cells #[.int .i64 1] 3)).alloc (.cells #[.int .i64 2] 3)).alloc (.cells #[.int .i64 3] 3)).heap.size=n+3:=by simp [hn]
  have g4:=World.grownBy_alloc (((x1.alloc (.cells #[.int .i64 1] 3)).alloc (.cells #[.int .i64 2] 3)).alloc (.cells #[.int .i64 3] 3)) (.cells #[.slice (some ⟨n,0,none⟩) 1 1,.slice (some ⟨n+1,0,none⟩) 1 1,.slice (some ⟨n+1+1,0,none⟩) 1 1] 23) none
  have g3:=gtr (World.grownBy_alloc ((x1.alloc (.cells #[.int .i64 1] 3)).alloc (.cells #[.int .i64 2] 3)) (.cells #[.int .i64 3] 3) none) g4
  have g2:=gtr (World.grownBy_alloc (x1.alloc (.cells #[.int .i64 1] 3)) (.cells #[.int .i64 2] 3) none) g3
  rw [hn] at k1
  rw [s1] at k2
  rw [s2] at k3
  rw [hx2]
  rcases (show i=0∨i=1∨i=2 by omega) with rfl | rfl | rfl
  ·exact (gce g2 n 0 (by omega) (by simp)).trans k1
  ·exact (gce g3 (n+1) 0 (by omega) (by simp)).trans k2
  ·exact (gce g4 (n+2) 0 (by omega) (by simp)).trans k3
 have HO:Hid (x2.ownsRow w.heap.size 23 1 (.slice (some ⟨n+3,0,none⟩) 3 3) 3 [.slice (some ⟨n,0,none⟩) 1 1,.slice (some ⟨n+1,0,none⟩) 1 1,.slice (some ⟨n+2,0,none⟩) 1 1]):=by
  have h:=World.ownsRow_lit (base:=w.heap.size) (e:=23) (size:=1) (((x1.alloc (.cells #[.int .i64 1] 3)).alloc (.cells #[.int .i64 2] 3)).alloc (.cells #[.int .i64 3] 3)) #[.slice (some ⟨n,0,none⟩) 1 1,.slice (some ⟨n+1,0,none⟩) 1 1,.slice (some ⟨n+1+1,0,none⟩) 1 1] 3 (by have:=(uh G1).size;simp;omega) (by unfold maxLen;omega) rfl
  rw [←hx2] at h
  have e:(((x1.alloc (.cells #[.int .i64 1] 3)).alloc (.cells #[.int .i64 2] 3)).alloc (.cells #[.int .i64 3] 3)).heap.size=n+3:=by simp [hn]
  rw [e] at h
  exact h
 go_upto_region 3 with fail
 have hb24:(3+len1)*24≤140737488355328:=by have:=uh HSZ;omega
 go_wp2_with (at_builtin;rw [←hx2];refine wpList_append_rows rfl _ _ rfl w.heap.size _ 3 _ rfl (uh HO) a1 len1 cap1 V z rfl (uh hC') (uh G2) (uh hcap') hb24 ?_ ?_)
 ·exact (uh G2).size
 intro v1 xm hown hgrow
 have hgrow:x2.grownBy xm (some (n+3)):=by
  rw [←hx2] at hgrow
  exact hgrow
 obtain ⟨a',c',rfl,hCm,hgm⟩:=Sv.rows_more (uh hC') (uh G2) (uh CS).2.2 (by have:=(uh CS).2.1;omega) (by unfold maxLen;omega) (uh CS).1 hgrow hown
 have cs:=hide (story_len a0 a' (3+len1) c' _ _ xm hCm)
 have Gm:=hide hgm
 clear hown hgrow hCm hgm hb24 HO CS G2 hx2 hn HN hC' hcap' HSZ G1
 go_wp2_with fail
 refine (uh cs).mono ?_
 rintro e x3 ⟨v,base0,L,rfl,hbase,hLn,hBk,hg3⟩
 have hL4:4≤L.length∧L.length≤31:=by omega
 obtain ⟨q,cap,C0,C1,C2,P0,P1,P2,rfl,hq,hcp,u0,u1,u2,k0,k1,k2⟩:=Sv.pages3 hBk (by omega) (uh hz)
 obtain ⟨m,hm⟩:∃m,L.length=m:=⟨_,rfl⟩
 rw [hm] at hL4 hcp ⊢
 have i0:(0:Int)<(m:Int):=by omega
 have i1:(1:Int)<(m:Int):=by omega
 have i2:(2:Int)<(m:Int):=by omega
 have cN:=hide (Dk.mine_new 40 x3 (by omega) (by omega))
 have G3:=hide (gtr (uh Gm) hg3)
 have US:Hid (q<x3.heap.size∧(∀j,j<11→x3.cell? ⟨q,j,none⟩=some (Sv.Pg.box P0 j))∧(∀j,j<11→x3.cell? ⟨q,11+j,none⟩=some (Sv.Pg.box P1 j))∧(∀j,j<11→x3.cell? ⟨q,22+j,none⟩=some (Sv.Pg.box P2 j))):=⟨hq,u0,u1,u2⟩
 have KS:Hid (Sv.Camp x3 C0 P0.q∧Sv.Camp x3 C1 P1.q∧Sv.Camp x3 C2 P2.q):=⟨k0,k1,k2⟩
 have HM:=hide hL4
 clear cs hbase hLn hBk hg3 hL4 hq hcp u0 u1 u2 k0 k1 k2 hm Gm hz
 go_wp2_with fail
 refine (uh cN).mono ?_
 rintro e x4 ⟨p,bm,rfl,hM,hg4⟩
 have lo:Hid (w.heap.size≤p∧w.heap.size≤bm):=⟨Nat.le_trans (uh G3).size hM.low,Nat.le_trans (uh G3).size hM.lowb⟩
 have D4:Hid (Sv.Disk x4 x3.heap.size p bm 40 Dk.fresh none):=⟨hM,Sv.fresh_tells,fun C e=>(by cases e),by simp [Dk.fresh]⟩
 have S4:Hid (∀y,x4.grownBy y none→((fun x=>Hid ((∀j,j<11→x.cell? ⟨q,j,none⟩=some (Sv.Pg.box P0 j))∧(∀j,j<11→x.cell? ⟨q,11+j,none⟩=some (Sv.Pg.box P1 j))∧(∀j,j<11→x.cell? ⟨q,22+j,none⟩=some (Sv.Pg.box P2 j)))) y)):=fun y hy=>by
  obtain ⟨h0,h1,h2,h3⟩:=uh US
  have hg:=gtr hg4 hy
  exact ⟨fun j hj=>(gce hg q j h0 (by simp)).trans (h1 j hj),fun j hj=>(gce hg q (11+j) h0 (by simp)).trans (h2 j hj),fun j hj=>(gce hg q (22+j) h0 (by simp)).trans (h3 j hj)⟩
 have K4:Hid (Sv.Camp x4 C0 P0.q∧Sv.Camp x4 C1 P1.q∧Sv.Camp x4 C2 P2.q):=⟨(uh KS).1.on hg4,(uh KS).2.1.on hg4,(uh KS).2.2.on hg4⟩
 have G4:=hide (gtr (uh G3) hg4)
 obtain ⟨bs,hbs⟩:∃b,x3.heap.size=b:=⟨_,rfl⟩
 rw [hbs] at D4
 clear cN hM hg4 KS US G3 hbs x3
 go_upto_region 7 with fail
 go_cut [14,15,16] from 41 to 52 (fun v14 v15 v16 wx=>∃B0 B1 B2,v14=.pointer (some ⟨B0,0,none⟩)∧v15=.pointer (some ⟨B1,0,none⟩)∧v16=.pointer (some ⟨B2,0,none⟩)∧Hid (x4.grownBy wx none∧Lie wx B0 33 15 P0.box∧Lie wx B1 33 15 P1.box∧Lie wx B2 33 15 P2.box))
 case first =>
  have i0':0<m:=by have:=uh HM;omega
  refine wp_region_held_drew (S:=fun x=>Hid ((∀j,j<11→x.cell? ⟨q,j,none⟩=some (Sv.Pg.box P0 j))∧(∀j,j<11→x.cell? ⟨q,11+j,none⟩=some (Sv.Pg.box P1 j))∧(∀j,j<11→x.cell? ⟨q,22+j,none⟩=some (Sv.Pg.box P2 j)))) (by kernel_rfl) (uh S4 _ (gd1 (World.grownBy.refl _ none))) (fun HS0=>?_)
  refine wpAnyH_take (i:=0) (v:=?_) rfl (by kernel_rfl) (by kernel_rfl) (by kernel_rfl) (fun _ _ _ h=>h) (Or.inl ⟨by rfl,?_⟩) HS0 ?_
  rotate_left
  ·intro x hSx
   clear hSx
   go_simp
   try with_reducible rfl
  simp only [Act.put,List.getElem_toArray,List.getElem_cons_zero,List.setIfInBounds_toArray,List.set_cons_succ,List.set_cons_zero]
  refine wpAnyH_take (i:=1) (v:=?_) rfl (by kernel_rfl) (by kernel_rfl) (by kernel_rfl) (fun _ _ _ h=>h) (Or.inl ⟨by rfl,?_⟩) HS0 ?_
  rotate_left
  ·intro x hSx
   clear hSx
   go_simp
   try with_reducible rfl
  simp only [Act.put,List.getElem_toArray,List.getElem_cons_zero,List.getElem_cons_succ,List.setIfInBounds_toArray,List.set_cons_succ,List.set_cons_zero]
  refine wpAnyH_take (i:=2) (v:=?_) rfl (by kernel_rfl) (by kernel_rfl) (by kernel_rfl) (fun _ _ _ h=>h) (Or.inl ⟨by rfl,?_⟩) HS0 ?_
  rotate_left
  ·intro x hSx
   have u0:x.cell? ⟨q,0,none⟩=some (.int .i64 (P0.s 0)):=(uh hSx).1 0 (by omega)
   have u1:x.cell? ⟨q,1,none⟩=some (.int .i64 (P0.s 1)):=(uh hSx).1 1 (by omega)
   have u2:x.cell? ⟨q,2,none⟩=some (.int .i64 (P0.s 2)):=(uh hSx).1 2 (by omega)
   have u3:x.cell? ⟨q,3,none⟩=some (.int .i64 (P0.s 3)):=(uh hSx).1 3 (by omega)
   have u4:x.cell? ⟨q,4,none⟩=some (.slice (some ⟨P0.gC,0,none⟩) 384 P0.cC):=(uh hSx).1 4 (by omega)
   have u5:x.cell? ⟨q,5,none⟩=some (.slice (some ⟨P0.gE,0,none⟩) 32 P0.cE):=(uh hSx).1 5 (by omega)
   have u6:x.cell? ⟨q,6,none⟩=some (.slice (some ⟨P0.gI,0,none⟩) 40 P0.cI):=(uh hSx).1 6 (by omega)
   have u7:x.cell? ⟨q,7,none⟩=some (.int .i64 (P0.g 0)):=(uh hSx).1 7 (by omega)
   have u8:x.cell? ⟨q,8,none⟩=some (.int .i64 (P0.g 1)):=(uh hSx).1 8 (by omega)
   have u9:x.cell? ⟨q,9,none⟩=some (.int .i64 (P0.g 2)):=(uh hSx).1 9 (by omega)
   have u10:x.cell? ⟨q,10,none⟩=some (.int .i64 (P0.g 3)):=(uh hSx).1 10 (by omega)
   clear hSx
   go_simp
   try with_reducible rfl
  simp only [Act.put,List.getElem_toArray,List.getElem_cons_zero,List.getElem_cons_succ,List.setIfInBounds_toArray,List.set_cons_succ,List.set_cons_zero]
  refine wpAnyH_take (i:=3) (v:=?_) rfl (by kernel_rfl) (by kernel_rfl) (by kernel_rfl) (fun _ _ _ h=>h) (Or.inl ⟨by rfl,?_⟩) HS0 ?_
  rotate_left
  ·intro x hSx
   clear hSx
   go_simp
   try with_reducible rfl
  simp only [Act.put,List.getElem_toArray,List.getElem_cons_zero,List.getElem_cons_succ,List.setIfInBounds_toArray,List.set_cons_succ,List.set_cons_zero]
  refine wpAnyH_take (i:=4) (v:=?_) rfl (by kernel_rfl) (by kernel_rfl) (by kernel_rfl) (fun _ _ _ h=>h) (Or.inl ⟨by rfl,?_⟩) HS0 ?_
  rotate_left
  ·intro x hSx
   clear hSx
   go_simp
   try with_reducible rfl
  simp only [Act.put,List.getElem_toArray,List.getElem_cons_zero,List.getElem_cons_succ,List.setIfInBounds_toArray,List.set_cons_succ,List.set_cons_zero]
  refine wpAnyH_take (i:=5) (v:=?_) rfl (by kernel_rfl) (by kernel_rfl) (by kernel_rfl) (fun _ _ _ h=>h) (Or.inl ⟨by rfl,?_⟩) HS0 ?_
  rotate_left
  ·intro x hSx
   clear hSx
   go_simp
   try with_reducible rfl
  simp only [Act.put,List.getElem_toArray,List.getElem_cons_zero,List.getElem_cons_succ,List.setIfInBounds_toArray,List.set_cons_succ,List.set_cons_zero]
  refine wpAnyH_take (i:=6) (v:=?_) rfl (by kernel_rfl) (by kernel_rfl) (by kernel_rfl) (fun _ _ _ h=>h) (Or.inl ⟨by rfl,?_⟩) HS0 ?_
  rotate_left
  ·intro x hSx
   have u0:x.cell? ⟨q,11,none⟩=some (.int .i64 (P1.s 0)):=(uh hSx).2.1 0 (by omega)
   have u1:x.cell? ⟨q,12,none⟩=some (.int .i64 (P1.s 1)):=(uh hSx).2.1 1 (by omega)
   have u2:x.cell? ⟨q,13,none⟩=some (.int .i64 (P1.s 2)):=(uh hSx).2.1 2 (by omega)
   have u3:x.cell? ⟨q,14,none⟩=some (.int .i64 (P1.s 3)):=(uh hSx).2.1 3 (by omega)
   have u4:x.cell? ⟨q,15,none⟩=some (.slice (some ⟨P1.gC,0,none⟩) 384 P1.cC):=(uh hSx).2.1 4 (by omega)
   have u5:x.cell? ⟨q,16,none⟩=some (.slice (some ⟨P1.gE,0,none⟩) 32 P1.cE):=(uh hSx).2.1 5 (by omega)
   have u6:x.cell? ⟨q,17,none⟩=some (.slice (some ⟨P1.gI,0,none⟩) 40 P1.cI):=(uh hSx).2.1 6 (by omega)
   have u7:x.cell? ⟨q,18,none⟩=some (.int .i64 (P1.g 0)):=(uh hSx).2.1 7 (by omega)
   have u8:x.cell? ⟨q,19,none⟩=some (.int .i64 (P1.g 1)):=(uh hSx).2.1 8 (by omega)
   have u9:x.cell? ⟨q,20,none⟩=some (.int .i64 (P1.g 2)):=(uh hSx).2.1 9 (by omega)
   have u10:x.cell? ⟨q,21,none⟩=some (.int .i64 (P1.g 3)):=(uh hSx).2.1 10 (by omega)
   clear hSx
   go_simp
   try with_reducible rfl
  simp only [Act.put,List.getElem_toArray,List.getElem_cons_zero,List.getElem_cons_succ,List.setIfInBounds_toArray,List.set_cons_succ,List.set_cons_zero]
  refine wpAnyH_take (i:=7) (v:=?_) rfl (by kernel_rfl) (by kernel_rfl) (by kernel_rfl) (fun _ _ _ h=>h) (Or.inl ⟨by rfl,?_⟩) HS0 ?_
  rotate_left
  ·intro x hSx
   clear hSx
   go_simp
   try with_reducible rfl
  simp only [Act.put,List.getElem_toArray,List.getElem_cons_zero,List.getElem_cons_succ,List.setIfInBounds_toArray,List.set_cons_succ,List.set_cons_zero]
  refine wpAnyH_take (i:=8) (v:=?_) rfl (by kernel_rfl) (by kernel_rfl) (by kernel_rfl) (fun _ _ _ h=>h) (Or.inl ⟨by rfl,?_⟩) HS0 ?_
  rotate_left
  ·intro x hSx
   clear hSx
   go_simp
   try with_reducible rfl
  simp only [Act.put,List.getElem_toArray,List.getElem_cons_zero,List.getElem_cons_succ,List.setIfInBounds_toArray,List.set_cons_succ,List.set_cons_zero]
  refine wpAnyH_take (i:=9) (v:=?_) rfl (by kernel_rfl) (by kernel_rfl) (by kernel_rfl) (fun _ _ _ h=>h) (Or.inl ⟨by rfl,?_⟩) HS0 ?_
  rotate_left
  ·intro x hSx
   clear hSx
   go_simp
   try with_reducible rfl
  simp only [Act.put,List.getElem_toArray,List.getElem_cons_zero,List.getElem_cons_succ,List.setIfInBounds_toArray,List.set_cons_succ,List.set_cons_zero]
  refine wpAnyH_take (i:=10) (v:=?_) rfl (by kernel_rfl) (by kernel_rfl) (by kernel_rfl) (fun _ _ _ h=>h) (Or.inl ⟨by rfl,?_⟩) HS0 ?_
  rotate_left
  ·intro x hSx
   have u0:x.cell? ⟨q,22,none⟩=some (.int .i64 (P2.s 0)):=(uh hSx).2.2 0 (by omega)
   have u1:x.cell? ⟨q,23,none⟩=some (.int .i64 (P2.s 1)):=(uh hSx).2.2 1 (by omega)
   have u2:x.cell? ⟨q,24,none⟩=some (.int .i64 (P2.s 2)):=(uh hSx).2.2 2 (by omega)
   have u3:x.cell? ⟨q,25,none⟩=some (.int .i64 (P2.s 3)):=(uh hSx).2.2 3 (by omega)
   have u4:x.cell? ⟨q,26,none⟩=some (.slice (some ⟨P2.gC,0,none⟩) 384 P2.cC):=(uh hSx).2.2 4 (by omega)
   have u5:x.cell? ⟨q,27,none⟩=some (.slice (some ⟨P2.gE,0,none⟩) 32 P2.cE):=(uh hSx).2.2 5 (by omega)
   have u6:x.cell? ⟨q,28,none⟩=some (.slice (some ⟨P2.gI,0,none⟩) 40 P2.cI):=(uh hSx).2.2 6 (by omega)
   have u7:x.cell? ⟨q,29,none⟩=some (.int .i64 (P2.g 0)):=(uh hSx).2.2 7 (by omega)
   have u8:x.cell? ⟨q,30,none⟩=some (.int .i64 (P2.g 1)):=(uh hSx).2.2 8 (by omega)
   have u9:x.cell? ⟨q,31,none⟩=some (.int .i64 (P2.g 2)):=(uh hSx).2.2 9 (by omega)
   have u10:x.cell? ⟨q,32,none⟩=some (.int .i64 (P2.g 3)):=(uh hSx).2.2 10 (by omega)
   clear hSx
   go_simp
   try with_reducible rfl
  simp only [Act.put,List.getElem_toArray,List.getElem_cons_zero,List.getElem_cons_succ,List.setIfInBounds_toArray,List.set_cons_succ,List.set_cons_zero]
  refine wpAnyH_take (i:=11) (v:=?_) rfl (by kernel_rfl) (by kernel_rfl) (by kernel_rfl) (fun _ _ _ h=>h) (Or.inl ⟨by rfl,?_⟩) HS0 ?_
  rotate_left
  ·intro x hSx
   clear hSx
   go_simp
   try with_reducible rfl
  simp only [Act.put,List.getElem_toArray,List.getElem_cons_zero,List.getElem_cons_succ,List.setIfInBounds_toArray,List.set_cons_succ,List.set_cons_zero]
  refine Sv.held_of (ops':=Sv.ops7) (l':=Sv.up7 0 0 0) (by kernel_rfl) (by kernel_rfl) ?_
  refine Sv.three7 _ P0 P1 P2 x4.drew _ (fun y hy=>uh S4 _ (gtr (gd1 (World.grownBy.refl _ none)) hy)) ?_ 6 0 0 0 _ _ _ _ (by unfold Sv.Seq7;omega) (by omega) ⟨World.grownBy.refl _ _,.inl rfl,.inl rfl,.inl rfl,fun h=>absurd rfl h,fun h=>absurd rfl h,fun h=>absurd rfl h⟩
  intro v0 v1 v2 y hT
  rcases hT.one with h | ⟨B0,rfl,_,K0,hK0,e0⟩
  ·cases h
  rcases hT.two with h | ⟨B1,rfl,_,K1,hK1,e1⟩
  ·cases h
  rcases hT.three with h | ⟨B2,rfl,_,K2,hK2,e2⟩
  ·cases h
  have hfin:Hid (x4.grownBy y none∧Lie y B0 33 15 P0.box∧Lie y B1 33 15 P1.box∧Lie y B2 33 15 P2.box):=⟨gtr (gd1 (World.grownBy.refl _ none)) hT.grown,hK0.congr (e0 rfl),hK1.congr (e1 rfl),hK2.congr (e2 rfl)⟩
  clear hT hK0 hK1 hK2 e0 e1 e2 HS0 S4 D4 K4 G4
  go_wp2_with fail
  go_meet
  exact ⟨B0,B1,B2,rfl,rfl,rfl,hfin⟩
 case rest =>
  obtain ⟨B0,B1,B2,rfl,rfl,rfl,hX⟩:=hcut
  obtain ⟨F0,hF0⟩:∃F,P0.q=F:=⟨_,rfl⟩
  obtain ⟨F1,hF1⟩:∃F,P1.q=F:=⟨_,rfl⟩
  obtain ⟨F2,hF2⟩:∃F,P2.q=F:=⟨_,rfl⟩
  unfold Sv.Pg.box at hX
  rw [hF0,hF1,hF2] at hX K4
  clear hF0 hF1 hF2
  have T0:Hid (Sv.Tw w wc bs p bm Dk.fresh none C1 C2 F1 F2 B1 B2):=⟨(uh D4).on (uh hX).1,gtr (uh G4) (uh hX).1,uh lo,rfl,(uh hX).2.2.1,(uh hX).2.2.2,(uh K4).2.1.on (uh hX).1,(uh K4).2.2.on (uh hX).1⟩
  have BX:Hid (Lie wc B0 33 15 F0.box∧Sv.Camp wc C0 F0):=⟨(uh hX).2.1,(uh K4).1.on (uh hX).1⟩
  clear hX D4 G4 K4 S4 i0 i1 i2 HM
  rename_i Kx Ax
  refine Ax _ _ ?_
  go_upto_region 8 with fail
  go_cut [59] from 53 to 59 (fun v59 wx=>v59=.bool false∧Hid (∃st o,Sv.Tw w wx bs p bm st o C1 C2 F1 F2 B1 B2∧st.done≤16))
  case first =>
   cases a4 with
   | true =>
    have cv:=hide (Sv.Disk.saveF (uh T0).disk (by omega) rfl (by simp [Dk.fresh]) (uh BX).2)
    obtain ⟨b0,b1,b2,b3,b4,b5,b6,b7,b8,b9,b10,b11,b12,b13,b14⟩:=Sv.cells15 (uh BX).1
    unfold Sv.cells at cv
    go_wp2_with fail
    refine (uh cv).mono ?_
    rintro e y4 ⟨r0,st0,o0,rfl,hD4,hK4,ht4⟩
    rcases hK4.way with ⟨rfl,hdead,rfl,-⟩ | ⟨-,-,-,k4⟩
    case inr=>exact absurd k4 (by simp [Dk.fresh])
    have hfin:Hid (∃st o,Sv.Tw w y4 bs p bm st o C1 C2 F1 F2 B1 B2∧st.done≤16):=⟨_,_,(uh T0).next hD4 ht4 hdead,by have:=hK4.high;simpa [Dk.fresh] using this⟩
    clear cv hD4 hK4 ht4 hdead T0 BX b0 b1 b2 b3 b4 b5 b6 b7 b8 b9 b10 b11 b12 b13 b14
    go_wp2_with fail
    go_meet
    exact ⟨rfl,hfin⟩
   | false =>
    have hfin:Hid (∃st o,Sv.Tw w wc bs p bm st o C1 C2 F1 F2 B1 B2∧st.done≤16):=⟨_,_,uh T0,by simp [Dk.fresh]⟩
    clear T0 BX
    go_wp2_with fail
    go_meet
    exact ⟨rfl,hfin⟩
  case rest =>
   obtain ⟨rfl,hcut⟩:=hcut
   obtain ⟨st,o,hT,hdn⟩:=uh hcut
   clear hcut T0 BX
   have T1:=hide hT
   have HDN:=hide hdn
   have cC:=hide (hT.disk.cut (ka:Int) (by have:=(uh HK).1;omega))
   clear hT hdn
   go_upto_region 10 with fail
   go_cut [] from 60 to 63 (fun wx=>Hid (∃st o,Sv.Tw w wx bs p bm st o C1 C2 F1 F2 B1 B2∧st.done≤16))
   case first =>
    go_wp2_with fail
    refine (uh cwa _).mono ?_
    rintro e xq ⟨rfl,hq'⟩
    obtain rfl:wc=xq:=hq'.symm
    clear cwa hq'
    go_wp2_with fail
    refine (uh cC).mono ?_
    rintro e y3 ⟨rfl,hD3,ht3⟩
    have hfin:Hid (∃st o,Sv.Tw w y3 bs p bm st o C1 C2 F1 F2 B1 B2∧st.done≤16):=⟨_,_,(uh T1).next hD3 ht3 (uh T1).dead,uh HDN⟩
    clear cC hD3 ht3 T1
    go_wp2_with fail
    go_meet
    exact hfin
   case rest =>
    obtain ⟨st',o',hT',hdn'⟩:=uh hcut
    rename_i Kx Ax
    refine Ax _ _ ?_
    exact saveTwo_rest w wc bs p bm B1 B2 kb st' a3 o' C1 C2 F1 F2 cwb (uh HK).2 hT' hdn'

end Go.Proofs.YtldgbkjceildfaaGreat
