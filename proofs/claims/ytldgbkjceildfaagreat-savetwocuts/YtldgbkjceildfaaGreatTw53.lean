import Derived.Test.YtldgbkjceildfaaGreatTw52
namespace Go.Proofs.YtldgbkjceildfaaGreat
open Go.RowKit

structure Sv.Q where
 i:Nat→Int
 a:Nat→Option Addr × Nat × Nat
 g:Nat→Int
 t:Nat→Bool

def Sv.Q.box (F:Sv.Q):Nat→Value
 | 0=>.int .i64 (F.i 0)
 | 1=>.int .i64 (F.i 1)
 | 2=>.int .i64 (F.i 2)
 | 3=>.int .i64 (F.i 3)
 | 4=>.slice (F.a 0).1 (F.a 0).2.1 (F.a 0).2.2
 | 5=>.slice (F.a 1).1 (F.a 1).2.1 (F.a 1).2.2
 | 6=>.slice (F.a 2).1 (F.a 2).2.1 (F.a 2).2.2
 | 7=>.int .i64 (F.g 0)
 | 8=>.int .i64 (F.g 1)
 | 9=>.int .i64 (F.g 2)
 | 10=>.int .i64 (F.g 3)
 | 11=>.bool (F.t 0)
 | 12=>.bool (F.t 1)
 | 13=>.bool (F.t 2)
 | 14=>.bool (F.t 3)
 | _=>undef

def Sv.Q.none:Sv.Q:=⟨fun _=>0,fun _=>(Option.none,0,0),fun _=>0,fun _=>false⟩

def Sv.Q.of (s:Nat→Int) (gC gE gI cC cE cI:Nat) (g:Nat→Int) (t:Nat→Bool):Sv.Q:=⟨s,fun k=>if k=0 then (some ⟨gC,0,Option.none⟩,384,cC) else if k=1 then (some ⟨gE,0,Option.none⟩,32,cE) else (some ⟨gI,0,Option.none⟩,40,cI),g,t⟩

def Sv.cells (F:Sv.Q):Array Value:=#[.int .i64 (F.i 0),.int .i64 (F.i 1),.int .i64 (F.i 2),.int .i64 (F.i 3),.slice (F.a 0).1 (F.a 0).2.1 (F.a 0).2.2,.slice (F.a 1).1 (F.a 1).2.1 (F.a 1).2.2,.slice (F.a 2).1 (F.a 2).2.1 (F.a 2).2.2,.int .i64 (F.g 0),.int .i64 (F.g 1),.int .i64 (F.g 2),.int .i64 (F.g 3),.bool (F.t 0),.bool (F.t 1),.bool (F.t 2),.bool (F.t 3)]

theorem Sv.cells_at (F:Sv.Q) (j:Nat) (hj:j<15):(Sv.cells F)[j]?=some (F.box j):=by
 rcases (show j=0∨j=1∨j=2∨j=3∨j=4∨j=5∨j=6∨j=7∨j=8∨j=9∨j=10∨j=11∨j=12∨j=13∨j=14 by omega) with rfl | rfl | rfl | rfl | rfl | rfl | rfl | rfl | rfl | rfl | rfl | rfl | rfl | rfl | rfl <;> rfl

theorem Sv.cells_lie (x:World) (F:Sv.Q):Lie (x.alloc (.cells (Sv.cells F) 33)) x.heap.size 33 15 F.box :=
 Arr.lie (m:=15) ⟨_,heap_alloc_new x _,rfl,fun i hi=>Sv.cells_at F i hi⟩

theorem Sv.cells15 {x:World} {B:Nat} {F:Sv.Q} (h:Lie x B 33 15 F.box):x.cell? ⟨B,0,none⟩=some (.int .i64 (F.i 0))∧x.cell? ⟨B,1,none⟩=some (.int .i64 (F.i 1))∧x.cell? ⟨B,2,none⟩=some (.int .i64 (F.i 2))∧x.cell? ⟨B,3,none⟩=some (.int .i64 (F.i 3))∧x.cell? ⟨B,4,none⟩=some (.slice (F.a 0).1 (F.a 0).2.1 (F.a 0).2.2)∧x.cell? ⟨B,5,none⟩=some (.slice (F.a 1).1 (F.a 1).2.1 (F.a 1).2.2)∧x.cell? ⟨B,6,none⟩=some (.slice (F.a 2).1 (F.a 2).2.1 (F.a 2).2.2)∧x.cell? ⟨B,7,none⟩=some (.int .i64 (F.g 0))∧x.cell? ⟨B,8,none⟩=some (.int .i64 (F.g 1))∧x.cell? ⟨B,9,none⟩=some (.int .i64 (F.g 2))∧x.cell? ⟨B,10,none⟩=some (.int .i64 (F.g 3))∧x.cell? ⟨B,11,none⟩=some (.bool (F.t 0))∧x.cell? ⟨B,12,none⟩=some (.bool (F.t 1))∧x.cell? ⟨B,13,none⟩=some (.bool (F.t 2))∧x.cell? ⟨B,14,none⟩=some (.bool (F.t 3)) :=
 ⟨h.cell (c:=0) (by omega),h.cell (c:=1) (by omega),h.cell (c:=2) (by omega),h.cell (c:=3) (by omega),h.cell (c:=4) (by omega),h.cell (c:=5) (by omega),h.cell (c:=6) (by omega),h.cell (c:=7) (by omega),h.cell (c:=8) (by omega),h.cell (c:=9) (by omega),h.cell (c:=10) (by omega),h.cell (c:=11) (by omega),h.cell (c:=12) (by omega),h.cell (c:=13) (by omega),h.cell (c:=14) (by omega)⟩

def Sv.Camp (x:World) (C:Sv.C) (F:Sv.Q):Prop:=C.Ok∧∃gC gE gI cC cE cI,F=Sv.Q.of C.s gC gE gI cC cE cI C.g C.t∧32≤cE∧Gd.Lists x gC gE gI C.c C.E C.I

def Sv.no:Option Sv.C→Int
 | none=>2
 | some _=>0

def Sv.Tells (x:World):Option Sv.C→Sv.Q→Prop
 | none,F=>F=Sv.Q.none
 | some C,F=>C.Ok∧∃gC gE gI cC cE cI,F=Sv.Q.of C.s gC gE gI cC cE cI C.g C.t∧Gd.Lists x gC gE gI C.c C.E C.I

section
variable {x y:World} {base p bm cnt:Nat} {st:Dk.St} {o oo:Option Sv.C} {C:Sv.C} {F G:Sv.Q}

theorem Sv.Camp.on (h:Sv.Camp x C F) (hg:x.grownBy y none):Sv.Camp y C F:=by
 obtain ⟨h1,gC,gE,gI,cC,cE,cI,h2,h3,h4⟩:=h
 exact ⟨h1,gC,gE,gI,cC,cE,cI,h2,h3,h4.on hg⟩

theorem Sv.Camp.disk (h:Sv.Camp x C F) (hd:Sv.Disk x base p bm cnt st o) (ht:Turn (fun k=>k=p∨k=bm) x y):Sv.Camp y C F:=by
 obtain ⟨h1,gC,gE,gI,cC,cE,cI,h2,h3,h4⟩:=h
 exact ⟨h1,gC,gE,gI,cC,cE,cI,h2,h3,hd.lists ht h4⟩

theorem Sv.Camp.tells (h:Sv.Camp x C F):Sv.Tells x (some C) F:=by
 obtain ⟨h1,gC,gE,gI,cC,cE,cI,h2,_,h4⟩:=h
 exact ⟨h1,gC,gE,gI,cC,cE,cI,h2,h4⟩

theorem Sv.Tells.on (h:Sv.Tells x o F) (hg:x.grownBy y none):Sv.Tells y o F:=by
 cases o with
 | none=>exact h
 | some C =>
  obtain ⟨h1,gC,gE,gI,cC,cE,cI,h2,h4⟩:=h
  exact ⟨h1,gC,gE,gI,cC,cE,cI,h2,h4.on hg⟩

theorem Sv.Tells.disk (h:Sv.Tells x oo F) (hd:Sv.Disk x base p bm cnt st o) (ht:Turn (fun k=>k=p∨k=bm) x y):Sv.Tells y oo F:=by
 cases oo with
 | none=>exact h
 | some C =>
  obtain ⟨h1,gC,gE,gI,cC,cE,cI,h2,h4⟩:=h
  exact ⟨h1,gC,gE,gI,cC,cE,cI,h2,hd.lists ht h4⟩

theorem Sv.Disk.saveF (h:Sv.Disk x base p bm cnt st o) (hc:40≤cnt) (hd:st.dead=false) (hdone:st.done≤1073741824) (hC:Sv.Camp x C F) :
  Calls Tryz.prog 19 #[.pointer (some ⟨p,0,none⟩),.agg (Sv.cells F)] x fun e w'=>∃r st' o',e=.returned (.int .i64 r)∧Sv.Disk w' base p bm cnt st' o'∧Sv.Kept st o C r st' o'∧Turn (fun k=>k=p∨k=bm) x w':=by
 obtain ⟨h1,gC,gE,gI,cC,cE,cI,rfl,h3,h4⟩:=hC
 exact h.save hc hd hdone h1 h3 h4

theorem Sv.Disk.loadF (h:Sv.Disk x base p bm cnt st o) (hc:40≤cnt) (hd:st.dead=false):Calls Tryz.prog 20 #[.pointer (some ⟨p,0,none⟩)] x fun e w'=>x.grownBy w' none∧∃F,e=.returned (.tuple #[.agg (Sv.cells F),.int .i64 (Sv.no o)])∧Sv.Tells w' o F:=by
 refine (h.load hc hd).mono ?_
 rintro e w' ⟨hg,ht⟩
 cases o with
 | none =>
  simp only at ht
  subst ht
  exact ⟨hg,Sv.Q.none,rfl,rfl⟩
 | some C =>
  obtain ⟨v,rfl,gC,gE,gI,cC,cE,cI,rfl,_,_,_,_,hL⟩:=ht
  exact ⟨hg,_,rfl,h.ok C rfl,gC,gE,gI,cC,cE,cI,rfl,hL⟩

theorem svSame_tells (h:Sv.Tells x o F) (h2:Sv.Tells x o G):Calls Tryz.prog 12 #[.agg (Sv.cells F),.agg (Sv.cells G)] x (Says x (.bool true)):=by
 cases o with
 | none =>
  have e1:F=Sv.Q.none:=h
  have e2:G=Sv.Q.none:=h2
  subst e1 e2
  exact svSame_void x
 | some C =>
  obtain ⟨h1,gC,gE,gI,cC,cE,cI,rfl,h4⟩:=h
  obtain ⟨_,jC,jE,jI,dC,dE,dI,rfl,h5⟩:=h2
  have h:=svSame_any C.s C.s C.g C.g C.c C.c C.E C.E C.I C.I C.t C.t gC gE gI cC cE cI jC jE jI dC dE dI x h4 h5 h1.byte h1.byte
  rw [Sv.sameT_self,Sn.sameW_yes,Bool.and_true] at h
  exact h

end


open Go.RowKit

structure Sv.Pg where
 s:Nat→Int
 g:Nat→Int
 gC:Nat
 gE:Nat
 gI:Nat
 cC:Nat
 cE:Nat
 cI:Nat

def Sv.Pg.q (P:Sv.Pg):Sv.Q:=Sv.Q.of P.s P.gC P.gE P.gI P.cC P.cE P.cI P.g (fun _=>false)

def Sv.Pg.box (P:Sv.Pg):Nat→Value:=P.q.box

def Sv.nestF (x:World) (T:Nat) (P:Sv.Pg):World:=(((((((((((((((x.setCell ⟨T,0,none⟩ (.int .i64 (P.s 0))).setCell ⟨T,1,none⟩ (.int .i64 (P.s 1))).setCell ⟨T,2,none⟩ (.int .i64 (P.s 2))).setCell ⟨T,3,none⟩ (.int .i64 (P.s 3))).setCell ⟨T,4,none⟩ (.slice (some ⟨P.gC,0,none⟩) 384 P.cC)).setCell ⟨T,5,none⟩ (.slice (some ⟨P.gE,0,none⟩) 32 P.cE)).setCell ⟨T,6,none⟩ (.slice (some ⟨P.gI,0,none⟩) 40 P.cI)).setCell ⟨T,7,none⟩ (.int .i64 (P.g 0))).setCell ⟨T,8,none⟩ (.int .i64 (P.g 1))).setCell ⟨T,9,none⟩ (.int .i64 (P.g 2))).setCell ⟨T,10,none⟩ (.int .i64 (P.g 3))).setCell ⟨T,11,none⟩ (.bool false)).setCell ⟨T,12,none⟩ (.bool false)).setCell ⟨T,13,none⟩ (.bool false)).setCell ⟨T,14,none⟩ (.bool false))

theorem Sv.now_nestF {x:World} {T:Nat} {K:Nat→Value} (h:Lie x T 33 15 K) (P:Sv.Pg):Lie (Sv.nestF x T P) T 33 15 P.box∧Turn (fun k=>k=T) x (Sv.nestF x T P):=by
 refine ⟨((((((((((((((((h.store 0 _).store 1 _).store 2 _).store 3 _).store 4 _).store 5 _).store 6 _).store 7 _).store 8 _).store 9 _).store 10 _).store 11 _).store 12 _).store 13 _).store 14 _)).congr fun j hj=>?_,(((((((((((((((Turn.refl (fun k=>k=T) x).store T 0 _ rfl).store T 1 _ rfl).store T 2 _ rfl).store T 3 _ rfl).store T 4 _ rfl).store T 5 _ rfl).store T 6 _ rfl).store T 7 _ rfl).store T 8 _ rfl).store T 9 _ rfl).store T 10 _ rfl).store T 11 _ rfl).store T 12 _ rfl).store T 13 _ rfl).store T 14 _ rfl⟩
 rcases (show j=0∨j=1∨j=2∨j=3∨j=4∨j=5∨j=6∨j=7∨j=8∨j=9∨j=10∨j=11∨j=12∨j=13∨j=14 by omega) with rfl | rfl | rfl | rfl | rfl | rfl | rfl | rfl | rfl | rfl | rfl | rfl | rfl | rfl | rfl <;> rfl

def Sv.Got (w0 w:World) (s:Nat) (v:Value) (F:Nat→Value):Prop :=
 s=0∨∃B,v=.pointer (some ⟨B,0,none⟩)∧w0.heap.size≤B∧∃K,Lie w B 33 15 K∧(s=2→∀j,j<15→K j=F j)

theorem Sv.Got.grown {w0 w w':World} {s:Nat} {v:Value} {F:Nat→Value} (h:Sv.Got w0 w s v F) (hg:w.grownBy w' none):Sv.Got w0 w' s v F:=by
 rcases h with h | ⟨B,h1,h2,K,h3,h4⟩
 ·exact .inl h
 ·exact .inr ⟨B,h1,h2,K,h3.on hg,h4⟩

theorem Sv.Got.turn {w0 w w':World} {s:Nat} {v:Value} {F:Nat→Value} {T:Nat} (h:Sv.Got w0 w s v F) (ht:Turn (fun k=>k=T) w w') (hv:s≠0→v≠.pointer (some ⟨T,0,none⟩)):Sv.Got w0 w' s v F:=by
 rcases h with h | ⟨B,h1,h2,K,h3,h4⟩
 ·exact .inl h
 ·by_cases hs:s=0
  ·exact .inl hs
  ·exact .inr ⟨B,h1,h2,K,Sv.lie_turn h3 ht (fun e=>hv hs (by rw [h1,e])),h4⟩

theorem Sv.Got.made {w0 w:World} (v:Value) (F:Nat→Value) (hg:w0.grownBy w none) (hv:v=.pointer (some ⟨w.heap.size,0,none⟩)):Sv.Got w0 (w.alloc (.cells Sv.void 33)) 1 v F :=
 .inr ⟨_,hv,hg.size,_,Sv.void_lie w,fun e=>by cases e⟩

theorem Sv.Got.lt {w0 w:World} {s:Nat} {v:Value} {F:Nat→Value} (h:Sv.Got w0 w s v F) (hs:s≠0):v≠.pointer (some ⟨w.heap.size,0,none⟩):=by
 rcases h with h | ⟨B,h1,h2,K,h3,h4⟩
 ·exact absurd h hs
 ·intro e
  rw [h1] at e
  simp only [Value.pointer.injEq,Option.some.injEq,Addr.mk.injEq,and_true] at e
  have:=h3.lt
  omega

structure Sv.Three (w0 w:World) (a b c:Nat) (v0 v1 v2:Value) (F0 F1 F2:Nat→Value):Prop where
 grown:w0.grownBy w none
 one:Sv.Got w0 w a v0 F0
 two:Sv.Got w0 w b v1 F1
 three:Sv.Got w0 w c v2 F2
 ab:a≠0→b≠0→v0≠v1
 ac:a≠0→c≠0→v0≠v2
 bc:b≠0→c≠0→v1≠v2

section
variable {w0 w:World} {a b c:Nat} {v0 v1 v2:Value} {F0 F1 F2:Nat→Value}

theorem Sv.Three.turn21 (h:Sv.Three w0 w a b c v0 v1 v2 F0 F1 F2):Sv.Three w0 w b a c v1 v0 v2 F1 F0 F2 :=
 ⟨h.grown,h.two,h.one,h.three,fun p q e=>h.ab q p e.symm,h.bc,h.ac⟩

theorem Sv.Three.turn31 (h:Sv.Three w0 w a b c v0 v1 v2 F0 F1 F2):Sv.Three w0 w c b a v2 v1 v0 F2 F1 F0 :=
 ⟨h.grown,h.three,h.two,h.one,fun p q e=>h.bc q p e.symm,fun p q e=>h.ac q p e.symm,fun p q e=>h.ab q p e.symm⟩

theorem Sv.Three.make (h:Sv.Three w0 w 0 b c v0 v1 v2 F0 F1 F2):Sv.Three w0 (w.alloc (.cells Sv.void 33)) 1 b c (.pointer (some ⟨w.heap.size,0,none⟩)) v1 v2 F0 F1 F2:=by
 have hg:=World.grownBy_alloc w (.cells Sv.void 33) none
 exact ⟨gtr h.grown hg,Sv.Got.made _ _ h.grown rfl,h.two.grown hg,h.three.grown hg,fun _ q e=>h.two.lt q e.symm,fun _ q e=>h.three.lt q e.symm,h.bc⟩

theorem Sv.Three.lay {B:Nat} {P:Sv.Pg} (h:Sv.Three w0 w 1 b c (.pointer (some ⟨B,0,none⟩)) v1 v2 P.box F1 F2):Sv.Three w0 (Sv.nestF w B P) 2 b c (.pointer (some ⟨B,0,none⟩)) v1 v2 P.box F1 F2:=by
 rcases h.one with h0 | ⟨B',e,hB,K,hK,_⟩
 ·cases h0
 simp only [Value.pointer.injEq,Option.some.injEq,Addr.mk.injEq,and_true] at e
 subst e
 obtain ⟨n1,n2⟩:=Sv.now_nestF hK P
 exact ⟨((Turn.new (B:=fun _=>False) h.grown).trans n2 (fun i hi e=>by omega)).grownBy,.inr ⟨B,rfl,hB,P.box,n1,fun _ _ _=>rfl⟩,h.two.turn n2 (fun q e=>h.ab (by decide) q e.symm),h.three.turn n2 (fun q e=>h.ac (by decide) q e.symm),fun _ q=>h.ab (by decide) q,fun _ q=>h.ac (by decide) q,h.bc⟩

theorem Sv.Three.cells (h:Sv.Three w0 w 1 b c v0 v1 v2 F0 F1 F2):∃B K,v0=.pointer (some ⟨B,0,none⟩)∧Lie w B 33 15 K:=by
 rcases h.one with h0 | ⟨B',e,hB,K,hK,_⟩
 ·cases h0
 ·exact ⟨B',K,e,hK⟩

end

def Sv.heads7 (n:Nat):Code→Option (Array Oper)
 | .region k o _=>if k=n then some o else none
 | .seq a b=>match Sv.heads7 n a with
  | some c=>some c
  | none=>Sv.heads7 n b
 | .cond _ a b=>match Sv.heads7 n a with
  | some c=>some c
  | none=>Sv.heads7 n b
 | _=>none

noncomputable def Sv.ops7:Array Oper:=(Tryz.f5.body.bind (Sv.heads7 7)).getD #[]

def Sv.up7 (a b c:Nat):Array Bool:=#[true,true,true,true,true,true,true,true,true,true,true,true,decide (a≠0),decide (b≠0),decide (c≠0),decide (a=2),decide (b=2),decide (c=2)]

def Sv.rd7 (a b c:Nat):List Nat:=if a=0∨b=0∨c=0 then (if a=0 then [12] else []) ++ ((if b=0 then [13] else []) ++ (if c=0 then [14] else [])) else if a=1 then [15] else if b=1 then [16] else if c=1 then [17] else []

def Sv.Seq7 (a b c:Nat):Prop:=a≤2∧b≤2∧c≤2∧(a=2→b≠0∧c≠0)∧(b=2→a=2)∧(c=2→b=2)

def Sv.eq7:List Nat→List Nat→Bool
 | [],[]=>true
 | a :: l,b :: m=>Nat.beq a b && Sv.eq7 l m
 | _,_=>false

theorem Sv.of_eq7:∀{l m:List Nat},Sv.eq7 l m=true→l=m
 | [],[],_=>rfl
 | a :: l,b :: m,h=>by
  unfold Sv.eq7 at h
  rw [Bool.and_eq_true] at h
  rw [Nat.eq_of_beq_eq_true h.1,Sv.of_eq7 h.2]
 | [],_ :: _,h=>by simp [Sv.eq7] at h
 | _ :: _,[],h=>by simp [Sv.eq7] at h

theorem Sv.ready7_all:([(0,0,0),(0,0,1),(0,1,0),(0,1,1),(1,0,0),(1,0,1),(1,1,0),(1,1,1),(2,1,1),(2,2,1),(2,2,2)]:List (Nat × Nat × Nat)).all (fun t=>Sv.eq7 (Region.ready .any Sv.ops7 (Sv.up7 t.1 t.2.1 t.2.2)) (Sv.rd7 t.1 t.2.1 t.2.2))=true:=by kernel_rfl

theorem Sv.ready7 {a b c:Nat} (h:Sv.Seq7 a b c):Region.ready .any Sv.ops7 (Sv.up7 a b c)=Sv.rd7 a b c:=by
 obtain ⟨ha,hb,hc,h1,h2,h3⟩:=h
 have hm:(a,b,c)∈([(0,0,0),(0,0,1),(0,1,0),(0,1,1),(1,0,0),(1,0,1),(1,1,0),(1,1,1),(2,1,1),(2,2,1),(2,2,2)]:List (Nat × Nat × Nat)):=by
  rcases (show a=0∨a=1∨a=2 by clear h1 h2 h3 hb hc;omega) with rfl | rfl | rfl <;> rcases (show b=0∨b=1∨b=2 by clear h1 h2 h3 hc;omega) with rfl | rfl | rfl <;> rcases (show c=0∨c=1∨c=2 by clear h1 h2 h3;omega) with rfl | rfl | rfl <;> first | decide | (exfalso;omega)
 have h:=List.all_eq_true.1 Sv.ready7_all _ hm
 dsimp only at h
 exact Sv.of_eq7 h

theorem Sv.up7_0 {b c:Nat}:(Sv.up7 0 b c).setIfInBounds 12 true=Sv.up7 1 b c:=rfl
theorem Sv.up7_1 {a c:Nat}:(Sv.up7 a 0 c).setIfInBounds 13 true=Sv.up7 a 1 c:=rfl
theorem Sv.up7_2 {a b:Nat}:(Sv.up7 a b 0).setIfInBounds 14 true=Sv.up7 a b 1:=rfl
theorem Sv.up7_3 {b c:Nat}:(Sv.up7 1 b c).setIfInBounds 15 true=Sv.up7 2 b c:=rfl
theorem Sv.up7_4 {a c:Nat}:(Sv.up7 a 1 c).setIfInBounds 16 true=Sv.up7 a 2 c:=rfl
theorem Sv.up7_5 {a b:Nat}:(Sv.up7 a b 1).setIfInBounds 17 true=Sv.up7 a b 2:=rfl

set_option maxRecDepth 100000 in
set_option maxHeartbeats 6400000 in
theorem Sv.make7_0 (K:Act→World→Prop) (Q:Exit→Act→World→Prop) (P0 P1 P2:Sv.Pg) {f0 f1 f2 f3 f4 f5 f6 f7 f8 f9 f10 f11 f12 f13 f17 f18 f19 f20 f21 f22 f23 f24 f25 f26 f27 f28 f29 f30 f31 f32 f33 f34 f35 f36 f37 f38 f39 f40 f41 f42 f43 f45 f46 f47 f49 f50 f51 f53 f54 f55 f56 f57 f58 f59 f60 f61 f62 f63 f64 f65 f66 f67 f68 f69 f70 f71 f72 f73 f74 f75 f76 f77 f78 f79 f80 f81 f82 f83 f84 f85 f86 f87 f88 f89 f90 f91 f92 f93 f94 f95 f96 f97 f98 f99 f100 f101 f102 f103 f104 f105 f106 f107 f108 f109 f110 f111 f112 f113 f114 f115 f116 f117 f118 f119 f120 f121 f122 f123 f124 f125 f126 f127 f128 f129 f130 f131 f132 f133 f134 f135 f136 f137 f138 f139 v0 v1 v2:Value} (w:World) (h:K ⟨#[f0,f1,f2,f3,f4,f5,f6,f7,f8,f9,f10,f11,f12,f13,(.pointer (some ⟨w.heap.size,0,none⟩)),v1,v2,f17,f18,f19,f20,f21,f22,f23,f24,f25,f26,f27,f28,f29,f30,f31,f32,f33,f34,f35,f36,f37,f38,f39,f40,f41,f42,f43,.agg #[.int .i64 (P0.s 0),.int .i64 (P0.s 1),.int .i64 (P0.s 2),.int .i64 (P0.s 3),.slice (some ⟨P0.gC,0,none⟩) 384 P0.cC,.slice (some ⟨P0.gE,0,none⟩) 32 P0.cE,.slice (some ⟨P0.gI,0,none⟩) 40 P0.cI,.int .i64 (P0.g 0),.int .i64 (P0.g 1),.int .i64 (P0.g 2),.int .i64 (P0.g 3),.bool false,.bool false,.bool false,.bool false],f45,f46,f47,.agg #[.int .i64 (P1.s 0),.int .i64 (P1.s 1),.int .i64 (P1.s 2),.int .i64 (P1.s 3),.slice (some ⟨P1.gC,0,none⟩) 384 P1.cC,.slice (some ⟨P1.gE,0,none⟩) 32 P1.cE,.slice (some ⟨P1.gI,0,none⟩) 40 P1.cI,.int .i64 (P1.g 0),.int .i64 (P1.g 1),.int .i64 (P1.g 2),.int .i64 (P1.g 3),.bool false,.bool false,.bool false,.bool false],f49,f50,f51,.agg #[.int .i64 (P2.s 0),.int .i64 (P2.s 1),.int .i64 (P2.s 2),.int .i64 (P2.s 3),.slice (some ⟨P2.gC,0,none⟩) 384 P2.cC,.slice (some ⟨P2.gE,0,none⟩) 32 P2.cE,.slice (some ⟨P2.gI,0,none⟩) 40 P2.cI,.int .i64 (P2.g 0),.int .i64 (P2.g 1),.int .i64 (P2.g 2),.int .i64 (P2.g 3),.bool false,.bool false,.bool false,.bool false],f53,f54,f55,f56,f57,f58,f59,f60,f61,f62,f63,f64,f65,f66,f67,f68,f69,f70,f71,f72,f73,f74,f75,f76,f77,f78,f79,f80,f81,f82,f83,f84,f85,f86,f87,f88,f89,f90,f91,f92,f93,f94,f95,f96,f97,f98,f99,f100,f101,f102,f103,f104,f105,f106,f107,f108,f109,f110,f111,f112,f113,f114,f115,f116,f117,f118,f119,f120,f121,f122,f123,f124,f125,f126,f127,f128,f129,f130,f131,f132,f133,f134,f135,f136,f137,f138,f139],[]⟩ (w.alloc (.cells Sv.void 33))):wpOp Tryz.prog Sv.ops7 Q 12 K ⟨#[f0,f1,f2,f3,f4,f5,f6,f7,f8,f9,f10,f11,f12,f13,v0,v1,v2,f17,f18,f19,f20,f21,f22,f23,f24,f25,f26,f27,f28,f29,f30,f31,f32,f33,f34,f35,f36,f37,f38,f39,f40,f41,f42,f43,.agg #[.int .i64 (P0.s 0),.int .i64 (P0.s 1),.int .i64 (P0.s 2),.int .i64 (P0.s 3),.slice (some ⟨P0.gC,0,none⟩) 384 P0.cC,.slice (some ⟨P0.gE,0,none⟩) 32 P0.cE,.slice (some ⟨P0.gI,0,none⟩) 40 P0.cI,.int .i64 (P0.g 0),.int .i64 (P0.g 1),.int .i64 (P0.g 2),.int .i64 (P0.g 3),.bool false,.bool false,.bool false,.bool false],f45,f46,f47,.agg #[.int .i64 (P1.s 0),.int .i64 (P1.s 1),.int .i64 (P1.s 2),.int .i64 (P1.s 3),.slice (some ⟨P1.gC,0,none⟩) 384 P1.cC,.slice (some ⟨P1.gE,0,none⟩) 32 P1.cE,.slice (some ⟨P1.gI,0,none⟩) 40 P1.cI,.int .i64 (P1.g 0),.int .i64 (P1.g 1),.int .i64 (P1.g 2),.int .i64 (P1.g 3),.bool false,.bool false,.bool false,.bool false],f49,f50,f51,.agg #[.int .i64 (P2.s 0),.int .i64 (P2.s 1),.int .i64 (P2.s 2),.int .i64 (P2.s 3),.slice (some ⟨P2.gC,0,none⟩) 384 P2.cC,.slice (some ⟨P2.gE,0,none⟩) 32 P2.cE,.slice (some ⟨P2.gI,0,none⟩) 40 P2.cI,.int .i64 (P2.g 0),.int .i64 (P2.g 1),.int .i64 (P2.g 2),.int .i64 (P2.g 3),.bool false,.bool false,.bool false,.bool false],f53,f54,f55,f56,f57,f58,f59,f60,f61,f62,f63,f64,f65,f66,f67,f68,f69,f70,f71,f72,f73,f74,f75,f76,f77,f78,f79,f80,f81,f82,f83,f84,f85,f86,f87,f88,f89,f90,f91,f92,f93,f94,f95,f96,f97,f98,f99,f100,f101,f102,f103,f104,f105,f106,f107,f108,f109,f110,f111,f112,f113,f114,f115,f116,f117,f118,f119,f120,f121,f122,f123,f124,f125,f126,f127,f128,f129,f130,f131,f132,f133,f134,f135,f136,f137,f138,f139],[]⟩ w:=by
 conv=>arg 2;whnf
 have H:=hide h
 clear h
 unfold Sv.void at H
 refine wpOp_step rfl (fun K' hK=>?_)
 go_simp
 exact hK _ _ (uh H)

set_option maxRecDepth 100000 in
set_option maxHeartbeats 6400000 in
theorem Sv.make7_1 (K:Act→World→Prop) (Q:Exit→Act→World→Prop) (P0 P1 P2:Sv.Pg) {f0 f1 f2 f3 f4 f5 f6 f7 f8 f9 f10 f11 f12 f13 f17 f18 f19 f20 f21 f22 f23 f24 f25 f26 f27 f28 f29 f30 f31 f32 f33 f34 f35 f36 f37 f38 f39 f40 f41 f42 f43 f45 f46 f47 f49 f50 f51 f53 f54 f55 f56 f57 f58 f59 f60 f61 f62 f63 f64 f65 f66 f67 f68 f69 f70 f71 f72 f73 f74 f75 f76 f77 f78 f79 f80 f81 f82 f83 f84 f85 f86 f87 f88 f89 f90 f91 f92 f93 f94 f95 f96 f97 f98 f99 f100 f101 f102 f103 f104 f105 f106 f107 f108 f109 f110 f111 f112 f113 f114 f115 f116 f117 f118 f119 f120 f121 f122 f123 f124 f125 f126 f127 f128 f129 f130 f131 f132 f133 f134 f135 f136 f137 f138 f139 v0 v1 v2:Value} (w:World) (h:K ⟨#[f0,f1,f2,f3,f4,f5,f6,f7,f8,f9,f10,f11,f12,f13,v0,(.pointer (some ⟨w.heap.size,0,none⟩)),v2,f17,f18,f19,f20,f21,f22,f23,f24,f25,f26,f27,f28,f29,f30,f31,f32,f33,f34,f35,f36,f37,f38,f39,f40,f41,f42,f43,.agg #[.int .i64 (P0.s 0),.int .i64 (P0.s 1),.int .i64 (P0.s 2),.int .i64 (P0.s 3),.slice (some ⟨P0.gC,0,none⟩) 384 P0.cC,.slice (some ⟨P0.gE,0,none⟩) 32 P0.cE,.slice (some ⟨P0.gI,0,none⟩) 40 P0.cI,.int .i64 (P0.g 0),.int .i64 (P0.g 1),.int .i64 (P0.g 2),.int .i64 (P0.g 3),.bool false,.bool false,.bool false,.bool false],f45,f46,f47,.agg #[.int .i64 (P1.s 0),.int .i64 (P1.s 1),.int .i64 (P1.s 2),.int .i64 (P1.s 3),.slice (some ⟨P1.gC,0,none⟩) 384 P1.cC,.slice (some ⟨P1.gE,0,none⟩) 32 P1.cE,.slice (some ⟨P1.gI,0,none⟩) 40 P1.cI,.int .i64 (P1.g 0),.int .i64 (P1.g 1),.int .i64 (P1.g 2),.int .i64 (P1.g 3),.bool false,.bool false,.bool false,.bool false],f49,f50,f51,.agg #[.int .i64 (P2.s 0),.int .i64 (P2.s 1),.int .i64 (P2.s 2),.int .i64 (P2.s 3),.slice (some ⟨P2.gC,0,none⟩) 384 P2.cC,.slice (some ⟨P2.gE,0,none⟩) 32 P2.cE,.slice (some ⟨P2.gI,0,none⟩) 40 P2.cI,.int .i64 (P2.g 0),.int .i64 (P2.g 1),.int .i64 (P2.g 2),.int .i64 (P2.g 3),.bool false,.bool false,.bool false,.bool false],f53,f54,f55,f56,f57,f58,f59,f60,f61,f62,f63,f64,f65,f66,f67,f68,f69,f70,f71,f72,f73,f74,f75,f76,f77,f78,f79,f80,f81,f82,f83,f84,f85,f86,f87,f88,f89,f90,f91,f92,f93,f94,f95,f96,f97,f98,f99,f100,f101,f102,f103,f104,f105,f106,f107,f108,f109,f110,f111,f112,f113,f114,f115,f116,f117,f118,f119,f120,f121,f122,f123,f124,f125,f126,f127,f128,f129,f130,f131,f132,f133,f134,f135,f136,f137,f138,f139],[]⟩ (w.alloc (.cells Sv.void 33))):wpOp Tryz.prog Sv.ops7 Q 13 K ⟨#[f0,f1,f2,f3,f4,f5,f6,f7,f8,f9,f10,f11,f12,f13,v0,v1,v2,f17,f18,f19,f20,f21,f22,f23,f24,f25,f26,f27,f28,f29,f30,f31,f32,f33,f34,f35,f36,f37,f38,f39,f40,f41,f42,f43,.agg #[.int .i64 (P0.s 0),.int .i64 (P0.s 1),.int .i64 (P0.s 2),.int .i64 (P0.s 3),.slice (some ⟨P0.gC,0,none⟩) 384 P0.cC,.slice (some ⟨P0.gE,0,none⟩) 32 P0.cE,.slice (some ⟨P0.gI,0,none⟩) 40 P0.cI,.int .i64 (P0.g 0),.int .i64 (P0.g 1),.int .i64 (P0.g 2),.int .i64 (P0.g 3),.bool false,.bool false,.bool false,.bool false],f45,f46,f47,.agg #[.int .i64 (P1.s 0),.int .i64 (P1.s 1),.int .i64 (P1.s 2),.int .i64 (P1.s 3),.slice (some ⟨P1.gC,0,none⟩) 384 P1.cC,.slice (some ⟨P1.gE,0,none⟩) 32 P1.cE,.slice (some ⟨P1.gI,0,none⟩) 40 P1.cI,.int .i64 (P1.g 0),.int .i64 (P1.g 1),.int .i64 (P1.g 2),.int .i64 (P1.g 3),.bool false,.bool false,.bool false,.bool false],f49,f50,f51,.agg #[.int .i64 (P2.s 0),.int .i64 (P2.s 1),.int .i64 (P2.s 2),.int .i64 (P2.s 3),.slice (some ⟨P2.gC,0,none⟩) 384 P2.cC,.slice (some ⟨P2.gE,0,none⟩) 32 P2.cE,.slice (some ⟨P2.gI,0,none⟩) 40 P2.cI,.int .i64 (P2.g 0),.int .i64 (P2.g 1),.int .i64 (P2.g 2),.int .i64 (P2.g 3),.bool false,.bool false,.bool false,.bool false],f53,f54,f55,f56,f57,f58,f59,f60,f61,f62,f63,f64,f65,f66,f67,f68,f69,f70,f71,f72,f73,f74,f75,f76,f77,f78,f79,f80,f81,f82,f83,f84,f85,f86,f87,f88,f89,f90,f91,f92,f93,f94,f95,f96,f97,f98,f99,f100,f101,f102,f103,f104,f105,f106,f107,f108,f109,f110,f111,f112,f113,f114,f115,f116,f117,f118,f119,f120,f121,f122,f123,f124,f125,f126,f127,f128,f129,f130,f131,f132,f133,f134,f135,f136,f137,f138,f139],[]⟩ w:=by
 conv=>arg 2;whnf
 have H:=hide h
 clear h
 unfold Sv.void at H
 refine wpOp_step rfl (fun K' hK=>?_)
 go_simp
 exact hK _ _ (uh H)

set_option maxRecDepth 100000 in
set_option maxHeartbeats 6400000 in
theorem Sv.make7_2 (K:Act→World→Prop) (Q:Exit→Act→World→Prop) (P0 P1 P2:Sv.Pg) {f0 f1 f2 f3 f4 f5 f6 f7 f8 f9 f10 f11 f12 f13 f17 f18 f19 f20 f21 f22 f23 f24 f25 f26 f27 f28 f29 f30 f31 f32 f33 f34 f35 f36 f37 f38 f39 f40 f41 f42 f43 f45 f46 f47 f49 f50 f51 f53 f54 f55 f56 f57 f58 f59 f60 f61 f62 f63 f64 f65 f66 f67 f68 f69 f70 f71 f72 f73 f74 f75 f76 f77 f78 f79 f80 f81 f82 f83 f84 f85 f86 f87 f88 f89 f90 f91 f92 f93 f94 f95 f96 f97 f98 f99 f100 f101 f102 f103 f104 f105 f106 f107 f108 f109 f110 f111 f112 f113 f114 f115 f116 f117 f118 f119 f120 f121 f122 f123 f124 f125 f126 f127 f128 f129 f130 f131 f132 f133 f134 f135 f136 f137 f138 f139 v0 v1 v2:Value} (w:World) (h:K ⟨#[f0,f1,f2,f3,f4,f5,f6,f7,f8,f9,f10,f11,f12,f13,v0,v1,(.pointer (some ⟨w.heap.size,0,none⟩)),f17,f18,f19,f20,f21,f22,f23,f24,f25,f26,f27,f28,f29,f30,f31,f32,f33,f34,f35,f36,f37,f38,f39,f40,f41,f42,f43,.agg #[.int .i64 (P0.s 0),.int .i64 (P0.s 1),.int .i64 (P0.s 2),.int .i64 (P0.s 3),.slice (some ⟨P0.gC,0,none⟩) 384 P0.cC,.slice (some ⟨P0.gE,0,none⟩) 32 P0.cE,.slice (some ⟨P0.gI,0,none⟩) 40 P0.cI,.int .i64 (P0.g 0),.int .i64 (P0.g 1),.int .i64 (P0.g 2),.int .i64 (P0.g 3),.bool false,.bool false,.bool false,.bool false],f45,f46,f47,.agg #[.int .i64 (P1.s 0),.int .i64 (P1.s 1),.int .i64 (P1.s 2),.int .i64 (P1.s 3),.slice (some ⟨P1.gC,0,none⟩) 384 P1.cC,.slice (some ⟨P1.gE,0,none⟩) 32 P1.cE,.slice (some ⟨P1.gI,0,none⟩) 40 P1.cI,.int .i64 (P1.g 0),.int .i64 (P1.g 1),.int .i64 (P1.g 2),.int .i64 (P1.g 3),.bool false,.bool false,.bool false,.bool false],f49,f50,f51,.agg #[.int .i64 (P2.s 0),.int .i64 (P2.s 1),.int .i64 (P2.s 2),.int .i64 (P2.s 3),.slice (some ⟨P2.gC,0,none⟩) 384 P2.cC,.slice (some ⟨P2.gE,0,none⟩) 32 P2.cE,.slice (some ⟨P2.gI,0,none⟩) 40 P2.cI,.int .i64 (P2.g 0),.int .i64 (P2.g 1),.int .i64 (P2.g 2),.int .i64 (P2.g 3),.bool false,.bool false,.bool false,.bool false],f53,f54,f55,f56,f57,f58,f59,f60,f61,f62,f63,f64,f65,f66,f67,f68,f69,f70,f71,f72,f73,f74,f75,f76,f77,f78,f79,f80,f81,f82,f83,f84,f85,f86,f87,f88,f89,f90,f91,f92,f93,f94,f95,f96,f97,f98,f99,f100,f101,f102,f103,f104,f105,f106,f107,f108,f109,f110,f111,f112,f113,f114,f115,f116,f117,f118,f119,f120,f121,f122,f123,f124,f125,f126,f127,f128,f129,f130,f131,f132,f133,f134,f135,f136,f137,f138,f139],[]⟩ (w.alloc (.cells Sv.void 33))):wpOp Tryz.prog Sv.ops7 Q 14 K ⟨#[f0,f1,f2,f3,f4,f5,f6,f7,f8,f9,f10,f11,f12,f13,v0,v1,v2,f17,f18,f19,f20,f21,f22,f23,f24,f25,f26,f27,f28,f29,f30,f31,f32,f33,f34,f35,f36,f37,f38,f39,f40,f41,f42,f43,.agg #[.int .i64 (P0.s 0),.int .i64 (P0.s 1),.int .i64 (P0.s 2),.int .i64 (P0.s 3),.slice (some ⟨P0.gC,0,none⟩) 384 P0.cC,.slice (some ⟨P0.gE,0,none⟩) 32 P0.cE,.slice (some ⟨P0.gI,0,none⟩) 40 P0.cI,.int .i64 (P0.g 0),.int .i64 (P0.g 1),.int .i64 (P0.g 2),.int .i64 (P0.g 3),.bool false,.bool false,.bool false,.bool false],f45,f46,f47,.agg #[.int .i64 (P1.s 0),.int .i64 (P1.s 1),.int .i64 (P1.s 2),.int .i64 (P1.s 3),.slice (some ⟨P1.gC,0,none⟩) 384 P1.cC,.slice (some ⟨P1.gE,0,none⟩) 32 P1.cE,.slice (some ⟨P1.gI,0,none⟩) 40 P1.cI,.int .i64 (P1.g 0),.int .i64 (P1.g 1),.int .i64 (P1.g 2),.int .i64 (P1.g 3),.bool false,.bool false,.bool false,.bool false],f49,f50,f51,.agg #[.int .i64 (P2.s 0),.int .i64 (P2.s 1),.int .i64 (P2.s 2),.int .i64 (P2.s 3),.slice (some ⟨P2.gC,0,none⟩) 384 P2.cC,.slice (some ⟨P2.gE,0,none⟩) 32 P2.cE,.slice (some ⟨P2.gI,0,none⟩) 40 P2.cI,.int .i64 (P2.g 0),.int .i64 (P2.g 1),.int .i64 (P2.g 2),.int .i64 (P2.g 3),.bool false,.bool false,.bool false,.bool false],f53,f54,f55,f56,f57,f58,f59,f60,f61,f62,f63,f64,f65,f66,f67,f68,f69,f70,f71,f72,f73,f74,f75,f76,f77,f78,f79,f80,f81,f82,f83,f84,f85,f86,f87,f88,f89,f90,f91,f92,f93,f94,f95,f96,f97,f98,f99,f100,f101,f102,f103,f104,f105,f106,f107,f108,f109,f110,f111,f112,f113,f114,f115,f116,f117,f118,f119,f120,f121,f122,f123,f124,f125,f126,f127,f128,f129,f130,f131,f132,f133,f134,f135,f136,f137,f138,f139],[]⟩ w:=by
 conv=>arg 2;whnf
 have H:=hide h
 clear h
 unfold Sv.void at H
 refine wpOp_step rfl (fun K' hK=>?_)
 go_simp
 exact hK _ _ (uh H)

set_option maxRecDepth 100000 in
set_option maxHeartbeats 6400000 in
theorem Sv.lay7_0 (K:Act→World→Prop) (Q:Exit→Act→World→Prop) (P0 P1 P2:Sv.Pg) (G:Nat→Value) {f0 f1 f2 f3 f4 f5 f6 f7 f8 f9 f10 f11 f12 f13 f17 f18 f19 f20 f21 f22 f23 f24 f25 f26 f27 f28 f29 f30 f31 f32 f33 f34 f35 f36 f37 f38 f39 f40 f41 f42 f43 f45 f46 f47 f49 f50 f51 f53 f54 f55 f56 f57 f58 f59 f60 f61 f62 f63 f64 f65 f66 f67 f68 f69 f70 f71 f72 f73 f74 f75 f76 f77 f78 f79 f80 f81 f82 f83 f84 f85 f86 f87 f88 f89 f90 f91 f92 f93 f94 f95 f96 f97 f98 f99 f100 f101 f102 f103 f104 f105 f106 f107 f108 f109 f110 f111 f112 f113 f114 f115 f116 f117 f118 f119 f120 f121 f122 f123 f124 f125 f126 f127 f128 f129 f130 f131 f132 f133 f134 f135 f136 f137 f138 f139 v1 v2:Value} (B:Nat) (w:World) (hG:Lie w B 33 15 G) (h:K ⟨#[f0,f1,f2,f3,f4,f5,f6,f7,f8,f9,f10,f11,f12,f13,(.pointer (some ⟨B,0,none⟩)),v1,v2,f17,f18,f19,f20,f21,f22,f23,f24,f25,f26,f27,f28,f29,f30,f31,f32,f33,f34,f35,f36,f37,f38,f39,f40,f41,f42,f43,.agg #[.int .i64 (P0.s 0),.int .i64 (P0.s 1),.int .i64 (P0.s 2),.int .i64 (P0.s 3),.slice (some ⟨P0.gC,0,none⟩) 384 P0.cC,.slice (some ⟨P0.gE,0,none⟩) 32 P0.cE,.slice (some ⟨P0.gI,0,none⟩) 40 P0.cI,.int .i64 (P0.g 0),.int .i64 (P0.g 1),.int .i64 (P0.g 2),.int .i64 (P0.g 3),.bool false,.bool false,.bool false,.bool false],f45,f46,f47,.agg #[.int .i64 (P1.s 0),.int .i64 (P1.s 1),.int .i64 (P1.s 2),.int .i64 (P1.s 3),.slice (some ⟨P1.gC,0,none⟩) 384 P1.cC,.slice (some ⟨P1.gE,0,none⟩) 32 P1.cE,.slice (some ⟨P1.gI,0,none⟩) 40 P1.cI,.int .i64 (P1.g 0),.int .i64 (P1.g 1),.int .i64 (P1.g 2),.int .i64 (P1.g 3),.bool false,.bool false,.bool false,.bool false],f49,f50,f51,.agg #[.int .i64 (P2.s 0),.int .i64 (P2.s 1),.int .i64 (P2.s 2),.int .i64 (P2.s 3),.slice (some ⟨P2.gC,0,none⟩) 384 P2.cC,.slice (some ⟨P2.gE,0,none⟩) 32 P2.cE,.slice (some ⟨P2.gI,0,none⟩) 40 P2.cI,.int .i64 (P2.g 0),.int .i64 (P2.g 1),.int .i64 (P2.g 2),.int .i64 (P2.g 3),.bool false,.bool false,.bool false,.bool false],f53,f54,f55,f56,f57,f58,f59,f60,f61,f62,f63,f64,f65,f66,f67,f68,f69,f70,f71,f72,f73,f74,f75,f76,f77,f78,f79,f80,f81,f82,f83,f84,f85,f86,f87,f88,f89,f90,f91,f92,f93,f94,f95,f96,f97,f98,f99,f100,f101,f102,f103,f104,f105,f106,f107,f108,f109,f110,f111,f112,f113,f114,f115,f116,f117,f118,f119,f120,f121,f122,f123,f124,f125,f126,f127,f128,f129,f130,f131,f132,f133,f134,f135,f136,f137,f138,f139],[]⟩ (Sv.nestF w B P0)):wpOp Tryz.prog Sv.ops7 Q 15 K ⟨#[f0,f1,f2,f3,f4,f5,f6,f7,f8,f9,f10,f11,f12,f13,(.pointer (some ⟨B,0,none⟩)),v1,v2,f17,f18,f19,f20,f21,f22,f23,f24,f25,f26,f27,f28,f29,f30,f31,f32,f33,f34,f35,f36,f37,f38,f39,f40,f41,f42,f43,.agg #[.int .i64 (P0.s 0),.int .i64 (P0.s 1),.int .i64 (P0.s 2),.int .i64 (P0.s 3),.slice (some ⟨P0.gC,0,none⟩) 384 P0.cC,.slice (some ⟨P0.gE,0,none⟩) 32 P0.cE,.slice (some ⟨P0.gI,0,none⟩) 40 P0.cI,.int .i64 (P0.g 0),.int .i64 (P0.g 1),.int .i64 (P0.g 2),.int .i64 (P0.g 3),.bool false,.bool false,.bool false,.bool false],f45,f46,f47,.agg #[.int .i64 (P1.s 0),.int .i64 (P1.s 1),.int .i64 (P1.s 2),.int .i64 (P1.s 3),.slice (some ⟨P1.gC,0,none⟩) 384 P1.cC,.slice (some ⟨P1.gE,0,none⟩) 32 P1.cE,.slice (some ⟨P1.gI,0,none⟩) 40 P1.cI,.int .i64 (P1.g 0),.int .i64 (P1.g 1),.int .i64 (P1.g 2),.int .i64 (P1.g 3),.bool false,.bool false,.bool false,.bool false],f49,f50,f51,.agg #[.int .i64 (P2.s 0),.int .i64 (P2.s 1),.int .i64 (P2.s 2),.int .i64 (P2.s 3),.slice (some ⟨P2.gC,0,none⟩) 384 P2.cC,.slice (some ⟨P2.gE,0,none⟩) 32 P2.cE,.slice (some ⟨P2.gI,0,none⟩) 40 P2.cI,.int .i64 (P2.g 0),.int .i64 (P2.g 1),.int .i64 (P2.g 2),.int .i64 (P2.g 3),.bool false,.bool false,.bool false,.bool false],f53,f54,f55,f56,f57,f58,f59,f60,f61,f62,f63,f64,f65,f66,f67,f68,f69,f70,f71,f72,f73,f74,f75,f76,f77,f78,f79,f80,f81,f82,f83,f84,f85,f86,f87,f88,f89,f90,f91,f92,f93,f94,f95,f96,f97,f98,f99,f100,f101,f102,f103,f104,f105,f106,f107,f108,f109,f110,f111,f112,f113,f114,f115,f116,f117,f118,f119,f120,f121,f122,f123,f124,f125,f126,f127,f128,f129,f130,f131,f132,f133,f134,f135,f136,f137,f138,f139],[]⟩ w:=by
 conv=>arg 2;whnf
 have H:=hide h
 have fT:=hG.free
 have t0:w.cell? ⟨B,0,none⟩=some (G 0):=hG.cell (c:=0) (by omega)
 have t1:w.cell? ⟨B,1,none⟩=some (G 1):=hG.cell (c:=1) (by omega)
 have t2:w.cell? ⟨B,2,none⟩=some (G 2):=hG.cell (c:=2) (by omega)
 have t3:w.cell? ⟨B,3,none⟩=some (G 3):=hG.cell (c:=3) (by omega)
 have t4:w.cell? ⟨B,4,none⟩=some (G 4):=hG.cell (c:=4) (by omega)
 have t5:w.cell? ⟨B,5,none⟩=some (G 5):=hG.cell (c:=5) (by omega)
 have t6:w.cell? ⟨B,6,none⟩=some (G 6):=hG.cell (c:=6) (by omega)
 have t7:w.cell? ⟨B,7,none⟩=some (G 7):=hG.cell (c:=7) (by omega)
 have t8:w.cell? ⟨B,8,none⟩=some (G 8):=hG.cell (c:=8) (by omega)
 have t9:w.cell? ⟨B,9,none⟩=some (G 9):=hG.cell (c:=9) (by omega)
 have t10:w.cell? ⟨B,10,none⟩=some (G 10):=hG.cell (c:=10) (by omega)
 have t11:w.cell? ⟨B,11,none⟩=some (G 11):=hG.cell (c:=11) (by omega)
 have t12:w.cell? ⟨B,12,none⟩=some (G 12):=hG.cell (c:=12) (by omega)
 have t13:w.cell? ⟨B,13,none⟩=some (G 13):=hG.cell (c:=13) (by omega)
 have t14:w.cell? ⟨B,14,none⟩=some (G 14):=hG.cell (c:=14) (by omega)
 clear h hG
 unfold Sv.nestF at H
 refine wpOp_step rfl (fun K' hK=>?_)
 go_simp
 exact hK _ _ (uh H)

set_option maxRecDepth 100000 in
set_option maxHeartbeats 6400000 in
theorem Sv.lay7_1 (K:Act→World→Prop) (Q:Exit→Act→World→Prop) (P0 P1 P2:Sv.Pg) (G:Nat→Value) {f0 f1 f2 f3 f4 f5 f6 f7 f8 f9 f10 f11 f12 f13 f17 f18 f19 f20 f21 f22 f23 f24 f25 f26 f27 f28 f29 f30 f31 f32 f33 f34 f35 f36 f37 f38 f39 f40 f41 f42 f43 f45 f46 f47 f49 f50 f51 f53 f54 f55 f56 f57 f58 f59 f60 f61 f62 f63 f64 f65 f66 f67 f68 f69 f70 f71 f72 f73 f74 f75 f76 f77 f78 f79 f80 f81 f82 f83 f84 f85 f86 f87 f88 f89 f90 f91 f92 f93 f94 f95 f96 f97 f98 f99 f100 f101 f102 f103 f104 f105 f106 f107 f108 f109 f110 f111 f112 f113 f114 f115 f116 f117 f118 f119 f120 f121 f122 f123 f124 f125 f126 f127 f128 f129 f130 f131 f132 f133 f134 f135 f136 f137 f138 f139 v0 v2:Value} (B:Nat) (w:World) (hG:Lie w B 33 15 G) (h:K ⟨#[f0,f1,f2,f3,f4,f5,f6,f7,f8,f9,f10,f11,f12,f13,v0,(.pointer (some ⟨B,0,none⟩)),v2,f17,f18,f19,f20,f21,f22,f23,f24,f25,f26,f27,f28,f29,f30,f31,f32,f33,f34,f35,f36,f37,f38,f39,f40,f41,f42,f43,.agg #[.int .i64 (P0.s 0),.int .i64 (P0.s 1),.int .i64 (P0.s 2),.int .i64 (P0.s 3),.slice (some ⟨P0.gC,0,none⟩) 384 P0.cC,.slice (some ⟨P0.gE,0,none⟩) 32 P0.cE,.slice (some ⟨P0.gI,0,none⟩) 40 P0.cI,.int .i64 (P0.g 0),.int .i64 (P0.g 1),.int .i64 (P0.g 2),.int .i64 (P0.g 3),.bool false,.bool false,.bool false,.bool false],f45,f46,f47,.agg #[.int .i64 (P1.s 0),.int .i64 (P1.s 1),.int .i64 (P1.s 2),.int .i64 (P1.s 3),.slice (some ⟨P1.gC,0,none⟩) 384 P1.cC,.slice (some ⟨P1.gE,0,none⟩) 32 P1.cE,.slice (some ⟨P1.gI,0,none⟩) 40 P1.cI,.int .i64 (P1.g 0),.int .i64 (P1.g 1),.int .i64 (P1.g 2),.int .i64 (P1.g 3),.bool false,.bool false,.bool false,.bool false],f49,f50,f51,.agg #[.int .i64 (P2.s 0),.int .i64 (P2.s 1),.int .i64 (P2.s 2),.int .i64 (P2.s 3),.slice (some ⟨P2.gC,0,none⟩) 384 P2.cC,.slice (some ⟨P2.gE,0,none⟩) 32 P2.cE,.slice (some ⟨P2.gI,0,none⟩) 40 P2.cI,.int .i64 (P2.g 0),.int .i64 (P2.g 1),.int .i64 (P2.g 2),.int .i64 (P2.g 3),.bool false,.bool false,.bool false,.bool false],f53,f54,f55,f56,f57,f58,f59,f60,f61,f62,f63,f64,f65,f66,f67,f68,f69,f70,f71,f72,f73,f74,f75,f76,f77,f78,f79,f80,f81,f82,f83,f84,f85,f86,f87,f88,f89,f90,f91,f92,f93,f94,f95,f96,f97,f98,f99,f100,f101,f102,f103,f104,f105,f106,f107,f108,f109,f110,f111,f112,f113,f114,f115,f116,f117,f118,f119,f120,f121,f122,f123,f124,f125,f126,f127,f128,f129,f130,f131,f132,f133,f134,f135,f136,f137,f138,f139],[]⟩ (Sv.nestF w B P1)):wpOp Tryz.prog Sv.ops7 Q 16 K ⟨#[f0,f1,f2,f3,f4,f5,f6,f7,f8,f9,f10,f11,f12,f13,v0,(.pointer (some ⟨B,0,none⟩)),v2,f17,f18,f19,f20,f21,f22,f23,f24,f25,f26,f27,f28,f29,f30,f31,f32,f33,f34,f35,f36,f37,f38,f39,f40,f41,f42,f43,.agg #[.int .i64 (P0.s 0),.int .i64 (P0.s 1),.int .i64 (P0.s 2),.int .i64 (P0.s 3),.slice (some ⟨P0.gC,0,none⟩) 384 P0.cC,.slice (some ⟨P0.gE,0,none⟩) 32 P0.cE,.slice (some ⟨P0.gI,0,none⟩) 40 P0.cI,.int .i64 (P0.g 0),.int .i64 (P0.g 1),.int .i64 (P0.g 2),.int .i64 (P0.g 3),.bool false,.bool false,.bool false,.bool false],f45,f46,f47,.agg #[.int .i64 (P1.s 0),.int .i64 (P1.s 1),.int .i64 (P1.s 2),.int .i64 (P1.s 3),.slice (some ⟨P1.gC,0,none⟩) 384 P1.cC,.slice (some ⟨P1.gE,0,none⟩) 32 P1.cE,.slice (some ⟨P1.gI,0,none⟩) 40 P1.cI,.int .i64 (P1.g 0),.int .i64 (P1.g 1),.int .i64 (P1.g 2),.int .i64 (P1.g 3),.bool false,.bool false,.bool false,.bool false],f49,f50,f51,.agg #[.int .i64 (P2.s 0),.int .i64 (P2.s 1),.int .i64 (P2.s 2),.int .i64 (P2.s 3),.slice (some ⟨P2.gC,0,none⟩) 384 P2.cC,.slice (some ⟨P2.gE,0,none⟩) 32 P2.cE,.slice (some ⟨P2.gI,0,none⟩) 40 P2.cI,.int .i64 (P2.g 0),.int .i64 (P2.g 1),.int .i64 (P2.g 2),.int .i64 (P2.g 3),.bool false,.bool false,.bool false,.bool false],f53,f54,f55,f56,f57,f58,f59,f60,f61,f62,f63,f64,f65,f66,f67,f68,f69,f70,f71,f72,f73,f74,f75,f76,f77,f78,f79,f80,f81,f82,f83,f84,f85,f86,f87,f88,f89,f90,f91,f92,f93,f94,f95,f96,f97,f98,f99,f100,f101,f102,f103,f104,f105,f106,f107,f108,f109,f110,f111,f112,f113,f114,f115,f116,f117,f118,f119,f120,f121,f122,f123,f124,f125,f126,f127,f128,f129,f130,f131,f132,f133,f134,f135,f136,f137,f138,f139],[]⟩ w:=by
 conv=>arg 2;whnf
 have H:=hide h
 have fT:=hG.free
 have t0:w.cell? ⟨B,0,none⟩=some (G 0):=hG.cell (c:=0) (by omega)
 have t1:w.cell? ⟨B,1,none⟩=some (G 1):=hG.cell (c:=1) (by omega)
 have t2:w.cell? ⟨B,2,none⟩=some (G 2):=hG.cell (c:=2) (by omega)
 have t3:w.cell? ⟨B,3,none⟩=some (G 3):=hG.cell (c:=3) (by omega)
 have t4:w.cell? ⟨B,4,none⟩=some (G 4):=hG.cell (c:=4) (by omega)
 have t5:w.cell? ⟨B,5,none⟩=some (G 5):=hG.cell (c:=5) (by omega)
 have t6:w.cell? ⟨B,6,none⟩=some (G 6):=hG.cell (c:=6) (by omega)
 have t7:w.cell? ⟨B,7,none⟩=some (G 7):=hG.cell (c:=7) (by omega)
 have t8:w.cell? ⟨B,8,none⟩=some (G 8):=hG.cell (c:=8) (by omega)
 have t9:w.cell? ⟨B,9,none⟩=some (G 9):=hG.cell (c:=9) (by omega)
 have t10:w.cell? ⟨B,10,none⟩=some (G 10):=hG.cell (c:=10) (by omega)
 have t11:w.cell? ⟨B,11,none⟩=some (G 11):=hG.cell (c:=11) (by omega)
 have t12:w.cell? ⟨B,12,none⟩=some (G 12):=hG.cell (c:=12) (by omega)
 have t13:w.cell? ⟨B,13,none⟩=some (G 13):=hG.cell (c:=13) (by omega)
 have t14:w.cell? ⟨B,14,none⟩=some (G 14):=hG.cell (c:=14) (by omega)
 clear h hG
 unfold Sv.nestF at H
 refine wpOp_step rfl (fun K' hK=>?_)
 go_simp
 exact hK _ _ (uh H)

set_option maxRecDepth 100000 in
set_option maxHeartbeats 6400000 in
theorem Sv.lay7_2 (K:Act→World→Prop) (Q:Exit→Act→World→Prop) (P0 P1 P2:Sv.Pg) (G:Nat→Value) {f0 f1 f2 f3 f4 f5 f6 f7 f8 f9 f10 f11 f12 f13 f17 f18 f19 f20 f21 f22 f23 f24 f25 f26 f27 f28 f29 f30 f31 f32 f33 f34 f35 f36 f37 f38 f39 f40 f41 f42 f43 f45 f46 f47 f49 f50 f51 f53 f54 f55 f56 f57 f58 f59 f60 f61 f62 f63 f64 f65 f66 f67 f68 f69 f70 f71 f72 f73 f74 f75 f76 f77 f78 f79 f80 f81 f82 f83 f84 f85 f86 f87 f88 f89 f90 f91 f92 f93 f94 f95 f96 f97 f98 f99 f100 f101 f102 f103 f104 f105 f106 f107 f108 f109 f110 f111 f112 f113 f114 f115 f116 f117 f118 f119 f120 f121 f122 f123 f124 f125 f126 f127 f128 f129 f130 f131 f132 f133 f134 f135 f136 f137 f138 f139 v0 v1:Value} (B:Nat) (w:World) (hG:Lie w B 33 15 G) (h:K ⟨#[f0,f1,f2,f3,f4,f5,f6,f7,f8,f9,f10,f11,f12,f13,v0,v1,(.pointer (some ⟨B,0,none⟩)),f17,f18,f19,f20,f21,f22,f23,f24,f25,f26,f27,f28,f29,f30,f31,f32,f33,f34,f35,f36,f37,f38,f39,f40,f41,f42,f43,.agg #[.int .i64 (P0.s 0),.int .i64 (P0.s 1),.int .i64 (P0.s 2),.int .i64 (P0.s 3),.slice (some ⟨P0.gC,0,none⟩) 384 P0.cC,.slice (some ⟨P0.gE,0,none⟩) 32 P0.cE,.slice (some ⟨P0.gI,0,none⟩) 40 P0.cI,.int .i64 (P0.g 0),.int .i64 (P0.g 1),.int .i64 (P0.g 2),.int .i64 (P0.g 3),.bool false,.bool false,.bool false,.bool false],f45,f46,f47,.agg #[.int .i64 (P1.s 0),.int .i64 (P1.s 1),.int .i64 (P1.s 2),.int .i64 (P1.s 3),.slice (some ⟨P1.gC,0,none⟩) 384 P1.cC,.slice (some ⟨P1.gE,0,none⟩) 32 P1.cE,.slice (some ⟨P1.gI,0,none⟩) 40 P1.cI,.int .i64 (P1.g 0),.int .i64 (P1.g 1),.int .i64 (P1.g 2),.int .i64 (P1.g 3),.bool false,.bool false,.bool false,.bool false],f49,f50,f51,.agg #[.int .i64 (P2.s 0),.int .i64 (P2.s 1),.int .i64 (P2.s 2),.int .i64 (P2.s 3),.slice (some ⟨P2.gC,0,none⟩) 384 P2.cC,.slice (some ⟨P2.gE,0,none⟩) 32 P2.cE,.slice (some ⟨P2.gI,0,none⟩) 40 P2.cI,.int .i64 (P2.g 0),.int .i64 (P2.g 1),.int .i64 (P2.g 2),.int .i64 (P2.g 3),.bool false,.bool false,.bool false,.bool false],f53,f54,f55,f56,f57,f58,f59,f60,f61,f62,f63,f64,f65,f66,f67,f68,f69,f70,f71,f72,f73,f74,f75,f76,f77,f78,f79,f80,f81,f82,f83,f84,f85,f86,f87,f88,f89,f90,f91,f92,f93,f94,f95,f96,f97,f98,f99,f100,f101,f102,f103,f104,f105,f106,f107,f108,f109,f110,f111,f112,f113,f114,f115,f116,f117,f118,f119,f120,f121,f122,f123,f124,f125,f126,f127,f128,f129,f130,f131,f132,f133,f134,f135,f136,f137,f138,f139],[]⟩ (Sv.nestF w B P2)):wpOp Tryz.prog Sv.ops7 Q 17 K ⟨#[f0,f1,f2,f3,f4,f5,f6,f7,f8,f9,f10,f11,f12,f13,v0,v1,(.pointer (some ⟨B,0,none⟩)),f17,f18,f19,f20,f21,f22,f23,f24,f25,f26,f27,f28,f29,f30,f31,f32,f33,f34,f35,f36,f37,f38,f39,f40,f41,f42,f43,.agg #[.int .i64 (P0.s 0),.int .i64 (P0.s 1),.int .i64 (P0.s 2),.int .i64 (P0.s 3),.slice (some ⟨P0.gC,0,none⟩) 384 P0.cC,.slice (some ⟨P0.gE,0,none⟩) 32 P0.cE,.slice (some ⟨P0.gI,0,none⟩) 40 P0.cI,.int .i64 (P0.g 0),.int .i64 (P0.g 1),.int .i64 (P0.g 2),.int .i64 (P0.g 3),.bool false,.bool false,.bool false,.bool false],f45,f46,f47,.agg #[.int .i64 (P1.s 0),.int .i64 (P1.s 1),.int .i64 (P1.s 2),.int .i64 (P1.s 3),.slice (some ⟨P1.gC,0,none⟩) 384 P1.cC,.slice (some ⟨P1.gE,0,none⟩) 32 P1.cE,.slice (some ⟨P1.gI,0,none⟩) 40 P1.cI,.int .i64 (P1.g 0),.int .i64 (P1.g 1),.int .i64 (P1.g 2),.int .i64 (P1.g 3),.bool false,.bool false,.bool false,.bool false],f49,f50,f51,.agg #[.int .i64 (P2.s 0),.int .i64 (P2.s 1),.int .i64 (P2.s 2),.int .i64 (P2.s 3),.slice (some ⟨P2.gC,0,none⟩) 384 P2.cC,.slice (some ⟨P2.gE,0,none⟩) 32 P2.cE,.slice (some ⟨P2.gI,0,none⟩) 40 P2.cI,.int .i64 (P2.g 0),.int .i64 (P2.g 1),.int .i64 (P2.g 2),.int .i64 (P2.g 3),.bool false,.bool false,.bool false,.bool false],f53,f54,f55,f56,f57,f58,f59,f60,f61,f62,f63,f64,f65,f66,f67,f68,f69,f70,f71,f72,f73,f74,f75,f76,f77,f78,f79,f80,f81,f82,f83,f84,f85,f86,f87,f88,f89,f90,f91,f92,f93,f94,f95,f96,f97,f98,f99,f100,f101,f102,f103,f104,f105,f106,f107,f108,f109,f110,f111,f112,f113,f114,f115,f116,f117,f118,f119,f120,f121,f122,f123,f124,f125,f126,f127,f128,f129,f130,f131,f132,f133,f134,f135,f136,f137,f138,f139],[]⟩ w:=by
 conv=>arg 2;whnf
 have H:=hide h
 have fT:=hG.free
 have t0:w.cell? ⟨B,0,none⟩=some (G 0):=hG.cell (c:=0) (by omega)
 have t1:w.cell? ⟨B,1,none⟩=some (G 1):=hG.cell (c:=1) (by omega)
 have t2:w.cell? ⟨B,2,none⟩=some (G 2):=hG.cell (c:=2) (by omega)
 have t3:w.cell? ⟨B,3,none⟩=some (G 3):=hG.cell (c:=3) (by omega)
 have t4:w.cell? ⟨B,4,none⟩=some (G 4):=hG.cell (c:=4) (by omega)
 have t5:w.cell? ⟨B,5,none⟩=some (G 5):=hG.cell (c:=5) (by omega)
 have t6:w.cell? ⟨B,6,none⟩=some (G 6):=hG.cell (c:=6) (by omega)
 have t7:w.cell? ⟨B,7,none⟩=some (G 7):=hG.cell (c:=7) (by omega)
 have t8:w.cell? ⟨B,8,none⟩=some (G 8):=hG.cell (c:=8) (by omega)
 have t9:w.cell? ⟨B,9,none⟩=some (G 9):=hG.cell (c:=9) (by omega)
 have t10:w.cell? ⟨B,10,none⟩=some (G 10):=hG.cell (c:=10) (by omega)
 have t11:w.cell? ⟨B,11,none⟩=some (G 11):=hG.cell (c:=11) (by omega)
 have t12:w.cell? ⟨B,12,none⟩=some (G 12):=hG.cell (c:=12) (by omega)
 have t13:w.cell? ⟨B,13,none⟩=some (G 13):=hG.cell (c:=13) (by omega)
 have t14:w.cell? ⟨B,14,none⟩=some (G 14):=hG.cell (c:=14) (by omega)
 clear h hG
 unfold Sv.nestF at H
 refine wpOp_step rfl (fun K' hK=>?_)
 go_simp
 exact hK _ _ (uh H)

theorem Sv.three7 (Q:Exit→Act→World→Prop) (P0 P1 P2:Sv.Pg) {f0 f1 f2 f3 f4 f5 f6 f7 f8 f9 f10 f11 f12 f13 f17 f18 f19 f20 f21 f22 f23 f24 f25 f26 f27 f28 f29 f30 f31 f32 f33 f34 f35 f36 f37 f38 f39 f40 f41 f42 f43 f45 f46 f47 f49 f50 f51 f53 f54 f55 f56 f57 f58 f59 f60 f61 f62 f63 f64 f65 f66 f67 f68 f69 f70 f71 f72 f73 f74 f75 f76 f77 f78 f79 f80 f81 f82 f83 f84 f85 f86 f87 f88 f89 f90 f91 f92 f93 f94 f95 f96 f97 f98 f99 f100 f101 f102 f103 f104 f105 f106 f107 f108 f109 f110 f111 f112 f113 f114 f115 f116 f117 f118 f119 f120 f121 f122 f123 f124 f125 f126 f127 f128 f129 f130 f131 f132 f133 f134 f135 f136 f137 f138 f139:Value} (w0:World) (S:World→Prop) (hS:∀x,w0.grownBy x none→S x)
  (hQ:∀v0 v1 v2 w,Sv.Three w0 w 2 2 2 v0 v1 v2 P0.box P1.box P2.box→Q .normal ⟨#[f0,f1,f2,f3,f4,f5,f6,f7,f8,f9,f10,f11,f12,f13,v0,v1,v2,f17,f18,f19,f20,f21,f22,f23,f24,f25,f26,f27,f28,f29,f30,f31,f32,f33,f34,f35,f36,f37,f38,f39,f40,f41,f42,f43,.agg #[.int .i64 (P0.s 0),.int .i64 (P0.s 1),.int .i64 (P0.s 2),.int .i64 (P0.s 3),.slice (some ⟨P0.gC,0,none⟩) 384 P0.cC,.slice (some ⟨P0.gE,0,none⟩) 32 P0.cE,.slice (some ⟨P0.gI,0,none⟩) 40 P0.cI,.int .i64 (P0.g 0),.int .i64 (P0.g 1),.int .i64 (P0.g 2),.int .i64 (P0.g 3),.bool false,.bool false,.bool false,.bool false],f45,f46,f47,.agg #[.int .i64 (P1.s 0),.int .i64 (P1.s 1),.int .i64 (P1.s 2),.int .i64 (P1.s 3),.slice (some ⟨P1.gC,0,none⟩) 384 P1.cC,.slice (some ⟨P1.gE,0,none⟩) 32 P1.cE,.slice (some ⟨P1.gI,0,none⟩) 40 P1.cI,.int .i64 (P1.g 0),.int .i64 (P1.g 1),.int .i64 (P1.g 2),.int .i64 (P1.g 3),.bool false,.bool false,.bool false,.bool false],f49,f50,f51,.agg #[.int .i64 (P2.s 0),.int .i64 (P2.s 1),.int .i64 (P2.s 2),.int .i64 (P2.s 3),.slice (some ⟨P2.gC,0,none⟩) 384 P2.cC,.slice (some ⟨P2.gE,0,none⟩) 32 P2.cE,.slice (some ⟨P2.gI,0,none⟩) 40 P2.cI,.int .i64 (P2.g 0),.int .i64 (P2.g 1),.int .i64 (P2.g 2),.int .i64 (P2.g 3),.bool false,.bool false,.bool false,.bool false],f53,f54,f55,f56,f57,f58,f59,f60,f61,f62,f63,f64,f65,f66,f67,f68,f69,f70,f71,f72,f73,f74,f75,f76,f77,f78,f79,f80,f81,f82,f83,f84,f85,f86,f87,f88,f89,f90,f91,f92,f93,f94,f95,f96,f97,f98,f99,f100,f101,f102,f103,f104,f105,f106,f107,f108,f109,f110,f111,f112,f113,f114,f115,f116,f117,f118,f119,f120,f121,f122,f123,f124,f125,f126,f127,f128,f129,f130,f131,f132,f133,f134,f135,f136,f137,f138,f139],[]⟩ w) :
  ∀n a b c v0 v1 v2 w,Sv.Seq7 a b c→6≤n+(a+b+c)→Sv.Three w0 w a b c v0 v1 v2 P0.box P1.box P2.box→wpAnyH Tryz.prog .any Sv.ops7 Q S n (Sv.up7 a b c) ⟨#[f0,f1,f2,f3,f4,f5,f6,f7,f8,f9,f10,f11,f12,f13,v0,v1,v2,f17,f18,f19,f20,f21,f22,f23,f24,f25,f26,f27,f28,f29,f30,f31,f32,f33,f34,f35,f36,f37,f38,f39,f40,f41,f42,f43,.agg #[.int .i64 (P0.s 0),.int .i64 (P0.s 1),.int .i64 (P0.s 2),.int .i64 (P0.s 3),.slice (some ⟨P0.gC,0,none⟩) 384 P0.cC,.slice (some ⟨P0.gE,0,none⟩) 32 P0.cE,.slice (some ⟨P0.gI,0,none⟩) 40 P0.cI,.int .i64 (P0.g 0),.int .i64 (P0.g 1),.int .i64 (P0.g 2),.int .i64 (P0.g 3),.bool false,.bool false,.bool false,.bool false],f45,f46,f47,.agg #[.int .i64 (P1.s 0),.int .i64 (P1.s 1),.int .i64 (P1.s 2),.int .i64 (P1.s 3),.slice (some ⟨P1.gC,0,none⟩) 384 P1.cC,.slice (some ⟨P1.gE,0,none⟩) 32 P1.cE,.slice (some ⟨P1.gI,0,none⟩) 40 P1.cI,.int .i64 (P1.g 0),.int .i64 (P1.g 1),.int .i64 (P1.g 2),.int .i64 (P1.g 3),.bool false,.bool false,.bool false,.bool false],f49,f50,f51,.agg #[.int .i64 (P2.s 0),.int .i64 (P2.s 1),.int .i64 (P2.s 2),.int .i64 (P2.s 3),.slice (some ⟨P2.gC,0,none⟩) 384 P2.cC,.slice (some ⟨P2.gE,0,none⟩) 32 P2.cE,.slice (some ⟨P2.gI,0,none⟩) 40 P2.cI,.int .i64 (P2.g 0),.int .i64 (P2.g 1),.int .i64 (P2.g 2),.int .i64 (P2.g 3),.bool false,.bool false,.bool false,.bool false],f53,f54,f55,f56,f57,f58,f59,f60,f61,f62,f63,f64,f65,f66,f67,f68,f69,f70,f71,f72,f73,f74,f75,f76,f77,f78,f79,f80,f81,f82,f83,f84,f85,f86,f87,f88,f89,f90,f91,f92,f93,f94,f95,f96,f97,f98,f99,f100,f101,f102,f103,f104,f105,f106,f107,f108,f109,f110,f111,f112,f113,f114,f115,f116,f117,f118,f119,f120,f121,f122,f123,f124,f125,f126,f127,f128,f129,f130,f131,f132,f133,f134,f135,f136,f137,f138,f139],[]⟩ w:=by
 intro n
 induction n with
 | zero =>
  intro a b c v0 v1 v2 w hs hn hT
  obtain ⟨rfl,rfl,rfl⟩:a=2∧b=2∧c=2:=by unfold Sv.Seq7 at hs;omega
  exact wpAnyH_done (Sv.ready7 hs) (hQ _ _ _ _ hT) _
 | succ n ih =>
  intro a b c v0 v1 v2 w hs hn hT
  by_cases he:a=2∧b=2∧c=2
  ·obtain ⟨rfl,rfl,rfl⟩:=he
   exact wpAnyH_done (Sv.ready7 hs) (hQ _ _ _ _ hT) _
  have hi':∀i,i∈Sv.rd7 a b c→(i=12∧a=0)∨(i=13∧b=0)∨(i=14∧c=0)∨(i=15∧a=1∧b≠0∧c≠0)∨(i=16∧a=2∧b=1∧c≠0)∨(i=17∧a=2∧b=2∧c=1):=by
   intro i hi
   unfold Sv.rd7 at hi
   unfold Sv.Seq7 at hs
   split at hi
   ·simp only [List.mem_append] at hi
    rcases hi with hi | hi | hi <;> split at hi <;> simp at hi <;> omega
   ·split at hi
    ·simp at hi;omega
    ·split at hi
     ·simp at hi;omega
     ·split at hi
      ·simp at hi;omega
      ·simp at hi
  have hne:Sv.rd7 a b c≠[]:=by
   unfold Sv.rd7
   unfold Sv.Seq7 at hs
   split
   ·rename_i h
    rcases h with h | h | h <;> simp [h]
   ·split
    ·simp
    ·split
     ·simp
     ·split
      ·simp
      ·exfalso;omega
  refine wpAnyH_all (Sv.ready7 hs) hne (fun i hi=>?_)
  have hi2:=hi' i hi
  clear hi he hi' hne
  rcases hi2 with ⟨rfl,rfl⟩ | ⟨rfl,rfl⟩ | ⟨rfl,rfl⟩ | ⟨rfl,rfl,q1,q2⟩ | ⟨rfl,rfl,rfl,q2⟩ | ⟨rfl,rfl,rfl,rfl⟩
  ·have hn':=hT.make
   refine Sv.make7_0 _ _ _ _ _ _ ⟨hS _ hn'.grown,?_⟩
   rw [Sv.up7_0]
   exact ih _ _ _ _ _ _ _ (by unfold Sv.Seq7 at hs ⊢;omega) (by omega) hn'
  ·have hn':=hT.turn21.make.turn21
   refine Sv.make7_1 _ _ _ _ _ _ ⟨hS _ hn'.grown,?_⟩
   rw [Sv.up7_1]
   exact ih _ _ _ _ _ _ _ (by unfold Sv.Seq7 at hs ⊢;omega) (by omega) hn'
  ·have hn':=hT.turn31.make.turn31
   refine Sv.make7_2 _ _ _ _ _ _ ⟨hS _ hn'.grown,?_⟩
   rw [Sv.up7_2]
   exact ih _ _ _ _ _ _ _ (by unfold Sv.Seq7 at hs ⊢;omega) (by omega) hn'
  ·obtain ⟨B,G,rfl,hG⟩:=hT.cells
   have hn':=hT.lay
   refine Sv.lay7_0 _ _ _ _ _ G B _ hG ⟨hS _ hn'.grown,?_⟩
   rw [Sv.up7_3]
   exact ih _ _ _ _ _ _ _ (by unfold Sv.Seq7 at hs ⊢;omega) (by omega) hn'
  ·obtain ⟨B,G,rfl,hG⟩:=hT.turn21.cells
   have hn':=(hT.turn21.lay).turn21
   refine Sv.lay7_1 _ _ _ _ _ G B _ hG ⟨hS _ hn'.grown,?_⟩
   rw [Sv.up7_4]
   exact ih _ _ _ _ _ _ _ (by unfold Sv.Seq7 at hs ⊢;omega) (by omega) hn'
  ·obtain ⟨B,G,rfl,hG⟩:=hT.turn31.cells
   have hn':=(hT.turn31.lay).turn31
   refine Sv.lay7_2 _ _ _ _ _ G B _ hG ⟨hS _ hn'.grown,?_⟩
   rw [Sv.up7_5]
   exact ih _ _ _ _ _ _ _ (by unfold Sv.Seq7 at hs ⊢;omega) (by omega) hn'

end Go.Proofs.YtldgbkjceildfaaGreat
