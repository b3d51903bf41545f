import Derived.Test.YtldgbkjceildfaaGreatBy53
namespace Go.Proofs.YtldgbkjceildfaaGreat
open Go.RowKit

structure Sv.Q where
 i:Nat→Int
 a:Nat→Option Addr × Nat × Nat
 g:Nat→Int
 t:Nat→Bool

def Sv.Q.box (F:Sv.Q):Nat→Value
 | 0=>.int .i64 (F.i 0)
 | 1=>.int .i64 (F.i 1)
 | 2=>.int .i64 (F.i 2)
 | 3=>.int .i64 (F.i 3)
 | 4=>.slice (F.a 0).1 (F.a 0).2.1 (F.a 0).2.2
 | 5=>.slice (F.a 1).1 (F.a 1).2.1 (F.a 1).2.2
 | 6=>.slice (F.a 2).1 (F.a 2).2.1 (F.a 2).2.2
 | 7=>.int .i64 (F.g 0)
 | 8=>.int .i64 (F.g 1)
 | 9=>.int .i64 (F.g 2)
 | 10=>.int .i64 (F.g 3)
 | 11=>.bool (F.t 0)
 | 12=>.bool (F.t 1)
 | 13=>.bool (F.t 2)
 | 14=>.bool (F.t 3)
 | _=>undef

def Sv.Q.none:Sv.Q:=⟨fun _=>0,fun _=>(Option.none,0,0),fun _=>0,fun _=>false⟩

def Sv.Q.of (s:Nat→Int) (gC gE gI cC cE cI:Nat) (g:Nat→Int) (t:Nat→Bool):Sv.Q:=⟨s,fun k=>if k=0 then (some ⟨gC,0,Option.none⟩,384,cC) else if k=1 then (some ⟨gE,0,Option.none⟩,32,cE) else (some ⟨gI,0,Option.none⟩,40,cI),g,t⟩

def Sv.cells (F:Sv.Q):Array Value:=#[.int .i64 (F.i 0),.int .i64 (F.i 1),.int .i64 (F.i 2),.int .i64 (F.i 3),.slice (F.a 0).1 (F.a 0).2.1 (F.a 0).2.2,.slice (F.a 1).1 (F.a 1).2.1 (F.a 1).2.2,.slice (F.a 2).1 (F.a 2).2.1 (F.a 2).2.2,.int .i64 (F.g 0),.int .i64 (F.g 1),.int .i64 (F.g 2),.int .i64 (F.g 3),.bool (F.t 0),.bool (F.t 1),.bool (F.t 2),.bool (F.t 3)]

theorem Sv.cells_camp (s g:Nat→Int) (gC gE gI cC cE cI:Nat) (t:Nat→Bool):Sv.camp s gC gE gI cC cE cI g t=Sv.cells (Sv.Q.of s gC gE gI cC cE cI g t):=rfl

theorem Sv.cells_at (F:Sv.Q) (j:Nat) (hj:j<15):(Sv.cells F)[j]?=some (F.box j):=by
 rcases (show j=0∨j=1∨j=2∨j=3∨j=4∨j=5∨j=6∨j=7∨j=8∨j=9∨j=10∨j=11∨j=12∨j=13∨j=14 by omega) with rfl|rfl|rfl|rfl|rfl|rfl|rfl|rfl|rfl|rfl|rfl|rfl|rfl|rfl|rfl <;> rfl

theorem Sv.cells_lie (x:World) (F:Sv.Q):Lie (x.alloc (.cells (Sv.cells F) 33)) x.heap.size 33 15 F.box :=
 Arr.lie (m:=15) ⟨_,heap_alloc_new x _,rfl,fun i hi=>Sv.cells_at F i hi⟩

theorem Sv.cells15 {x:World} {B:Nat} {F:Sv.Q} (h:Lie x B 33 15 F.box):x.cell? ⟨B,0,none⟩=some (.int .i64 (F.i 0))∧x.cell? ⟨B,1,none⟩=some (.int .i64 (F.i 1))∧x.cell? ⟨B,2,none⟩=some (.int .i64 (F.i 2))∧x.cell? ⟨B,3,none⟩=some (.int .i64 (F.i 3))∧x.cell? ⟨B,4,none⟩=some (.slice (F.a 0).1 (F.a 0).2.1 (F.a 0).2.2)∧x.cell? ⟨B,5,none⟩=some (.slice (F.a 1).1 (F.a 1).2.1 (F.a 1).2.2)∧x.cell? ⟨B,6,none⟩=some (.slice (F.a 2).1 (F.a 2).2.1 (F.a 2).2.2)∧x.cell? ⟨B,7,none⟩=some (.int .i64 (F.g 0))∧x.cell? ⟨B,8,none⟩=some (.int .i64 (F.g 1))∧x.cell? ⟨B,9,none⟩=some (.int .i64 (F.g 2))∧x.cell? ⟨B,10,none⟩=some (.int .i64 (F.g 3))∧x.cell? ⟨B,11,none⟩=some (.bool (F.t 0))∧x.cell? ⟨B,12,none⟩=some (.bool (F.t 1))∧x.cell? ⟨B,13,none⟩=some (.bool (F.t 2))∧x.cell? ⟨B,14,none⟩=some (.bool (F.t 3)) :=
 ⟨h.cell (c:=0) (by omega),h.cell (c:=1) (by omega),h.cell (c:=2) (by omega),h.cell (c:=3) (by omega),h.cell (c:=4) (by omega),h.cell (c:=5) (by omega),h.cell (c:=6) (by omega),h.cell (c:=7) (by omega),h.cell (c:=8) (by omega),h.cell (c:=9) (by omega),h.cell (c:=10) (by omega),h.cell (c:=11) (by omega),h.cell (c:=12) (by omega),h.cell (c:=13) (by omega),h.cell (c:=14) (by omega)⟩

def Sv.Camp (x:World) (C:Sv.C) (F:Sv.Q):Prop:=C.Ok∧∃gC gE gI cC cE cI,F=Sv.Q.of C.s gC gE gI cC cE cI C.g C.t∧32≤cE∧Gd.Lists x gC gE gI C.c C.E C.I

def Sv.Tells (x:World):Option Sv.C→Sv.Q→Prop
 | none,F=>F=Sv.Q.none
 | some C,F=>C.Ok∧∃gC gE gI cC cE cI,F=Sv.Q.of C.s gC gE gI cC cE cI C.g C.t∧Gd.Lists x gC gE gI C.c C.E C.I

section
variable {x y:World} {base p bm cnt:Nat} {st:Dk.St} {o oo:Option Sv.C} {C:Sv.C} {F G:Sv.Q}

theorem Sv.Camp.on (h:Sv.Camp x C F) (hg:x.grownBy y none):Sv.Camp y C F:=by
 obtain ⟨h1,gC,gE,gI,cC,cE,cI,h2,h3,h4⟩:=h;exact ⟨h1,gC,gE,gI,cC,cE,cI,h2,h3,h4.on hg⟩

theorem Sv.Camp.tells (h:Sv.Camp x C F):Sv.Tells x (some C) F:=by
 obtain ⟨h1,gC,gE,gI,cC,cE,cI,h2,_,h4⟩:=h;exact ⟨h1,gC,gE,gI,cC,cE,cI,h2,h4⟩

theorem Sv.Tells.on (h:Sv.Tells x o F) (hg:x.grownBy y none):Sv.Tells y o F:=by
 cases o with
 | none=>exact h
 | some C =>
  obtain ⟨h1,gC,gE,gI,cC,cE,cI,h2,h4⟩:=h;exact ⟨h1,gC,gE,gI,cC,cE,cI,h2,h4.on hg⟩

theorem svSame_tells (h:Sv.Tells x o F) (h2:Sv.Tells x o G):Calls Tryz.prog 12 #[.agg (Sv.cells F),.agg (Sv.cells G)] x (Says x (.bool true)):=by
 cases o with
 | none =>
  have e1:F=Sv.Q.none:=h;have e2:G=Sv.Q.none:=h2;subst e1 e2;exact svSame_void x
 | some C =>
  obtain ⟨h1,gC,gE,gI,cC,cE,cI,rfl,h4⟩:=h;obtain ⟨_,jC,jE,jI,dC,dE,dI,rfl,h5⟩:=h2;have h:=svSame_any C.s C.s C.g C.g C.c C.c C.E C.E C.I C.I C.t C.t gC gE gI cC cE cI jC jE jI dC dE dI x h4 h5 h1.byte h1.byte;rw [Sv.sameT_self,Sn.sameW_yes,Bool.and_true] at h;exact h

end


open Go.RowKit

def Sv.nestG (x:World) (T:Nat) (F:Sv.Q):World:=(((((((((((((((x.setCell ⟨T,0,none⟩ (.int .i64 (F.i 0))).setCell ⟨T,1,none⟩ (.int .i64 (F.i 1))).setCell ⟨T,2,none⟩ (.int .i64 (F.i 2))).setCell ⟨T,3,none⟩ (.int .i64 (F.i 3))).setCell ⟨T,4,none⟩ (.slice (F.a 0).1 (F.a 0).2.1 (F.a 0).2.2)).setCell ⟨T,5,none⟩ (.slice (F.a 1).1 (F.a 1).2.1 (F.a 1).2.2)).setCell ⟨T,6,none⟩ (.slice (F.a 2).1 (F.a 2).2.1 (F.a 2).2.2)).setCell ⟨T,7,none⟩ (.int .i64 (F.g 0))).setCell ⟨T,8,none⟩ (.int .i64 (F.g 1))).setCell ⟨T,9,none⟩ (.int .i64 (F.g 2))).setCell ⟨T,10,none⟩ (.int .i64 (F.g 3))).setCell ⟨T,11,none⟩ (.bool (F.t 0))).setCell ⟨T,12,none⟩ (.bool (F.t 1))).setCell ⟨T,13,none⟩ (.bool (F.t 2))).setCell ⟨T,14,none⟩ (.bool (F.t 3)))

theorem Sv.now_nestG {x:World} {T:Nat} {K:Nat→Value} (h:Lie x T 33 15 K) (F:Sv.Q):Lie (Sv.nestG x T F) T 33 15 F.box∧Turn (fun k=>k=T) x (Sv.nestG x T F):=by
 refine ⟨((((((((((((((((h.store 0 _).store 1 _).store 2 _).store 3 _).store 4 _).store 5 _).store 6 _).store 7 _).store 8 _).store 9 _).store 10 _).store 11 _).store 12 _).store 13 _).store 14 _)).congr fun j hj=>?_,(((((((((((((((Turn.refl (fun k=>k=T) x).store T 0 _ rfl).store T 1 _ rfl).store T 2 _ rfl).store T 3 _ rfl).store T 4 _ rfl).store T 5 _ rfl).store T 6 _ rfl).store T 7 _ rfl).store T 8 _ rfl).store T 9 _ rfl).store T 10 _ rfl).store T 11 _ rfl).store T 12 _ rfl).store T 13 _ rfl).store T 14 _ rfl⟩;rcases (show j=0∨j=1∨j=2∨j=3∨j=4∨j=5∨j=6∨j=7∨j=8∨j=9∨j=10∨j=11∨j=12∨j=13∨j=14 by omega) with rfl|rfl|rfl|rfl|rfl|rfl|rfl|rfl|rfl|rfl|rfl|rfl|rfl|rfl|rfl <;> rfl

def Sv.world (F:Sv.Q):Array Value:=#[.int .i64 (F.i 0),.int .i64 (F.i 1),.int .i64 (F.i 2),.int .i64 (F.i 3),.slice (F.a 0).1 (F.a 0).2.1 (F.a 0).2.2,.slice (F.a 1).1 (F.a 1).2.1 (F.a 1).2.2,.slice (F.a 2).1 (F.a 2).2.1 (F.a 2).2.2,.int .i64 (F.g 0),.int .i64 (F.g 1),.int .i64 (F.g 2),.int .i64 (F.g 3)]

theorem Sv.world_at (F:Sv.Q) (j:Nat) (hj:j<11):(Sv.world F)[j]?=some (F.box j):=by
 rcases (show j=0∨j=1∨j=2∨j=3∨j=4∨j=5∨j=6∨j=7∨j=8∨j=9∨j=10 by omega) with rfl|rfl|rfl|rfl|rfl|rfl|rfl|rfl|rfl|rfl|rfl <;> rfl

theorem Sv.world_lie (x:World) (F:Sv.Q):Lie (x.alloc (.cells (Sv.world F) 30)) x.heap.size 30 11 F.box :=
 Arr.lie (m:=11) ⟨_,heap_alloc_new x _,rfl,fun i hi=>Sv.world_at F i hi⟩

theorem Sv.cells11 {x:World} {B:Nat} {F:Sv.Q} (h:Lie x B 30 11 F.box):x.cell? ⟨B,0,none⟩=some (.int .i64 (F.i 0))∧x.cell? ⟨B,1,none⟩=some (.int .i64 (F.i 1))∧x.cell? ⟨B,2,none⟩=some (.int .i64 (F.i 2))∧x.cell? ⟨B,3,none⟩=some (.int .i64 (F.i 3))∧x.cell? ⟨B,4,none⟩=some (.slice (F.a 0).1 (F.a 0).2.1 (F.a 0).2.2)∧x.cell? ⟨B,5,none⟩=some (.slice (F.a 1).1 (F.a 1).2.1 (F.a 1).2.2)∧x.cell? ⟨B,6,none⟩=some (.slice (F.a 2).1 (F.a 2).2.1 (F.a 2).2.2)∧x.cell? ⟨B,7,none⟩=some (.int .i64 (F.g 0))∧x.cell? ⟨B,8,none⟩=some (.int .i64 (F.g 1))∧x.cell? ⟨B,9,none⟩=some (.int .i64 (F.g 2))∧x.cell? ⟨B,10,none⟩=some (.int .i64 (F.g 3)) :=
 ⟨h.cell (c:=0) (by omega),h.cell (c:=1) (by omega),h.cell (c:=2) (by omega),h.cell (c:=3) (by omega),h.cell (c:=4) (by omega),h.cell (c:=5) (by omega),h.cell (c:=6) (by omega),h.cell (c:=7) (by omega),h.cell (c:=8) (by omega),h.cell (c:=9) (by omega),h.cell (c:=10) (by omega)⟩

section
variable {w x y z:World} {G n cap:Nat} {l:List Int} {C:Sv.C} {F K:Sv.Q}

theorem Sv.own_down {b b' n z:Nat} {T:TypeId} {v:Value} {xs:List Value} (h:x.ownsRow b T z v n xs) (hb:b'≤b):x.ownsRow b' T z v n xs:=by
 refine ⟨h.1,?_⟩;rcases h.2 with q|⟨g,c,cur,h1,h2,h3⟩
 ·exact .inl q
 ·exact .inr ⟨g,c,cur,h1,Nat.le_trans hb h2,h3⟩

theorem Sn.Buf.down (h:Sn.Buf x y G n cap l) (hg:w.grownBy x none):Sn.Buf w y G n cap l :=
 ⟨Sv.own_down h.own hg.size,h.byte,gtr hg h.grown⟩

theorem Sv.Camp.encode (h:Sv.Camp x C F):Calls Tryz.prog 9 #[.agg (Sv.cells F)] x fun e z=>∃G cap,e=.returned (.tuple #[.slice (some ⟨G,0,none⟩) 919 cap,.int .i64 0])∧Sn.Buf x z G 919 cap C.bytes:=by
 obtain ⟨h1,gC,gE,gI,cC,cE,cI,rfl,h3,h4⟩:=h;refine (svEncode_any C.s C.g C.c C.E C.I C.t gC gE gI cC cE cI x h4 h1.byte h3).mono ?_;rintro e z ⟨r,hr,⟨h0,_⟩|⟨rfl,G,cap,rfl,hb⟩⟩
 ·exact absurd (h1.chk.one hr) h0
 ·exact ⟨G,cap,rfl,hb⟩

theorem Sv.Camp.refEncode (h:Sv.Camp x C F):Calls Tryz.prog 10 #[.agg (Sv.world F)] x fun e z=>∃G cap,e=.returned (.tuple #[.slice (some ⟨G,0,none⟩) 918 cap,.int .i64 0])∧Sn.Buf x z G 918 cap (C.bytes.drop 1):=by
 obtain ⟨h1,gC,gE,gI,cC,cE,cI,rfl,h3,h4⟩:=h;refine (refEncode_any C.s C.g C.c C.E C.I gC gE gI cC cE cI x h4 (fun y hy=>refCheck11_any C.s C.g C.c C.E C.I gC gE gI cC cE cI y hy h1.byte h3)).mono ?_;rintro e z ⟨v,r,rfl,hr,-,hown,hg⟩;obtain rfl:r=0:=h1.chk.one hr;obtain ⟨g,c,rfl,hb⟩:=Sn.Bytes.buf (w:=x) (hown rfl) (Sn.bytes_byte C.s C.g C.c C.E C.I h1.byte) (by rw [Sn.bytes_len];decide) (Nat.le_refl _) hg;rw [Sn.bytes_len] at hb ⊢;exact ⟨g,c,rfl,hb⟩

theorem Sv.Camp.decode (h:Sv.Camp x C F) (hB:Sn.Buf w y G 919 cap C.bytes):Calls Tryz.prog 11 #[.slice (some ⟨G,0,none⟩) 919 cap] y fun e z=>y.grownBy z none∧∃K,e=.returned (.tuple #[.agg (Sv.cells K),.int .i64 0])∧Sv.Tells z (some C) K:=by
 refine (svDecode_is h.1 hB).mono ?_;rintro e z ⟨v,rfl,⟨gC,gE,gI,cC,cE,cI,rfl,_,_,_,_,hL⟩,hg⟩;exact ⟨hg,_,rfl,h.1,gC,gE,gI,cC,cE,cI,rfl,hL⟩

def Sv.Gives (z:World) (l:List Int) (r:Int) (F:Sv.Q):Prop :=
 Sv.Rds l r∧((r≠0∧F=Sv.Q.none)∨(r=0∧l.length=919∧∃gC gE gI cC cE cI,F=Sv.Q.of (Sn.rs (Sn.fn (l.drop 1))) gC gE gI cC cE cI (Sn.rg (Sn.fn (l.drop 1))) (Sv.tk l)∧Gd.Lists z gC gE gI (Sn.rc (Sn.fn (l.drop 1))) (Sn.rE (Sn.fn (l.drop 1))) (Sn.rI (Sn.fn (l.drop 1)))))

theorem Sv.Gives.on {r:Int} (h:Sv.Gives y l r F) (hg:y.grownBy z none):Sv.Gives z l r F:=by
 obtain ⟨h1,h2|⟨h2,h3,gC,gE,gI,cC,cE,cI,h4,h5⟩⟩:=h
 ·exact ⟨h1,.inl h2⟩
 ·exact ⟨h1,.inr ⟨h2,h3,gC,gE,gI,cC,cE,cI,h4,h5.on hg⟩⟩

theorem Sv.Gives.turn {r:Int} {T m:Nat} {J:Nat→Value} (h:Sv.Gives y l r F) (hT:Lie y T 33 m J) (ht:Turn (fun k=>k=T) y z):Sv.Gives z l r F:=by
 obtain ⟨h1,h2|⟨h2,h3,gC,gE,gI,cC,cE,cI,h4,h5⟩⟩:=h
 ·exact ⟨h1,.inl h2⟩
 ·exact ⟨h1,.inr ⟨h2,h3,gC,gE,gI,cC,cE,cI,h4,⟨Sv.lie_turn h5.cells ht (fun e=>hT.type_ne h5.cells (by decide) e.symm),Sv.lie_turn h5.ents ht (fun e=>hT.type_ne h5.ents (by decide) e.symm),Sv.lie_turn h5.items ht (fun e=>hT.type_ne h5.items (by decide) e.symm)⟩⟩⟩

theorem Sn.Buf.gives (h:Sn.Buf w x G n cap l):Calls Tryz.prog 11 #[.slice (some ⟨G,0,none⟩) n cap] x fun e z=>x.grownBy z none∧∃r F,e=.returned (.tuple #[.agg (Sv.cells F),.int .i64 r])∧Sv.Gives z l r F:=by
 have key:Calls Tryz.prog 11 #[.slice (some ⟨G,0,none⟩) n cap] x (Sv.Reads x l):=by
  by_cases h0:0<n
  ·exact svDecode_any h h0
  ·obtain rfl:n=0:=by omega
   have hl:=h.len;obtain rfl:l=[]:=List.length_eq_zero_iff.1 hl;exact svDecode_none _ cap x
 refine key.mono ?_;rintro e z ⟨r,hr,hg,⟨h0,rfl⟩|⟨rfl,h9,gC,gE,gI,cC,cE,cI,rfl,_,_,_,_,hL⟩⟩
 ·exact ⟨hg,r,Sv.Q.none,rfl,hr,.inl ⟨h0,rfl⟩⟩
 ·exact ⟨hg,0,_,rfl,hr,.inr ⟨rfl,h9,gC,gE,gI,cC,cE,cI,rfl,hL⟩⟩

def Sv.Shows (z:World) (l:List Int) (r:Int) (K:Sv.Q):Prop :=
 (r≠0∧K=Sv.Q.none)∨(r=0∧∃gC gE gI cC cE cI,K=Sv.Q.of (Sn.rs (Sn.fn (l.drop 1))) gC gE gI cC cE cI (Sn.rg (Sn.fn (l.drop 1))) (fun _=>false)∧Gd.Lists z gC gE gI (Sn.rc (Sn.fn (l.drop 1))) (Sn.rE (Sn.fn (l.drop 1))) (Sn.rI (Sn.fn (l.drop 1))))

theorem Sv.Shows.on {r:Int} (h:Sv.Shows y l r K) (hg:y.grownBy z none):Sv.Shows z l r K:=by
 obtain h2|⟨h2,gC,gE,gI,cC,cE,cI,h4,h5⟩:=h
 ·exact .inl h2
 ·exact .inr ⟨h2,gC,gE,gI,cC,cE,cI,h4,h5.on hg⟩

theorem Sn.Buf.shows {r:Int} (h:Sn.Buf w x G n cap l) (h0:0<n) (h15:¬15<Sn.fn l 0) (hr:Sv.Rds l r) (a:Option Addr) (ha:n - 1=918→a=some ⟨G,1,none⟩):Calls Tryz.prog 14 #[.slice a (n - 1) (cap - 1)] x fun e z=>x.grownBy z none∧∃K,e=.returned (.tuple #[.agg (Sv.world K),.int .i64 r])∧Sv.Shows z l r K:=by
 have hl:=h.len;refine (h.refReadsAt a 1 (by omega) ha).mono ?_;rintro e z ⟨r',hr',hcase⟩;unfold Sv.Rds at hr;rw [if_neg (by omega),if_neg h15] at hr;obtain rfl:r=r':=hr.one hr';rcases hcase with ⟨h1,rfl,hg⟩|⟨rfl,_,v,rfl,gC,gE,gI,cC,cE,cI,hv,_,_,_,_,_,_,_,hL,hg⟩
 ·exact ⟨hg,Sv.Q.none,rfl,.inl ⟨h1,rfl⟩⟩
 ·obtain rfl:v=.agg (Gd.world (Sn.rs (Sn.fn (l.drop 1))) gC gE gI cC cE cI (Sn.rg (Sn.fn (l.drop 1)))):=by simpa using hv
  exact ⟨hg,_,rfl,.inr ⟨rfl,gC,gE,gI,cC,cE,cI,rfl,hL⟩⟩

theorem Sv.Gives.same {r:Int} (h:Sv.Gives x l r F) (h2:Sv.Shows x l r K):Calls Tryz.prog 15 #[.agg (Sv.world F),.agg (Sv.world K)] x (Says x (.bool true)):=by
 rcases h.2 with ⟨h0,rfl⟩|⟨rfl,_,gC,gE,gI,cC,cE,cI,rfl,hL⟩
 ·rcases h2 with ⟨_,rfl⟩|⟨k,_⟩
  ·exact Sv.voids_same x
  ·exact absurd k h0
 ·rcases h2 with ⟨k,_⟩|⟨_,jC,jE,jI,dC,dE,dI,rfl,hL2⟩
  ·exact absurd rfl k
  ·exact same7_any _ _ _ _ _ gC gE gI cC cE cI jC jE jI dC dE dI x hL hL2

theorem Sv.Gives.seat (h:Sv.Gives x l 0 F) (i:Nat):F.t i=decide (Sn.fn l 0 / 2 ^ i % 2=1):=by
 rcases h.2 with ⟨h0,_⟩|⟨_,_,gC,gE,gI,cC,cE,cI,rfl,_⟩
 ·exact absurd rfl h0
 ·rfl

theorem Sn.Buf.more0 {v':Value} {lm:List Int} (h:Sn.Buf w x G n cap l) (hown:z.ownsRow w.heap.size 5 1 v' (n+lm.length) (Ck.bys l ++ Ck.bys lm)) (hg:x.grownBy z (some G)) (hb:∀b∈lm,0≤b∧b≤255) (hv:v'≠.slice none 0 0):∃g c,v'=.slice (some ⟨g,0,none⟩) (n+lm.length) c∧Sn.Buf w z g (n+lm.length) c (l ++ lm):=by
 rcases hown.2 with ⟨e,_⟩|⟨g,c,cur,e,_⟩
 ·exact absurd e hv
 ·refine ⟨g,c,e,?_,fun b q=>?_,gow h.grown hg (fun k e=>by cases e;exact h.low)⟩
  ·unfold Ck.bys at hown ⊢;rw [List.map_append,←e];exact hown
  ·rcases List.mem_append.1 q with q|q
   ·exact h.byte b q
   ·exact hb b q

end


open Go.RowKit

theorem Sv.wfs {a:Int} (h:(Lit.int .i64 a).wf=true):-9223372036854775808≤a∧a≤9223372036854775807:=by
 simp only [Lit.wf,Bool.and_eq_true,decide_eq_true_eq,show IntKind.i64.min=-9223372036854775808 from by decide,show IntKind.i64.max=9223372036854775807 from by decide] at h;exact h

end Go.Proofs.YtldgbkjceildfaaGreat
