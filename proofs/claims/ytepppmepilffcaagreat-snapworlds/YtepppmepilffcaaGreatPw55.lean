import Derived.Test.YtepppmepilffcaaGreatPw54
import Derived.Test.YtepppmepilffcaaGreatPw46
namespace Go.Proofs.YtepppmepilffcaaGreat
open Go.RowKit

def Sn.Writ (x:World) (R:Int) (l:List Int) (e:Ending) (x':World):Prop :=
 ∃a n cap,e=.returned (.tuple #[.slice a n cap,.int .i64 R])∧Ck.Src x' (.slice a n cap) l∧(R=0→∃G,a=some ⟨G,0,none⟩∧n=918∧Sn.Buf x x' G 918 cap l)∧x.grownBy x' none

structure Sn.Seen (s g c:Nat→Int) (E I:Nat→Nat→Int) (nC nE nI:Nat) (R:Int) (l:List Int) (Dg:Int):Prop where
 chk:∀x vC vE vI,Sn.Lis x vC vE vI nC nE nI c E I→Calls Tryz.prog 10 #[.agg (Sn.wide s g vC vE vI)] x (Says x (.int .i64 R))
 ref:∀x vC vE vI,Sn.Lis x vC vE vI nC nE nI c E I→Calls Tryz.prog 11 #[.agg (Sn.wide s g vC vE vI)] x (Says x (.int .i64 R))
 enc:∀x vC vE vI,Sn.Lis x vC vE vI nC nE nI c E I→Calls Tryz.prog 8 #[.agg (Sn.wide s g vC vE vI)] x (Sn.Writ x R l)
 renc:∀x vC vE vI,Sn.Lis x vC vE vI nC nE nI c E I→Calls Tryz.prog 9 #[.agg (Sn.wide s g vC vE vI)] x (Sn.Writ x R l)
 dig:∀x vC vE vI,Sn.Lis x vC vE vI nC nE nI c E I→Calls Tryz.prog 12 #[.agg (Sn.wide s g vC vE vI)] x (Says x (.int .u64 Dg))
 rdig:∀x vC vE vI,Sn.Lis x vC vE vI nC nE nI c E I→Calls Tryz.prog 13 #[.agg (Sn.wide s g vC vE vI)] x (Says x (.int .u64 Dg))
 full:R=0→nC=384∧nE=32∧nI=40∧Sn.Chk s g c E I 0∧l=Sn.bytes s g c E I

theorem Sn.Lis.lists {x:World} {vC vE vI:Value} {c:Nat→Int} {E I:Nat→Nat→Int} (h:Sn.Lis x vC vE vI 384 32 40 c E I):∃gC gE gI cC cE cI,vC=.slice (some ⟨gC,0,none⟩) 384 cC∧vE=.slice (some ⟨gE,0,none⟩) 32 cE∧vI=.slice (some ⟨gI,0,none⟩) 40 cI∧32≤cE∧Gd.Lists x gC gE gI c E I:=by
 rcases h.cells with ⟨_,h0⟩ | ⟨gC,cC,h1,h4⟩
 ·omega
 rcases h.ents with ⟨_,h0⟩ | ⟨gE,cE,e1,e4⟩
 ·omega
 rcases h.items with ⟨_,h0⟩ | ⟨gI,cI,i1,i4⟩
 ·omega
 exact ⟨gC,gE,gI,cC,cE,cI,h1,e1,i1,h.capE _ _ _ e1,h4,e4,i4⟩

theorem Gd.Lists.lis {x:World} {gC gE gI cC cE cI:Nat} {c:Nat→Int} {E I:Nat→Nat→Int} (h:Gd.Lists x gC gE gI c E I) (hcE:32≤cE):Sn.Lis x (.slice (some ⟨gC,0,none⟩) 384 cC) (.slice (some ⟨gE,0,none⟩) 32 cE) (.slice (some ⟨gI,0,none⟩) 40 cI) 384 32 40 c E I :=
 ⟨.inr ⟨gC,cC,rfl,h.cells⟩,.inr ⟨gE,cE,rfl,h.ents⟩,.inr ⟨gI,cI,rfl,h.items⟩,fun _ _ _ e=>by cases e;exact hcE⟩

theorem Sn.writ_of {x x':World} {s g c:Nat→Int} {E I:Nat→Nat→Int} {R:Int} {e:Ending} (hR:Sn.Chk s g c E I R) (hc:∀i,0≤c i∧c i≤255) (h:Sn.Encodes x s g c E I e x'):Sn.Writ x R (if R=0 then Sn.bytes s g c E I else []) e x':=by
 obtain ⟨v,r,rfl,hr,h1,h2,hg⟩:=h
 obtain rfl:R=r:=hr.one hR
 by_cases h0:R=0
 ·subst h0
  have hl:=Sn.bytes_len s g c E I
  obtain ⟨G,k,rfl,hB⟩:=Sn.Bytes.buf (w:=x) (h2 rfl) (Sn.bytes_byte s g c E I hc) (by omega) (Nat.le_refl _) hg
  rw [hl] at hB ⊢
  rw [if_pos rfl]
  exact ⟨_,918,k,rfl,hB.src,fun _=>⟨G,rfl,rfl,hB⟩,hg⟩
 ·obtain rfl:=h1 h0
  rw [if_neg h0]
  exact ⟨none,0,0,rfl,.inl ⟨rfl,rfl⟩,fun q=>absurd q h0,hg⟩

theorem Sn.seen_full (s g c:Nat→Int) (E I:Nat→Nat→Int) (hc:∀i,0≤c i∧c i≤255):∃R l Dg,Sn.Seen s g c E I 384 32 40 R l Dg:=by
 obtain ⟨R,hR⟩:=Sn.chk_some s g c E I
 have hck:∀(x:World) (gC gE gI cC cE cI:Nat),32≤cE→Gd.Lists x gC gE gI c E I→Calls Tryz.prog 11 #[.agg (Gd.world s gC gE gI cC cE cI g)] x (Sn.Told x s g c E I):=fun x gC gE gI cC cE cI h1 h2=>refCheck11_any s g c E I gC gE gI cC cE cI x h2 hc h1
 have told:∀{x:World} {e:Ending} {x':World},Sn.Told x s g c E I e x'→Says x (.int .i64 R) e x':=fun h=>by
  obtain ⟨r,rfl,hr,hg⟩:=h
  obtain rfl:R=r:=hr.one hR
  exact ⟨rfl,hg⟩
 have digs:∀{x:World} {e:Ending} {x':World},Sn.Digs x s g c E I e x'→Says x (.int .u64 (if R=0 then Sn.dig (Sn.bytes s g c E I) else 0)) e x':=fun h=>by
  obtain ⟨r,rfl,hr,hg⟩:=h
  obtain rfl:R=r:=hr.one hR
  exact ⟨rfl,hg⟩
 refine ⟨R,if R=0 then Sn.bytes s g c E I else [],if R=0 then Sn.dig (Sn.bytes s g c E I) else 0,?_,?_,?_,?_,?_,?_,?_⟩
 ·intro x vC vE vI h
  obtain ⟨gC,gE,gI,cC,cE,cI,rfl,rfl,rfl,h1,h2⟩:=h.lists
  exact (snCheck_any s g c E I gC gE gI cC cE cI x h2 hc h1).mono fun _ _ q=>told q
 ·intro x vC vE vI h
  obtain ⟨gC,gE,gI,cC,cE,cI,rfl,rfl,rfl,h1,h2⟩:=h.lists
  exact (hck x gC gE gI cC cE cI h1 h2).mono fun _ _ q=>told q
 ·intro x vC vE vI h
  obtain ⟨gC,gE,gI,cC,cE,cI,rfl,rfl,rfl,h1,h2⟩:=h.lists
  exact (encode_any s g c E I gC gE gI cC cE cI x h2 hc h1).mono fun _ _ q=>Sn.writ_of hR hc q
 ·intro x vC vE vI h
  obtain ⟨gC,gE,gI,cC,cE,cI,rfl,rfl,rfl,h1,h2⟩:=h.lists
  exact (refEncode_any s g c E I gC gE gI cC cE cI x h2 (fun y hy=>hck y gC gE gI cC cE cI h1 hy)).mono fun _ _ q=>Sn.writ_of hR hc q
 ·intro x vC vE vI h
  obtain ⟨gC,gE,gI,cC,cE,cI,rfl,rfl,rfl,h1,h2⟩:=h.lists
  exact (snDigest_any s g c E I gC gE gI cC cE cI x h2 hc h1).mono fun _ _ q=>digs q
 ·intro x vC vE vI h
  obtain ⟨gC,gE,gI,cC,cE,cI,rfl,rfl,rfl,h1,h2⟩:=h.lists
  exact (refDigest_any s g c E I gC gE gI cC cE cI x h2 hc (fun y hy=>hck y gC gE gI cC cE cI h1 hy)).mono fun _ _ q=>digs q
 ·intro h0
  subst h0
  exact ⟨rfl,rfl,rfl,hR,if_pos rfl⟩

theorem Sn.shortR_ne (s g:Nat→Int):Sn.shortR s g≠0:=by
 unfold Sn.shortR
 split <;> decide

theorem Sn.seen_short (s g c:Nat→Int) (E I:Nat→Nat→Int) (nC nE nI:Nat) (hb:¬(nC=384∧nE=32∧nI=40)):Sn.Seen s g c E I nC nE nI (Sn.shortR s g) [] 0:=by
 have writ:∀{x:World} {e:Ending} {x':World},Says x (.tuple #[.slice none 0 0,.int .i64 (Sn.shortR s g)]) e x'→Sn.Writ x (Sn.shortR s g) [] e x':=fun h=>by
  obtain ⟨rfl,hg⟩:=h
  exact ⟨none,0,0,rfl,.inl ⟨rfl,rfl⟩,fun q=>absurd q (Sn.shortR_ne s g),hg⟩
 refine ⟨?_,?_,?_,?_,?_,?_,fun h=>absurd h (Sn.shortR_ne s g)⟩ <;> intro x vC vE vI h <;> obtain ⟨aC,cC,rfl⟩:=h.cells.is <;> obtain ⟨aE,cE,rfl⟩:=h.ents.is <;> obtain ⟨aI,cI,rfl⟩:=h.items.is
 ·exact snCheck_short s g nC nE nI cC cE cI aC aE aI x hb
 ·exact refCheck_short s g nC nE nI cC cE cI aC aE aI x hb
 ·exact (snEncode_short s g nC nE nI cC cE cI aC aE aI x hb).mono fun _ _ q=>writ q
 ·exact (refEncode_short s g nC nE nI cC cE cI aC aE aI x hb).mono fun _ _ q=>writ q
 ·exact snDigest_short s g nC nE nI cC cE cI aC aE aI x hb
 ·exact refDigest_short s g nC nE nI cC cE cI aC aE aI x hb

theorem Sn.seen_any (s g c:Nat→Int) (E I:Nat→Nat→Int) (nC nE nI:Nat) (hc:∀i,0≤c i∧c i≤255):∃R l Dg,Sn.Seen s g c E I nC nE nI R l Dg:=by
 by_cases hb:nC=384∧nE=32∧nI=40
 ·obtain ⟨rfl,rfl,rfl⟩:=hb
  exact Sn.seen_full s g c E I hc
 ·exact ⟨_,_,_,Sn.seen_short s g c E I nC nE nI hb⟩

structure Sn.Now (w1 x:World) (T:Nat) (z:Int) (k0 i n5 t:Nat) (s g c:Nat→Int) (E I:Nat→Nat→Int) (vC vE vI:Value) (nC nE nI:Nat):Prop where
 box:Lie x T 31 11 (Sn.wbox s g vC vE vI)
 lis:Sn.Lis x vC vE vI nC nE nI c E I
 byte:∀i,0≤c i∧c i≤255
 seed:s 0=z
 may:Sn.May k0 i n5 nC nE nI
 most:nI≤40+t
 low:w1.heap.size≤T
 grown:w1.grownBy x none

theorem Sn.Now.on {w1 x y:World} {T:Nat} {z:Int} {k0 i n5 t:Nat} {s g c:Nat→Int} {E I:Nat→Nat→Int} {vC vE vI:Value} {nC nE nI:Nat} (h:Sn.Now w1 x T z k0 i n5 t s g c E I vC vE vI nC nE nI) (hg:x.grownBy y none):Sn.Now w1 y T z k0 i n5 t s g c E I vC vE vI nC nE nI :=
 { h with box:=h.box.on hg,lis:=h.lis.on hg,grown:=gtr h.grown hg }

theorem Sn.Li.aside {x:World} {T:Nat} {U:TypeId} {z n:Nat} {v:Value} {F K:Nat→Value} (h:Sn.Li x U z v n F) (hT:Lie x T 31 11 K) (hU:U≠31) (vs:List Value):Sn.Li (x.setCells T 0 vs) U z v n F:=by
 rcases h with h | ⟨g,cap,h1,h4⟩
 ·exact .inl h
 ·exact .inr ⟨g,cap,h1,h4.others (hT.type_ne h4 (fun e=>hU e.symm)) _ _⟩

theorem Sn.Now.over {w1 x y:World} {T:Nat} {z:Int} {k0 i n5 t:Nat} {s g c s' g' c':Nat→Int} {E I E' I':Nat→Nat→Int} {vC vE vI uC uE uI:Value} {nC nE nI mC mE mI:Nat} (h:Sn.Now w1 x T z k0 i n5 t s' g' c' E' I' uC uE uI mC mE mI) (hg:x.grownBy y none) (hl:Sn.Lis y vC vE vI nC nE nI c E I) (h1:∀i,0≤c i∧c i≤255) (h2:s 0=z) (h3:Sn.May k0 i n5 nC nE nI) (h4:nI≤mI+1) (vs:List Value) (hv:vs=(Sn.wide s g vC vE vI).toList):Sn.Now w1 (y.setCells T 0 vs) T z k0 i n5 (t+1) s g c E I vC vE vI nC nE nI:=by
 have hh:=h.on hg
 have hl11:vs.length=11:=by rw [hv];rfl
 have hm:=h.most
 refine ⟨(hh.box.stores 0 vs).congr fun j hj=>?_,⟨hl.cells.aside hh.box (by decide) vs,hl.ents.aside hh.box (by decide) vs,hl.items.aside hh.box (by decide) vs,hl.capE⟩,h1,h2,h3,by omega,hh.low,own_sets hh.low vs 0 y hh.grown⟩
 rw [if_pos (by omega),Nat.sub_zero,hv,Array.getElem?_toList]
 rfl

theorem Sn.Now.nest {w1 x:World} {T:Nat} {z:Int} {k0 i n5 t:Nat} {s g c:Nat→Int} {E I:Nat→Nat→Int} {vC vE vI:Value} {nC nE nI:Nat} (h:Sn.Now w1 (x.setCells T 0 (Sn.wide s g vC vE vI).toList) T z k0 i n5 t s g c E I vC vE vI nC nE nI):Sn.Now w1 (((((((((((x.setCell ⟨T,0,none⟩ (.int .i64 (s 0))).setCell ⟨T,1,none⟩ (.int .i64 (s 1))).setCell ⟨T,2,none⟩ (.int .i64 (s 2))).setCell ⟨T,3,none⟩ (.int .i64 (s 3))).setCell ⟨T,4,none⟩ vC).setCell ⟨T,5,none⟩ vE).setCell ⟨T,6,none⟩ vI).setCell ⟨T,7,none⟩ (.int .i64 (g 0))).setCell ⟨T,8,none⟩ (.int .i64 (g 1))).setCell ⟨T,9,none⟩ (.int .i64 (g 2))).setCell ⟨T,10,none⟩ (.int .i64 (g 3))) T z k0 i n5 t s g c E I vC vE vI nC nE nI:=by
 unfold Sn.wide at h
 simp only [World.setCells,Nat.zero_add,Nat.reduceAdd] at h
 exact h


open Go.RowKit

set_option maxHeartbeats 3200000 in
theorem snTwin_wide (s g c:Nat→Int) (E I:Nat→Nat→Int) (gC gE gI cC cE cI:Nat) (w:World) (hL:Gd.Lists w gC gE gI c E I) :
  Calls Tryz.prog 15 #[.agg (Gd.world s gC gE gI cC cE cI g)] w (Gd.WorldsW w s g c E I):=by
 have hL':=hide hL
 have hbox:=(Arr.world (heap_alloc_new w (.cells (Gd.world s gC gE gI cC cE cI g) 31))).alloc (.cells #[.int .i64 0,.int .i64 0,.int .i64 0,.int .i64 0,.slice none 0 0,.slice none 0 0,.slice none 0 0,.int .i64 0,.int .i64 0,.int .i64 0,.int .i64 0] 31)
 unfold Gd.world at hbox ⊢
 have hres:=Arr.lit (heap_alloc_new (w.alloc (.cells #[.int .i64 (s 0),.int .i64 (s 1),.int .i64 (s 2),.int .i64 (s 3),.slice (some ⟨gC,0,none⟩) 384 cC,.slice (some ⟨gE,0,none⟩) 32 cE,.slice (some ⟨gI,0,none⟩) 40 cI,.int .i64 (g 0),.int .i64 (g 1),.int .i64 (g 2),.int .i64 (g 3)] 31)) (.cells #[.int .i64 0,.int .i64 0,.int .i64 0,.int .i64 0,.slice none 0 0,.slice none 0 0,.slice none 0 0,.int .i64 0,.int .i64 0,.int .i64 0,.int .i64 0] 31))
 have hg0:w.grownBy ((w.alloc (.cells #[.int .i64 (s 0),.int .i64 (s 1),.int .i64 (s 2),.int .i64 (s 3),.slice (some ⟨gC,0,none⟩) 384 cC,.slice (some ⟨gE,0,none⟩) 32 cE,.slice (some ⟨gI,0,none⟩) 40 cI,.int .i64 (g 0),.int .i64 (g 1),.int .i64 (g 2),.int .i64 (g 3)] 31)).alloc (.cells #[.int .i64 0,.int .i64 0,.int .i64 0,.int .i64 0,.slice none 0 0,.slice none 0 0,.slice none 0 0,.int .i64 0,.int .i64 0,.int .i64 0,.int .i64 0] 31)) none:=gal (World.grownBy_alloc _ _ _) _
 rw [show (w.alloc (.cells #[.int .i64 (s 0),.int .i64 (s 1),.int .i64 (s 2),.int .i64 (s 3),.slice (some ⟨gC,0,none⟩) 384 cC,.slice (some ⟨gE,0,none⟩) 32 cE,.slice (some ⟨gI,0,none⟩) 40 cI,.int .i64 (g 0),.int .i64 (g 1),.int .i64 (g 2),.int .i64 (g 3)] 31)).heap.size=w.heap.size+1 by simp] at hres
 clear hL
 go_enter Tryz.func15,Tryz.ntmps15
 go_upto_region 1 with fail
 obtain ⟨w0,hw0⟩:∃w0,(w.alloc (.cells #[.int .i64 (s 0),.int .i64 (s 1),.int .i64 (s 2),.int .i64 (s 3),.slice (some ⟨gC,0,none⟩) 384 cC,.slice (some ⟨gE,0,none⟩) 32 cE,.slice (some ⟨gI,0,none⟩) 40 cI,.int .i64 (g 0),.int .i64 (g 1),.int .i64 (g 2),.int .i64 (g 3)] 31)).alloc (.cells #[.int .i64 0,.int .i64 0,.int .i64 0,.int .i64 0,.slice none 0 0,.slice none 0 0,.slice none 0 0,.int .i64 0,.int .i64 0,.int .i64 0,.int .i64 0] 31)=w0:=⟨_,rfl⟩
 rw [hw0] at hbox hres hg0 ⊢
 obtain ⟨B,hB⟩:∃B,w.heap.size=B:=⟨_,rfl⟩
 rw [hB] at hbox hres ⊢
 have hbox':=hide hbox
 have hres':=hide hres
 have hg0':=hide hg0
 have hB':=hide hB
 have keep:Hid (∀y,Hid (w0.grownBy y none)→(y.cell? ⟨B,4,none⟩=some (.slice (some ⟨gC,0,none⟩) 384 cC)∧y.cell? ⟨B,5,none⟩=some (.slice (some ⟨gE,0,none⟩) 32 cE)∧y.cell? ⟨B,6,none⟩=some (.slice (some ⟨gI,0,none⟩) 40 cI))∧y.frozen? ⟨B,4,none⟩=false∧y.frozen? ⟨B,5,none⟩=false∧y.frozen? ⟨B,6,none⟩=false):=fun y hy=>by
  have h:=(uh hbox').grown (uh hy) (by simp)
  exact ⟨⟨h.cell (i:=4) (by omega),h.cell (i:=5) (by omega),h.cell (i:=6) (by omega)⟩,h.free 4,h.free 5,h.free 6⟩
 have hd:Hid (w0.grownBy w0.drew none):=gd1 (World.grownBy.refl _ _)
 have rd:Hid (∀y,Hid (w0.grownBy y none)→Gd.Lists y gC gE gI c E I):=fun y hy=>(uh hL').on (gtr (uh hg0') (uh hy))
 have c1:Hid (∀y,Hid (w0.grownBy y none)→Calls Tryz.prog 33 #[.slice (some ⟨gC,0,none⟩) 384 cC] y fun e w'=>∃g1,e=.returned (.slice (some ⟨g1,0,none⟩) 384 384)∧Hid (y.heap.size≤g1)∧Hid (Lie w' g1 5 384 (Byts c))∧Hid (y.grownBy w' none)∧Hid (w0.grownBy w' none)):=fun y hy =>
  (snTwinB_any gC 0 384 384 cC (Byts c) y (by omega) (by omega) (fun _=>rfl) (fun j hj=>by rw [Nat.zero_add];exact (uh rd y hy).read.1 j hj) (uh rd y hy).cells.lt).mono fun e w' ⟨g1,h1,h2,h3,h4⟩=>⟨g1,h1,h2,h3.lie,h4,gtr (uh hy) h4⟩
 have c2:Hid (∀y,Hid (w0.grownBy y none)→Calls Tryz.prog 34 #[.slice (some ⟨gE,0,none⟩) 32 cE] y fun e w'=>∃g1,e=.returned (.slice (some ⟨g1,0,none⟩) 32 32)∧Hid (y.heap.size≤g1)∧Hid (Lie w' g1 61 352 (En.flat E))∧Hid (y.grownBy w' none)∧Hid (w0.grownBy w' none)):=fun y hy =>
  (snTwinE_any gE 0 32 352 cE (En.flat E) y (by omega) (by omega) (fun _=>rfl) (fun j hj=>by rw [Nat.zero_add];exact (uh rd y hy).read.2.1 j hj) (uh rd y hy).ents.lt).mono fun e w' ⟨g1,h1,h2,h3,h4⟩=>⟨g1,h1,h2,h3.lie,h4,gtr (uh hy) h4⟩
 have c3:Hid (∀y,Hid (w0.grownBy y none)→Calls Tryz.prog 35 #[.slice (some ⟨gI,0,none⟩) 40 cI] y fun e w'=>∃g1,e=.returned (.slice (some ⟨g1,0,none⟩) 40 40)∧Hid (y.heap.size≤g1)∧Hid (Lie w' g1 63 160 (Gd.flat I))∧Hid (y.grownBy w' none)∧Hid (w0.grownBy w' none)):=fun y hy =>
  (snTwinI_any gI 0 40 160 cI (Gd.flat I) y (by omega) (by omega) (fun _=>rfl) (fun j hj=>by rw [Nat.zero_add];exact (uh rd y hy).read.2.2 j hj) (uh rd y hy).items.lt).mono fun e w' ⟨g1,h1,h2,h3,h4⟩=>⟨g1,h1,h2,h3.lie,h4,gtr (uh hy) h4⟩
 obtain ⟨⟨q4,q5,q6⟩,r4,r5,r6⟩:=uh keep w0 (World.grownBy.refl _ _)
 clear hbox hres hg0 hw0 hB
 go_cut [] from 3 (fun wx=>∃g1 g2 g3,Hid (Gd.Hold wx B g1 g2 g3 384 32 40 s g c E I∧B+2≤g1∧B+2≤g2∧B+2≤g3∧Arr wx (B+1) 31 11 (fun j=>#[.int .i64 0,.int .i64 0,.int .i64 0,.int .i64 0,.slice none 0 0,.slice none 0 0,.slice none 0 0,.int .i64 0,.int .i64 0,.int .i64 0,Value.int .i64 0][j]?.getD undef)∧w.grownBy wx none))
 case first =>
  go_region_with (first | (go_at_call 33;refine (uh c1 _ hd).mono ?_;rintro e w1 ⟨g1,rfl,l1,a1,n1,n01⟩;obtain ⟨⟨z4,z5,z6⟩,f4,f5,f6⟩:=uh keep w1 n01) | (go_at_call 34;refine (uh c2 _ n01).mono ?_;rintro e w2 ⟨g2,rfl,l2,a2,n2,n02⟩;obtain ⟨⟨z4,z5,z6⟩,f4,f5,f6⟩:=uh keep w2 n02) | (go_at_call 35;refine (uh c3 _ n02).mono ?_;rintro e w3 ⟨g3,rfl,l3,a3,n3,n03⟩;obtain ⟨⟨z4,z5,z6⟩,f4,f5,f6⟩:=uh keep w3 n03))
  all_goals
   go_wp2_with fail
   go_meet
   exact ⟨g1,g2,g3,Gd.apart_hold (uh hbox') (uh hres') (uh hg0') (uh hB') (uh hd) (uh l1) (uh a1) (uh n1) (uh l2) (uh a2) (uh n2) (uh l3) (uh a3) (uh n3)⟩
 case rest =>
  obtain ⟨g1,g2,g3,hr⟩:=hcut
  clear keep hd rd c1 c2 c3 q4 q5 q6 r4 r5 r6 hbox' hres' hg0' hL'
  obtain ⟨b0,b1,b2,b3,b4,b5,b6,b7,b8,b9,b10⟩:=(uh hr).1.box.eleven
  have fz:=(uh hr).2.2.2.2.1.free
  have zc:=fun j (hj:j<11)=>(uh hr).2.2.2.2.1.cell (i:=j) hj
  have z0:=zc 0 (by omega)
  have z1:=zc 1 (by omega)
  have z2:=zc 2 (by omega)
  have z3:=zc 3 (by omega)
  have z4:=zc 4 (by omega)
  have z5:=zc 5 (by omega)
  have z6:=zc 6 (by omega)
  have z7:=zc 7 (by omega)
  have z8:=zc 8 (by omega)
  have z9:=zc 9 (by omega)
  have z10:=zc 10 (by omega)
  simp only [List.getElem?_toArray,List.getElem?_cons_zero,List.getElem?_cons_succ,Option.getD_some] at z0 z1 z2 z3 z4 z5 z6 z7 z8 z9 z10
  have hfin:Hid (∀vs:List Value,Gd.Lists (wc.setCells (B+1) 0 vs) g1 g2 g3 c E I∧w.grownBy (wc.setCells (B+1) 0 vs) none):=fun vs=>by
   obtain ⟨hH,h1,h2,h3,hA,hg⟩:=uh hr
   have hB:=uh hB'
   have r:=gss (g:=B+1) vs 0 wc (World.grownBy.refl _ _)
   exact ⟨⟨hH.lists.cells.grown r (by simp;omega),hH.lists.ents.grown r (by simp;omega),hH.lists.items.grown r (by simp;omega)⟩,own_sets (by omega) vs 0 wc hg⟩
  clear zc
  go_wp2
  refine bodyPost_ret (v:=.agg (Gd.world s g1 g2 g3 384 32 40 g)) (by simp [results,Tryz.results15,go_sem,Gd.world,z0,z1,z2,z3,z4,z5,z6,z7,z8,z9,z10]) rfl ?_
  obtain ⟨hH,h1,h2,h3,_,_⟩:=uh hr
  have hB:=uh hB'
  exact ⟨g1,g2,g3,384,32,40,rfl,⟨Nat.le_refl _,Nat.le_refl _⟩,by omega,by omega,by omega,hH.cE,hH.cI,hH.eI,(uh hfin [_,_,_,_,_,_,_,_,_,_,_]).1,(uh hfin [_,_,_,_,_,_,_,_,_,_,_]).2⟩

theorem snTwin_any (s g c:Nat→Int) (E I:Nat→Nat→Int) (gC gE gI cC cE cI:Nat) (w:World) (hL:Gd.Lists w gC gE gI c E I) :
  Calls Tryz.prog 15 #[.agg (Gd.world s gC gE gI cC cE cI g)] w (Gd.Worlds w s g c E I) :=
 (snTwin_wide s g c E I gC gE gI cC cE cI w hL).mono fun _ _ h=>h.weak


open Go.RowKit

theorem Sn.sameW_yes (s g c:Nat→Int) (E I:Nat→Nat→Int):Sn.sameW s s g g c c E E I I=true:=by
 unfold Sn.sameW
 rw [(Sn.sameH_iff s s g g).2 ⟨fun _ _=>rfl,fun _ _=>rfl⟩,Sn.allB_yes (fun k _=>by simp),Sn.allB_yes (fun k _=>(Sn.sameE_iff _ _).2 fun _ _=>rfl),Sn.allB_yes (fun k _=>(Sn.sameI_iff _ _).2 fun _ _=>rfl)]
 rfl

theorem Sn.flat_at {m:Nat}:∀(L:List (List Value)),(∀cs∈L,cs.length=m)→∀(k j:Nat) (cs:List Value),L[k]?=some cs→j<m→L.flatten[k*m+j]?=cs[j]?
 | [],_,k,j,cs,h,_=>by simp at h
 | a :: L,hL,k,j,cs,h,hj=>by
  have ha:a.length=m:=hL a (by simp)
  cases k with
  | zero =>
   simp at h
   subst h
   rw [Nat.zero_mul,Nat.zero_add,List.flatten_cons,List.getElem?_append_left (by omega)]
  | succ k =>
   have h':L[k]?=some cs:=by simpa using h
   rw [List.flatten_cons,List.getElem?_append_right (by rw [ha,Nat.succ_mul];omega),show (k+1)*m+j - a.length=k*m+j by rw [ha,Nat.succ_mul];omega]
   exact Sn.flat_at L (fun c hc=>hL c (by simp [hc])) k j cs h' hj

theorem Sn.Book.at {w x:World} {base:Nat} {v:Value} {seed:Int} {L:List (List Value)} (h:Sn.Book w x base v seed L) {k:Nat} (hk:k<L.length) :
  ∃q cap,v=.slice (some ⟨q,0,none⟩) L.length cap∧base≤q∧L.length≤cap∧∃(S:Cr.W) (gC gE gI cC cE cI:Nat),(∀j,j<11→x.cell? ⟨q,k*11+j,none⟩=some (Gd.box S.s gC gE gI cC cE cI S.g j))∧Gd.Lists x gC gE gI S.c S.E S.I∧32≤cE∧Cr.Good S∧S.s 0=seed∧S.s 1=(k:Int):=by
 obtain ⟨hlen,hv⟩:=h.own
 rcases hv with ⟨-,h0⟩ | ⟨q,cap,cur,rfl,hb,hq,hcap,hm,hs,ht⟩
 ·omega
 obtain ⟨cs,hcs⟩:∃cs,L[k]?=some cs:=⟨_,List.getElem?_eq_getElem hk⟩
 have hp:=h.page k cs hcs
 obtain ⟨S,gC,gE,gI,cC,cE,cI,rfl,hL,h1,h2,h3,h4⟩:=hp
 refine ⟨q,cap,rfl,hb,hcap,S,gC,gE,gI,cC,cE,cI,fun j hj=>?_,hL,h1,h2,h3,h4⟩
 have hall:∀cs∈L,cs.length=11:=fun cs hc=>by
  obtain ⟨i,hi⟩:=List.getElem?_of_mem hc
  exact (h.page i cs hi).len
 have hf:=Sn.flat_at L hall k j _ hcs hj
 have he:(Gd.world S.s gC gE gI cC cE cI S.g).toList[j]?=some (Gd.box S.s gC gE gI cC cE cI S.g j):=by
  rcases (show j=0∨j=1∨j=2∨j=3∨j=4∨j=5∨j=6∨j=7∨j=8∨j=9∨j=10 by omega) with rfl | rfl | rfl | rfl | rfl | rfl | rfl | rfl | rfl | rfl | rfl <;> rfl
 rw [he] at hf
 have:=h.own.cells (g:=q) rfl (k*11+j) _ hf
 rwa [Go.WideShapes.add_plain,Nat.zero_add] at this

end Go.Proofs.YtepppmepilffcaaGreat
