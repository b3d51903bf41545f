import Derived.Test.YtapgkgbpekkdjaaPart41
import Derived.Test.YtapgkgbpekkdjaaPart44
namespace Go.Proofs.Ytapgkgbpekkdjaa
open Go.RowKit

theorem info_snrow:(Try.prog.info? 76).map (fun i=>(i.zero,i.size,i.bytes))=some (some .nilIface,1,16):=by kernel_rfl

def Sn.hdV (s g:Nat→Int):Value:=.iface 79 (.agg #[.int .i64 (s 0),.int .i64 (s 1),.int .i64 (s 2),.int .i64 (s 3),.int .i64 (g 0),.int .i64 (g 1),.int .i64 (g 2),.int .i64 (g 3)])
def Sn.clV (G:Nat):Value:=.iface 107 (.slice (some ⟨G,0,none⟩) 384 384)
def Sn.enV (n:Nat) (e:Nat→Int):Value:=.iface 110 (.agg #[.int .i64 (n:Int),.int .i64 (e 0),.int .i64 (e 1),.int .i64 (e 2),.int .i64 (e 3),.int .i64 (e 4),.int .i64 (e 5),.int .i64 (e 6),.int .i64 (e 7),.int .i64 (e 8),.int .i64 (e 9),.int .i64 (e 10)])
def Sn.itV (n:Nat) (e:Nat→Int):Value:=.iface 112 (.agg #[.int .i64 (n:Int),.int .i64 (e 0),.int .i64 (e 1),.int .i64 (e 2),.int .i64 (e 3)])

def Sn.chH (s t g h:Nat→Int):List Value:=if Sn.sameH s t g h=true then [] else [Sn.hdV s g]
def Sn.chC (b:Bool) (G:Nat):List Value:=if b=true then [] else [Sn.clV G]
def Sn.chE (E F:Nat→Nat→Int):Nat→List Value
 | 0=>[]
 | k+1=>Sn.chE E F k ++ if Sn.sameE (E k) (F k)=true then [] else [Sn.enV k (E k)]
def Sn.chI (E F:Nat→Nat→Int):Nat→List Value
 | 0=>[]
 | k+1=>Sn.chI E F k ++ if Sn.sameI (E k) (F k)=true then [] else [Sn.itV k (E k)]

theorem Sn.chH_len (s t g h:Nat→Int):(Sn.chH s t g h).length≤1:=by unfold Sn.chH;split <;> simp
theorem Sn.chC_len (b:Bool) (G:Nat):(Sn.chC b G).length≤1:=by unfold Sn.chC;split <;> simp
theorem Sn.chE_len (E F:Nat→Nat→Int):∀k,(Sn.chE E F k).length≤k
 | 0=>Nat.le_refl _
 | k+1=>by
  have:=Sn.chE_len E F k
  unfold Sn.chE
  rw [List.length_append]
  split <;> simp <;> omega
theorem Sn.chI_len (E F:Nat→Nat→Int):∀k,(Sn.chI E F k).length≤k
 | 0=>Nat.le_refl _
 | k+1=>by
  have:=Sn.chI_len E F k
  unfold Sn.chI
  rw [List.length_append]
  split <;> simp <;> omega

structure Sn.Ch (w x:World) (base:Nat) (v:Value) (l:List Value) (b:Bool) (G:Nat) (c:Nat→Int):Prop where
 own:x.ownsRow base 76 1 v l.length l
 bel:Below base w x
 cel:b=false→base≤G∧Lie x G 5 384 (Byts c)

theorem Sn.Ch.top {w x:World} {base:Nat} {v:Value} {l:List Value} {b:Bool} {G:Nat} {c:Nat→Int} (h:Sn.Ch w x base v l b G c) (hb:base≤w.heap.size):base≤x.heap.size:=Nat.le_trans hb h.bel.size

theorem Sn.Ch.on {w x y:World} {base:Nat} {v:Value} {l:List Value} {b:Bool} {G:Nat} {c:Nat→Int} (h:Sn.Ch w x base v l b G c) (hb:base≤w.heap.size) (hg:x.grownBy y none):Sn.Ch w y base v l b G c :=
 ⟨h.own.kept hg (by cases v.ownBlock <;> simp),h.bel.trans (Sn.below hg (fun k e=>by cases e) (h.top hb)),fun q=>⟨(h.cel q).1,(h.cel q).2.on hg⟩⟩

theorem Sn.Ch.apart {w x:World} {base:Nat} {v:Value} {l:List Value} {b:Bool} {G:Nat} {c:Nat→Int} (h:Sn.Ch w x base v l b G c) (q:b=false):v.ownBlock≠some G:=by
 intro e
 obtain ⟨_,_,⟨c1,e1,_⟩,_⟩:=(h.cel q).2
 rcases h.own.2 with ⟨rfl,_⟩ | ⟨g,cap,cur,rfl,_,hg,_⟩
 ·simp [Value.ownBlock] at e
 ·simp [Value.ownBlock] at e
  subst e
  rw [e1] at hg
  simp only [Option.some.injEq,Obj.cells.injEq] at hg
  exact absurd hg.2.1 (by decide)

theorem Sn.Ch.more {w x y x':World} {base:Nat} {v v' u:Value} {l:List Value} {b:Bool} {G:Nat} {c:Nat→Int} (h:Sn.Ch w x base v l b G c) (hb:base≤w.heap.size) (hxy:x.grownBy y none) (hown:x'.ownsRow base 76 1 v' (l.length+1) (l ++ [u])) (hg:y.grownBy x' v.ownBlock):Sn.Ch w x' base v' (l ++ [u]) b G c:=by
 refine ⟨by rw [List.length_append];exact hown,?_,fun q=>⟨(h.cel q).1,((h.cel q).2.on hxy).grown hg (h.apart q)⟩⟩
 have hb1:Below base x y:=Sn.below hxy (fun k e=>by cases e) (h.top hb)
 have hb2:=Sn.below hg (fun k e=>(h.own.lt k e).1) (Nat.le_trans (h.top hb) hb1.size)
 exact h.bel.trans (hb1.trans hb2)

def Sn.Changes (w:World) (s t g h c d:Nat→Int) (E F I J:Nat→Nat→Int) (e:Ending) (w':World):Prop :=
 ∃G v base,e=.returned v∧w.heap.size≤base∧w'.ownsRow base 76 1 v (Sn.chH s t g h ++ Sn.chC (Sn.allB (fun i=>c i == d i) 384) G ++ Sn.chE E F 32 ++ Sn.chI I J 40).length (Sn.chH s t g h ++ Sn.chC (Sn.allB (fun i=>c i == d i) 384) G ++ Sn.chE E F 32 ++ Sn.chI I J 40)∧(Sn.allB (fun i=>c i == d i) 384=false→w.heap.size≤G∧Lie w' G 5 384 (Byts c))∧w.grownBy w' none

theorem run_ne_head (s t g h:Nat→Int) (w:World):(binOp .neq 79 (.agg #[.int .i64 (s 0),.int .i64 (s 1),.int .i64 (s 2),.int .i64 (s 3),.int .i64 (g 0),.int .i64 (g 1),.int .i64 (g 2),.int .i64 (g 3)]) (.agg #[.int .i64 (t 0),.int .i64 (t 1),.int .i64 (t 2),.int .i64 (t 3),.int .i64 (h 0),.int .i64 (h 1),.int .i64 (h 2),.int .i64 (h 3)])).run Try.prog w=.ok (.bool (!Sn.sameH s t g h)) w:=by
 have hg:=fun d w=>run_equal_gold d g h w
 unfold Sn.sameH
 generalize Sn.sameG g h=q at hg ⊢
 by_cases h0:s 0=t 0
 ·by_cases h1:s 1=t 1
  ·by_cases h2:s 2=t 2
   ·by_cases h3:s 3=t 3
    ·simp [go_sem,h0,h1,h2,h3,hg]
     cases q <;> rfl
    ·simp [go_sem,h0,h1,h2,h3]
   ·simp [go_sem,h0,h1,h2]
  ·simp [go_sem,h0,h1]
 ·simp [go_sem,h0]

set_option maxRecDepth 16000 in
set_option maxHeartbeats 12800000 in
theorem changed_any (s t g h c d:Nat→Int) (E F I J:Nat→Nat→Int) (gC gE gI cC cE cI jC jE jI dC dE dI:Nat) (w:World) (hL:Gd.Lists w gC gE gI c E I) (hL2:Gd.Lists w jC jE jI d F J) :
  Calls Try.prog 37 #[.agg (Gd.world s gC gE gI cC cE cI g),.agg (Gd.world t jC jE jI dC dE dI h)] w (Sn.Changes w s t g h c d E F I J):=by
 obtain ⟨W0,hW⟩:∃W,W=(w.alloc (.cells (Gd.world s gC gE gI cC cE cI g) 29)).alloc (.cells (Gd.world t jC jE jI dC dE dI h) 29):=⟨_,rfl⟩
 have hg:w.grownBy W0 none:=by rw [hW];exact gal (World.grownBy_alloc _ _ _) _
 have x1:Lie W0 w.heap.size 29 11 (Gd.box s gC gE gI cC cE cI g):=by
  rw [hW]
  exact ((Arr.world (heap_alloc_new w _)).alloc _).lie
 have x2:Lie W0 (w.heap.size+1) 29 11 (Gd.box t jC jE jI dC dE dI h):=by
  rw [hW]
  have hh:=heap_alloc_new (w.alloc (.cells (Gd.world s gC gE gI cC cE cI g) 29)) (.cells (Gd.world t jC jE jI dC dE dI h) 29)
  rw [show (w.alloc (.cells (Gd.world s gC gE gI cC cE cI g) 29)).heap.size=w.heap.size+1 by simp] at hh
  exact (Arr.world hh).lie
 obtain ⟨B,hB⟩:∃B,w.heap.size=B:=⟨_,rfl⟩
 obtain ⟨base,hbase⟩:∃base,W0.heap.size=base:=⟨_,rfl⟩
 have HB0:Hid (base≤W0.heap.size):=(show base≤W0.heap.size by omega)
 have HB:Hid (w.heap.size=B∧B+2=base):=⟨hB,by rw [←hbase,hW,←hB];simp⟩
 rw [hB] at x1 x2
 have lC:=hide (And.intro hL.cells.lt (And.intro hL.ents.lt (And.intro hL.items.lt (And.intro hL2.cells.lt (And.intro hL2.ents.lt hL2.items.lt)))))
 have hbx:Hid (∀x,Below base W0 x→Lie x B 29 11 (Gd.box s gC gE gI cC cE cI g)∧Lie x (B+1) 29 11 (Gd.box t jC jE jI dC dE dI h)∧Gd.Lists x gC gE gI c E I∧Gd.Lists x jC jE jI d F J):=fun x hx=>by
  obtain ⟨e1,e2⟩:=uh HB
  obtain ⟨l1,l2,l3,l4,l5,l6⟩:=uh lC
  exact ⟨x1.below hx (by omega),x2.below hx (by omega),(hL.on hg).below hx (by omega) (by omega) (by omega),(hL2.on hg).below hx (by omega) (by omega) (by omega)⟩
 have hg':=hide hg
 have hcmp:=fun wx=>run_ne_head s t g h wx
 obtain ⟨k0,e0⟩:∃k,Sn.sameH s t g h=k:=⟨_,rfl⟩
 obtain ⟨k1,e1⟩:∃k,Sn.allB (fun i=>c i == d i) 384=k:=⟨_,rfl⟩
 obtain ⟨LH,hLH⟩:∃L,Sn.chH s t g h=L:=⟨_,rfl⟩
 have hLH0:Hid (k0=true→LH=[]):=fun q=>by rw [←hLH];unfold Sn.chH;rw [e0,if_pos q]
 have hLH1:Hid (k0=false→LH=[Sn.hdV s g]):=fun q=>by rw [←hLH];unfold Sn.chH;rw [e0,if_neg (by simp [q])]
 have hLHl:Hid (LH.length≤1):=by rw [←hLH];exact Sn.chH_len s t g h
 have hpost:Hid (∀G v x,Sn.Ch W0 x base v (LH ++ Sn.chC k1 G ++ Sn.chE E F 32 ++ Sn.chI I J 40) k1 G c→Sn.Changes w s t g h c d E F I J (.returned v) x):=fun G v x hx=>by
  obtain ⟨f1,f2⟩:=uh HB
  refine ⟨G,v,base,rfl,by omega,?_,fun q=>?_,?_⟩
  ·rw [hLH,e1]
   exact hx.own
  ·rw [e1] at q
   exact ⟨by have:=(hx.cel q).1;omega,(hx.cel q).2⟩
  ·exact below_grown (Sn.below_trans (none_below (uh hg')) (hx.bel.mono (by omega)))
 have cQ:Hid (∀z,Below base W0 z→Calls Try.prog 40 #[.slice (some ⟨gC,0,none⟩) 384 cC,.slice (some ⟨jC,0,none⟩) 384 dC] z (Says z (.bool k1))):=fun z hz=>by
  rw [←e1]
  exact snEqualB_any gC jC cC dC c d z (uh hbx z hz).2.2.1.cells (uh hbx z hz).2.2.2.cells
 obtain ⟨D,hD⟩:∃D,Sn.Changes w s t g h c d E F I J=D:=⟨_,rfl⟩
 rw [hD] at hpost ⊢
 rw [e0] at hcmp
 have cTw:=hide (fun z (hz:Below base W0 z)=>snTwinB_any gC 0 384 384 cC (Byts c) z (by omega) (by omega) (fun _=>rfl) (fun k hk=>by rw [Nat.zero_add];exact (uh hbx z hz).2.2.1.cells.cell hk) (uh hbx z hz).2.2.1.cells.lt)
 obtain ⟨i0,hi,hz0,hz1,hz2⟩:=info_parts info_snrow
 have hX0:Hid (Sn.Ch W0 W0 base (.slice none 0 0) [] true 0 c):=⟨World.ownsRow_nil _ _ _ _,Below.refl _ _,fun q=>absurd q (by simp)⟩
 clear hL hL2 hg x1 x2 e0 e1 hLH hD lC
 unfold Gd.world at hW ⊢
 go_enter Try.func37,Try.ntmps37
 go_upto_region 2 with fail
 rw [←hW]
 clear hW hB hbase
 go_cut [12] from 8 to 11 (fun v12 wx=>v12=.bool (!k0)∧Hid (Sn.Ch W0 wx base (.slice none 0 0) [] true 0 c))
 case first =>
  refine wp_region_grown (by kernel_rfl) (by kernel_rfl) ?_
  intro St hN W hI hx
  have p0:∀σ,(W σ).cell? ⟨B,0,none⟩=some (.int .i64 (s 0)):=fun σ=>((uh hbx _ (uh hX0).bel).1.on (hI σ)).eleven.1
  have q0:∀σ,(W σ).cell? ⟨B+1,0,none⟩=some (.int .i64 (t 0)):=fun σ=>((uh hbx _ (uh hX0).bel).2.1.on (hI σ)).eleven.1
  have p1:∀σ,(W σ).cell? ⟨B,1,none⟩=some (.int .i64 (s 1)):=fun σ=>((uh hbx _ (uh hX0).bel).1.on (hI σ)).eleven.2.1
  have q1:∀σ,(W σ).cell? ⟨B+1,1,none⟩=some (.int .i64 (t 1)):=fun σ=>((uh hbx _ (uh hX0).bel).2.1.on (hI σ)).eleven.2.1
  have p2:∀σ,(W σ).cell? ⟨B,2,none⟩=some (.int .i64 (s 2)):=fun σ=>((uh hbx _ (uh hX0).bel).1.on (hI σ)).eleven.2.2.1
  have q2:∀σ,(W σ).cell? ⟨B+1,2,none⟩=some (.int .i64 (t 2)):=fun σ=>((uh hbx _ (uh hX0).bel).2.1.on (hI σ)).eleven.2.2.1
  have p3:∀σ,(W σ).cell? ⟨B,3,none⟩=some (.int .i64 (s 3)):=fun σ=>((uh hbx _ (uh hX0).bel).1.on (hI σ)).eleven.2.2.2.1
  have q3:∀σ,(W σ).cell? ⟨B+1,3,none⟩=some (.int .i64 (t 3)):=fun σ=>((uh hbx _ (uh hX0).bel).2.1.on (hI σ)).eleven.2.2.2.1
  have p4:∀σ,(W σ).cell? ⟨B,4,none⟩=some (.slice (some ⟨gC,0,none⟩) 384 cC):=fun σ=>((uh hbx _ (uh hX0).bel).1.on (hI σ)).eleven.2.2.2.2.1
  have q4:∀σ,(W σ).cell? ⟨B+1,4,none⟩=some (.slice (some ⟨jC,0,none⟩) 384 dC):=fun σ=>((uh hbx _ (uh hX0).bel).2.1.on (hI σ)).eleven.2.2.2.2.1
  have p5:∀σ,(W σ).cell? ⟨B,5,none⟩=some (.slice (some ⟨gE,0,none⟩) 32 cE):=fun σ=>((uh hbx _ (uh hX0).bel).1.on (hI σ)).eleven.2.2.2.2.2.1
  have q5:∀σ,(W σ).cell? ⟨B+1,5,none⟩=some (.slice (some ⟨jE,0,none⟩) 32 dE):=fun σ=>((uh hbx _ (uh hX0).bel).2.1.on (hI σ)).eleven.2.2.2.2.2.1
  have p6:∀σ,(W σ).cell? ⟨B,6,none⟩=some (.slice (some ⟨gI,0,none⟩) 40 cI):=fun σ=>((uh hbx _ (uh hX0).bel).1.on (hI σ)).eleven.2.2.2.2.2.2.1
  have q6:∀σ,(W σ).cell? ⟨B+1,6,none⟩=some (.slice (some ⟨jI,0,none⟩) 40 dI):=fun σ=>((uh hbx _ (uh hX0).bel).2.1.on (hI σ)).eleven.2.2.2.2.2.2.1
  have p7:∀σ,(W σ).cell? ⟨B,7,none⟩=some (.int .i64 (g 0)):=fun σ=>((uh hbx _ (uh hX0).bel).1.on (hI σ)).eleven.2.2.2.2.2.2.2.1
  have q7:∀σ,(W σ).cell? ⟨B+1,7,none⟩=some (.int .i64 (h 0)):=fun σ=>((uh hbx _ (uh hX0).bel).2.1.on (hI σ)).eleven.2.2.2.2.2.2.2.1
  have p8:∀σ,(W σ).cell? ⟨B,8,none⟩=some (.int .i64 (g 1)):=fun σ=>((uh hbx _ (uh hX0).bel).1.on (hI σ)).eleven.2.2.2.2.2.2.2.2.1
  have q8:∀σ,(W σ).cell? ⟨B+1,8,none⟩=some (.int .i64 (h 1)):=fun σ=>((uh hbx _ (uh hX0).bel).2.1.on (hI σ)).eleven.2.2.2.2.2.2.2.2.1
  have p9:∀σ,(W σ).cell? ⟨B,9,none⟩=some (.int .i64 (g 2)):=fun σ=>((uh hbx _ (uh hX0).bel).1.on (hI σ)).eleven.2.2.2.2.2.2.2.2.2.1
  have q9:∀σ,(W σ).cell? ⟨B+1,9,none⟩=some (.int .i64 (h 2)):=fun σ=>((uh hbx _ (uh hX0).bel).2.1.on (hI σ)).eleven.2.2.2.2.2.2.2.2.2.1
  have p10:∀σ,(W σ).cell? ⟨B,10,none⟩=some (.int .i64 (g 3)):=fun σ=>((uh hbx _ (uh hX0).bel).1.on (hI σ)).eleven.2.2.2.2.2.2.2.2.2.2
  have q10:∀σ,(W σ).cell? ⟨B+1,10,none⟩=some (.int .i64 (h 3)):=fun σ=>((uh hbx _ (uh hX0).bel).2.1.on (hI σ)).eleven.2.2.2.2.2.2.2.2.2.2
  have f0:∀(s g:Nat→Int) (nC nE nI cC cE cI:Nat) (aC aE aI:Option Addr) σ,Calls Try.prog 39 #[.agg #[.int .i64 (s 0),.int .i64 (s 1),.int .i64 (s 2),.int .i64 (s 3),.slice aC nC cC,.slice aE nE cE,.slice aI nI cI,.int .i64 (g 0),.int .i64 (g 1),.int .i64 (g 2),.int .i64 (g 3)]] (W σ) fun e w''=>e=.returned (.agg #[.int .i64 (s 0),.int .i64 (s 1),.int .i64 (s 2),.int .i64 (s 3),.int .i64 (g 0),.int .i64 (g 1),.int .i64 (g 2),.int .i64 (g 3)])∧∃σ',w''=W σ':=fun s g nC nE nI cC cE cI aC aE aI σ=>calls_class hI hx (headOf_any s g nC nE nI cC cE cI aC aE aI _)
  have hI2:=hide hI
  clear hx hI
  repeat (go_big_quiet_step (first | (go_at_call 39;exact f0 _ _ _ _ _ _ _ _ _ _ _ _)))
  refine wpQuiet_nil ?_
  rintro _ ⟨σ,rfl⟩
  have hX1:=hide ((uh hX0).on (uh HB0) (uh hI2 σ))
  obtain ⟨wq,hwq⟩:∃wq,W σ=wq:=⟨_,rfl⟩
  rw [hwq] at hX1 ⊢
  clear p0 p1 p2 p3 p4 p5 p6 p7 p8 p9 p10 q0 q1 q2 q3 q4 q5 q6 q7 q8 q9 q10 f0 hcmp hI2 hwq
  clear σ W hN St
  go_wp2_with fail
  go_meet
  exact ⟨rfl,hX1⟩
 case rest =>
 obtain ⟨rfl,hX1⟩:=hcut
 clear hX0 hcmp
 go_upto_if 12 with fail
 go_cut [5] from 12 to 18 (fun v5 wx=>Hid (Sn.Ch W0 wx base v5 LH true 0 c))
 case first =>
  cases k0 with
  | true =>
   have hX2:Hid (Sn.Ch W0 wc base (.slice none 0 0) LH true 0 c):=by
    rw [uh hLH0 rfl]
    exact hX1
   go_wp2
   go_meet
   exact hX2
  | false =>
   have hLe:=hide (uh hLH1 rfl)
   obtain ⟨b0,b1,b2,b3,b4,b5,b6,b7,b8,b9,b10⟩:=(uh hbx _ (uh hX1).bel).1.eleven
   have ch:=hide (fun z=>headOf_any s g 384 32 40 cC cE cI (some ⟨gC,0,none⟩) (some ⟨gE,0,none⟩) (some ⟨gI,0,none⟩) z)
   go_wp2_with fail
   refine (uh ch _).mono ?_
   rintro e w3 ⟨rfl,hg3⟩
   have hX2:=hide ((uh hX1).on (uh HB0) hg3)
   clear hg3 hX1 ch b0 b1 b2 b3 b4 b5 b6 b7 b8 b9 b10
   go_wp2_with (at_builtin;refine wpList_append_own _ rfl _ _ 73 rfl base 76 i0 .nilIface 1 16 Try.underlying73 hi hz0 hz1 hz2 rfl (by decide) _ _ _ rfl ((uh hX2).own.alloc _) ⟨w3.heap.size,0,none⟩ 1 1 [Sn.hdV s g] rfl rfl (Sn.news w3 #[Sn.hdV s g] _ _ rfl) ?_ ?_ ?_ ?_ ?_)
   ·intro u hu;simp at hu;subst hu;rfl
   ·unfold maxLen;simp
   ·simp
   ·have:=(uh hX2).top (uh HB0);simp;omega
   intro v4 w4 hown hgrow _
   have hX3:Hid (Sn.Ch W0 w4 base v4 LH true 0 c):=by
    rw [uh hLe]
    exact (uh hX2).more (uh HB0) (World.grownBy_alloc _ _ _) hown hgrow
   clear hown hgrow hX2
   go_wp2
   go_meet
   exact hX3
 case rest =>
 have hX2:Hid (Sn.Ch W0 wc base u5 LH true 0 c):=hcut
 clear hcut hX1 hLH0 hLH1
 have b4:=(uh hbx _ (uh hX2).bel).1.eleven.2.2.2.2.1
 have d4:=(uh hbx _ (uh hX2).bel).2.1.eleven.2.2.2.2.1
 go_wp2_with fail
 refine (uh cQ _ (uh hX2).bel).mono ?_
 rintro e w3 ⟨rfl,hg3⟩
 have hX3:=hide ((uh hX2).on (uh HB0) hg3)
 clear hg3 hX2 b4 d4 cQ
 go_upto_if 24 with fail
 go_cut [5] from 24 to 31 (fun v5 wx=>∃G,Hid (Sn.Ch W0 wx base v5 (LH ++ Sn.chC k1 G) k1 G c))
 case first =>
  cases k1 with
  | true =>
   have hX4:Hid (Sn.Ch W0 w3 base u5 (LH ++ Sn.chC true 0) true 0 c):=by
    show Sn.Ch _ _ _ _ (LH ++ []) _ _ _
    rw [List.append_nil]
    exact hX3
   go_wp2
   go_meet
   exact ⟨0,hX4⟩
  | false =>
   have b4:=(uh hbx _ (uh hX3).bel).1.eleven.2.2.2.2.1
   go_wp2_with fail
   refine (uh cTw _ (uh hX3).bel).mono ?_
   rintro e w4 ⟨G,rfl,lG,hA,hg4⟩
   have hX4:Hid (Sn.Ch W0 w4 base u5 LH false G c):=by
    have hh:=(uh hX3).on (uh HB0) hg4
    exact ⟨hh.own,hh.bel,fun _=>⟨Nat.le_trans ((uh hX3).top (uh HB0)) lG,hA.lie⟩⟩
   have hll:=(uh hLHl)
   clear lG hA hg4 hX3 b4
   go_wp2_with (at_builtin;refine wpList_append_own _ rfl _ _ 73 rfl base 76 i0 .nilIface 1 16 Try.underlying73 hi hz0 hz1 hz2 rfl (by decide) _ _ _ rfl ((uh hX4).own.alloc _) ⟨w4.heap.size,0,none⟩ 1 1 [Sn.clV G] rfl rfl (Sn.news w4 #[Sn.clV G] _ _ rfl) ?_ ?_ ?_ ?_ ?_)
   ·intro u hu;simp at hu;subst hu;rfl
   ·unfold maxLen;omega
   ·omega
   ·have:=(uh hX4).top (uh HB0);simp;omega
   intro v5 w5 hown hgrow _
   have hX5:Hid (Sn.Ch W0 w5 base v5 (LH ++ Sn.chC false G) false G c):=(uh hX4).more (u:=Sn.clV G) (uh HB0) (World.grownBy_alloc _ _ _) hown hgrow
   clear hown hgrow hX4
   go_wp2
   go_meet
   exact ⟨G,hX5⟩
 case rest =>
 obtain ⟨G,hX4⟩:=hcut
 clear hX3 cTw
 obtain ⟨LC,hLC⟩:∃L,LH ++ Sn.chC k1 G=L:=⟨_,rfl⟩
 have hLCl:Hid (LC.length≤2):=by
  have h1:=uh hLHl
  have h2:=Sn.chC_len k1 G
  show LC.length≤2
  rw [←hLC,List.length_append]
  omega
 rw [hLC] at hX4
 have hpost2:Hid (∀v x,Sn.Ch W0 x base v (LC ++ Sn.chE E F 32 ++ Sn.chI I J 40) k1 G c→D (.returned v) x):=fun v x hx=>uh hpost G v x (by rw [hLC];exact hx)
 clear hLC hpost hLHl
 have b5:=(uh hbx _ (uh hX4).bel).1.eleven.2.2.2.2.2.1
 have d5:=(uh hbx _ (uh hX4).bel).2.1.eleven.2.2.2.2.2.1
 go_wp2_with fail
 go_loopw [5,6,39] (fun v5 vo vk wr=>∃k:Nat,k≤32∧vk=.int .i64 (k:Int)∧Hid (Sn.Ch W0 wr base v5 (LC ++ Sn.chE E F k) k1 G c)) (fun _ _ vk _=>60 - (intOf vk).toNat)
 case atStart=>exact ⟨0,by omega,rfl,by rw [show Sn.chE E F 0=[] from rfl,List.append_nil];exact hX4⟩
 case round =>
  clear hX4 b5 d5
  obtain ⟨k,hk,rfl,hX⟩:=hrel
  have b5:=(uh hbx _ (uh hX).bel).1.eleven.2.2.2.2.2.1
  have d5:=(uh hbx _ (uh hX).bel).2.1.eleven.2.2.2.2.2.1
  by_cases hlt:k<32
  ·have hlt':(k:Int)<32:=by omega
   have HL:=hide hlt
   have hll:Hid ((LC ++ Sn.chE E F k).length≤34):=by
    show (LC ++ Sn.chE E F k).length≤34
    have:=uh hLCl;have:=Sn.chE_len E F k;rw [List.length_append];omega
   obtain ⟨r0,r1,r2,r3,r4,r5,r6,r7,r8,r9,r10⟩:=(uh hbx _ (uh hX).bel).2.2.1.own.ents.row (uh HL)
   obtain ⟨v0,v1,v2,v3,v4,v5,v6,v7,v8,v9,v10⟩:=(uh hbx _ (uh hX).bel).2.2.2.own.ents.row (uh HL)
   have hcmp:∀wx:World,(binOp .neq 45 (.agg #[.int .i64 (E k 0),.int .i64 (E k 1),.int .i64 (E k 2),.int .i64 (E k 3),.int .i64 (E k 4),.int .i64 (E k 5),.int .i64 (E k 6),.int .i64 (E k 7),.int .i64 (E k 8),.int .i64 (E k 9),.int .i64 (E k 10)]) (.agg #[.int .i64 (F k 0),.int .i64 (F k 1),.int .i64 (F k 2),.int .i64 (F k 3),.int .i64 (F k 4),.int .i64 (F k 5),.int .i64 (F k 6),.int .i64 (F k 7),.int .i64 (F k 8),.int .i64 (F k 9),.int .i64 (F k 10)])).run Try.prog wx=.ok (.bool (!Sn.sameE (E k) (F k))) wx:=fun wx=>run_ne_ent (E k) (F k) wx
   have hmo:Hid (Sn.chE E F (k+1)=Sn.chE E F k ++ if Sn.sameE (E k) (F k)=true then [] else [Sn.enV k (E k)]):=rfl
   obtain ⟨p,hp⟩:∃p,Sn.sameE (E k) (F k)=p:=⟨_,rfl⟩
   rw [hp] at hcmp hmo
   have hXd:Hid (∀m,Sn.Ch W0 (wr.drewN m) base u5 (LC ++ Sn.chE E F k) k1 G c):=fun m=>(uh hX).on (uh HB0) (gdw (World.grownBy.refl _ none) m)
   clear hlt hk hp
   go_wp2_with fail
   go_quiet (fail)
   have hX5:=hide (uh hXd nq)
   clear hXd hX r0 r1 r2 r3 r4 r5 r6 r7 r8 r9 r10 v0 v1 v2 v3 v4 v5 v6 v7 v8 v9 v10 hcmp b5 d5
   generalize wr.drewN nq=w5 at hX5 ⊢
   cases p with
   | true =>
    rw [if_pos rfl,List.append_nil] at hmo
    have hX6:Hid (Sn.Ch W0 w5 base u5 (LC ++ Sn.chE E F (k+1)) k1 G c):=by
     rw [uh hmo]
     exact hX5
    go_wp2
    go_roundw
    case rel=>exact ⟨k+1,by have:=uh HL;omega,by go_num,hX6⟩
    case measure=>simp [intOf];have:=uh HL;omega
   | false =>
    have hmo':Hid (Sn.chE E F (k+1)=Sn.chE E F k ++ [Sn.enV k (E k)]):=uh hmo
    have b5:=(uh hbx _ (uh hX5).bel).1.eleven.2.2.2.2.2.1
    obtain ⟨r0,r1,r2,r3,r4,r5,r6,r7,r8,r9,r10⟩:=(uh hbx _ (uh hX5).bel).2.2.1.own.ents.row (uh HL)
    obtain ⟨l,hl⟩:∃l,LC ++ Sn.chE E F k=l:=⟨_,rfl⟩
    rw [hl] at hX5 hll
    have hl':=hide hl
    clear hl hmo
    go_upto_region 10 with fail
    go_wp2_with (at_builtin;refine wpList_append_own _ rfl _ _ 73 rfl base 76 i0 .nilIface 1 16 Try.underlying73 hi hz0 hz1 hz2 rfl (by decide) _ _ _ rfl ((uh hX5).own.alloc _) ⟨w5.heap.size,0,none⟩ 1 1 [Sn.enV k (E k)] rfl rfl (Sn.news w5 #[Sn.enV k (E k)] _ _ rfl) ?_ ?_ ?_ ?_ ?_)
    ·intro u hu;simp at hu;subst hu;rfl
    ·have:=uh hll;unfold maxLen;omega
    ·have:=uh hll;omega
    ·have:=(uh hX5).top (uh HB0);simp;omega
    intro v6 w6 hown hgrow _
    have hX6:Hid (Sn.Ch W0 w6 base v6 (LC ++ Sn.chE E F (k+1)) k1 G c):=by
     rw [uh hmo',←List.append_assoc,uh hl']
     exact (uh hX5).more (u:=Sn.enV k (E k)) (uh HB0) (World.grownBy_alloc _ _ _) hown hgrow
    clear hown hgrow hX5 b5 r0 r1 r2 r3 r4 r5 r6 r7 r8 r9 r10
    go_wp2
    go_roundw
    case rel=>exact ⟨k+1,by have:=uh HL;omega,by go_num,hX6⟩
    case measure=>simp [intOf];have:=uh HL;omega
  ·obtain rfl:k=32:=by omega
   have hge:¬((32:Nat):Int)<32:=by omega
   clear hlt hk
   have b6:=(uh hbx _ (uh hX).bel).1.eleven.2.2.2.2.2.2.1
   have d6:=(uh hbx _ (uh hX).bel).2.1.eleven.2.2.2.2.2.2.1
   clear b5 d5
   obtain ⟨LE,hLE⟩:∃L,LC ++ Sn.chE E F 32=L:=⟨_,rfl⟩
   have hLEl:Hid (LE.length≤34):=by
    have h1:=uh hLCl
    have h2:=Sn.chE_len E F 32
    show LE.length≤34
    rw [←hLE,List.length_append]
    omega
   rw [hLE] at hX hpost2
   clear hLE
   go_wp2_with fail
   go_loopw [5,7,72] (fun v5 vo vk wr=>∃k:Nat,k≤40∧vk=.int .i64 (k:Int)∧Hid (Sn.Ch W0 wr base v5 (LE ++ Sn.chI I J k) k1 G c)) (fun _ _ vk _=>60 - (intOf vk).toNat)
   case atStart=>exact ⟨0,by omega,rfl,by rw [show Sn.chI I J 0=[] from rfl,List.append_nil];exact hX⟩
   case round =>
    clear hX b6 d6 hge
    obtain ⟨k,hk,rfl,hX⟩:=hrel
    have b5:=(uh hbx _ (uh hX).bel).1.eleven.2.2.2.2.2.2.1
    have d5:=(uh hbx _ (uh hX).bel).2.1.eleven.2.2.2.2.2.2.1
    by_cases hlt:k<40
    ·have hlt':(k:Int)<40:=by omega
     have HL:=hide hlt
     have hll:Hid ((LE ++ Sn.chI I J k).length≤74):=by
      show (LE ++ Sn.chI I J k).length≤74
      have:=uh hLEl;have:=Sn.chI_len I J k;rw [List.length_append];omega
     obtain ⟨r0,r1,r2,r3⟩:=(uh hbx _ (uh hX).bel).2.2.1.its.row (uh HL)
     obtain ⟨v0,v1,v2,v3⟩:=(uh hbx _ (uh hX).bel).2.2.2.its.row (uh HL)
     have hcmp:∀wx:World,(binOp .neq 47 (.agg #[.int .i64 (I k 0),.int .i64 (I k 1),.int .i64 (I k 2),.int .i64 (I k 3)]) (.agg #[.int .i64 (J k 0),.int .i64 (J k 1),.int .i64 (J k 2),.int .i64 (J k 3)])).run Try.prog wx=.ok (.bool (!Sn.sameI (I k) (J k))) wx:=fun wx=>run_ne_item (I k 0) (I k 1) (I k 2) (I k 3) (J k 0) (J k 1) (J k 2) (J k 3) wx
     have hmo:Hid (Sn.chI I J (k+1)=Sn.chI I J k ++ if Sn.sameI (I k) (J k)=true then [] else [Sn.itV k (I k)]):=rfl
     obtain ⟨p,hp⟩:∃p,Sn.sameI (I k) (J k)=p:=⟨_,rfl⟩
     rw [hp] at hcmp hmo
     have hXd:Hid (∀m,Sn.Ch W0 (wr.drewN m) base u5 (LE ++ Sn.chI I J k) k1 G c):=fun m=>(uh hX).on (uh HB0) (gdw (World.grownBy.refl _ none) m)
     clear hlt hk hp
     go_wp2_with fail
     go_quiet (fail)
     have hX5:=hide (uh hXd nq)
     clear hXd hX r0 r1 r2 r3 v0 v1 v2 v3 hcmp b5 d5
     generalize wr.drewN nq=w5 at hX5 ⊢
     cases p with
     | true =>
      rw [if_pos rfl,List.append_nil] at hmo
      have hX6:Hid (Sn.Ch W0 w5 base u5 (LE ++ Sn.chI I J (k+1)) k1 G c):=by
       rw [uh hmo]
       exact hX5
      go_wp2
      go_roundw
      case rel=>exact ⟨k+1,by have:=uh HL;omega,by go_num,hX6⟩
      case measure=>simp [intOf];have:=uh HL;omega
     | false =>
      have hmo':Hid (Sn.chI I J (k+1)=Sn.chI I J k ++ [Sn.itV k (I k)]):=uh hmo
      have b5:=(uh hbx _ (uh hX5).bel).1.eleven.2.2.2.2.2.2.1
      obtain ⟨r0,r1,r2,r3⟩:=(uh hbx _ (uh hX5).bel).2.2.1.its.row (uh HL)
      obtain ⟨l,hl⟩:∃l,LE ++ Sn.chI I J k=l:=⟨_,rfl⟩
      rw [hl] at hX5 hll
      have hl':=hide hl
      clear hl hmo
      go_upto_region 16 with fail
      go_wp2_with (at_builtin;refine wpList_append_own _ rfl _ _ 73 rfl base 76 i0 .nilIface 1 16 Try.underlying73 hi hz0 hz1 hz2 rfl (by decide) _ _ _ rfl ((uh hX5).own.alloc _) ⟨w5.heap.size,0,none⟩ 1 1 [Sn.itV k (I k)] rfl rfl (Sn.news w5 #[Sn.itV k (I k)] _ _ rfl) ?_ ?_ ?_ ?_ ?_)
      ·intro u hu;simp at hu;subst hu;rfl
      ·have:=uh hll;unfold maxLen;omega
      ·have:=uh hll;omega
      ·have:=(uh hX5).top (uh HB0);simp;omega
      intro v6 w6 hown hgrow _
      have hX6:Hid (Sn.Ch W0 w6 base v6 (LE ++ Sn.chI I J (k+1)) k1 G c):=by
       rw [uh hmo',←List.append_assoc,uh hl']
       exact (uh hX5).more (u:=Sn.itV k (I k)) (uh HB0) (World.grownBy_alloc _ _ _) hown hgrow
      clear hown hgrow hX5 b5 r0 r1 r2 r3
      go_wp2
      go_roundw
      case rel=>exact ⟨k+1,by have:=uh HL;omega,by go_num,hX6⟩
      case measure=>simp [intOf];have:=uh HL;omega
    ·obtain rfl:k=40:=by omega
     have hge:¬((40:Nat):Int)<40:=by omega
     clear hlt hk
     have hf:=hide (uh hpost2 _ _ (uh hX))
     clear hX b5 d5
     go_wp2
     exact uh hf


open Go.RowKit

theorem asHd (v:Value) (w:World):(Instr.typeAssert (.iface 79 v) 76 79 true).run Try.prog w=.ok (.tuple #[v,.bool true]) w:=by kernel_rfl

theorem asCl (v:Value) (w:World):(Instr.typeAssert (.iface 107 v) 76 107 true).run Try.prog w=.ok (.tuple #[v,.bool true]) w:=by kernel_rfl

theorem asClHd (v:Value) (w:World):(Instr.typeAssert (.iface 107 v) 76 79 true).run Try.prog w=.ok (.tuple #[.agg #[.int .i64 0,.int .i64 0,.int .i64 0,.int .i64 0,.int .i64 0,.int .i64 0,.int .i64 0,.int .i64 0],.bool false]) w:=by kernel_rfl

theorem asEn (v:Value) (w:World):(Instr.typeAssert (.iface 110 v) 76 110 true).run Try.prog w=.ok (.tuple #[v,.bool true]) w:=by kernel_rfl

theorem asEnHd (v:Value) (w:World):(Instr.typeAssert (.iface 110 v) 76 79 true).run Try.prog w=.ok (.tuple #[.agg #[.int .i64 0,.int .i64 0,.int .i64 0,.int .i64 0,.int .i64 0,.int .i64 0,.int .i64 0,.int .i64 0],.bool false]) w:=by kernel_rfl

theorem asEnCl (v:Value) (w:World):(Instr.typeAssert (.iface 110 v) 76 107 true).run Try.prog w=.ok (.tuple #[.slice none 0 0,.bool false]) w:=by kernel_rfl

theorem asIt (v:Value) (w:World):(Instr.typeAssert (.iface 112 v) 76 112 true).run Try.prog w=.ok (.tuple #[v,.bool true]) w:=by kernel_rfl

theorem asItHd (v:Value) (w:World):(Instr.typeAssert (.iface 112 v) 76 79 true).run Try.prog w=.ok (.tuple #[.agg #[.int .i64 0,.int .i64 0,.int .i64 0,.int .i64 0,.int .i64 0,.int .i64 0,.int .i64 0,.int .i64 0],.bool false]) w:=by kernel_rfl

theorem asItCl (v:Value) (w:World):(Instr.typeAssert (.iface 112 v) 76 107 true).run Try.prog w=.ok (.tuple #[.slice none 0 0,.bool false]) w:=by kernel_rfl

theorem asItEn (v:Value) (w:World):(Instr.typeAssert (.iface 112 v) 76 110 true).run Try.prog w=.ok (.tuple #[.agg #[.int .i64 0,.int .i64 0,.int .i64 0,.int .i64 0,.int .i64 0,.int .i64 0,.int .i64 0,.int .i64 0,.int .i64 0,.int .i64 0,.int .i64 0,.int .i64 0],.bool false]) w:=by kernel_rfl

set_option maxRecDepth 8000 in
set_option maxHeartbeats 1600000 in
theorem told_hd (s g:Nat→Int) (w:World):Calls Try.prog 38 #[Sn.hdV s g] w (Says w (.agg #[.int .i64 0,.int .i64 0])):=by
 obtain ⟨w0,hw0⟩:∃w0,w0=(w.alloc (.cells #[.int .i64 0,.int .i64 0] 42)).alloc (.cells #[.int .i64 0,.int .i64 0] 42):=⟨_,rfl⟩
 have hg0:w.grownBy w0 none:=by rw [hw0];exact gal (World.grownBy_alloc _ _ _) _
 obtain ⟨P,hP⟩:∃P,w.heap.size=P:=⟨_,rfl⟩
 have hA:Lie w0 P 42 2 (fun _=>.int .i64 0):=by
  rw [hw0,←hP]
  refine ((Arr.lit (heap_alloc_new w _)).alloc _).lie.congr fun c hc=>?_
  have:c<2:=hc
  rcases (show c=0∨c=1 by omega) with rfl | rfl <;> rfl
 have hB:Lie w0 (P+1) 42 2 (fun _=>.int .i64 0):=by
  rw [hw0,←hP]
  have h:=heap_alloc_new (w.alloc (.cells #[.int .i64 0,.int .i64 0] 42)) (.cells #[.int .i64 0,.int .i64 0] 42)
  rw [show (w.alloc (.cells #[.int .i64 0,.int .i64 0] 42)).heap.size=w.heap.size+1 by simp] at h
  refine (Arr.lit h).lie.congr fun c hc=>?_
  have:c<2:=hc
  rcases (show c=0∨c=1 by omega) with rfl | rfl <;> rfl
 have ay:=fun v w=>asHd v w
 have HP:=hide hP
 have HG:=hide hg0
 have HA:=hide hA
 have HB:=hide hB
 clear hg0 hA hB
 unfold Sn.hdV
 go_enter Try.func38,Try.ntmps38
 go_upto_region 2 with fail
 rw [←hw0]
 clear hw0
 go_upto_region 5 with fail
 obtain ⟨w1,hw1⟩:∃w1,w1=w0.alloc (.cells #[.int .i64 (s 0),.int .i64 (s 1),.int .i64 (s 2),.int .i64 (s 3),.int .i64 (g 0),.int .i64 (g 1),.int .i64 (g 2),.int .i64 (g 3)] 79):=⟨_,rfl⟩
 have hg1:w0.grownBy w1 none:=by rw [hw1];exact World.grownBy_alloc _ _ _
 have hD:Lie w1 w0.heap.size 79 8 (fun j=>#[Value.int .i64 (s 0),.int .i64 (s 1),.int .i64 (s 2),.int .i64 (s 3),.int .i64 (g 0),.int .i64 (g 1),.int .i64 (g 2),.int .i64 (g 3)][j]?.getD undef):=by
  rw [hw1]
  exact (Arr.lit (heap_alloc_new w0 _)).lie
 rw [←hw1]
 have HA1:=hide ((uh HA).on hg1)
 have HB1:=hide ((uh HB).on hg1)
 have HG1:=hide (gtr (uh HG) hg1)
 obtain ⟨D,hDe⟩:∃D,w0.heap.size=D:=⟨_,rfl⟩
 rw [hDe] at hD ⊢
 have HD:=hide hD
 clear hw1 hg1 hD hDe HA HB HG
 have fA:=(uh HA1).free
 have fB:=(uh HB1).free
 have y0:w1.cell? ⟨P,0,none⟩=some (.int .i64 0):=(uh HA1).cell (c:=0) (by omega)
 have y1:w1.cell? ⟨P,1,none⟩=some (.int .i64 0):=(uh HA1).cell (c:=1) (by omega)
 have z0:w1.cell? ⟨P+1,0,none⟩=some (.int .i64 0):=(uh HB1).cell (c:=0) (by omega)
 have z1:w1.cell? ⟨P+1,1,none⟩=some (.int .i64 0):=(uh HB1).cell (c:=1) (by omega)
 have hfin:Hid (∀l l2,w.grownBy ((w1.setCells (P+1) 0 l).setCells P 0 l2) none):=fun l l2=>own_sets (by have:=uh HP;omega) l2 0 _ (own_sets (by have:=uh HP;omega) l 0 w1 (uh HG1))
 go_wp2
 refine bodyPost_ret (v:=.agg #[.int .i64 0,.int .i64 0]) (by simp [results,Try.results38,go_sem,y0,y1]) rfl ?_
 exact ⟨rfl,uh hfin [_] [_,_]⟩

set_option maxRecDepth 8000 in
set_option maxHeartbeats 1600000 in
theorem told_cl (G:Nat) (w:World):Calls Try.prog 38 #[Sn.clV G] w (Says w (.agg #[.int .i64 1,.int .i64 0])):=by
 obtain ⟨w0,hw0⟩:∃w0,w0=(w.alloc (.cells #[.int .i64 0,.int .i64 0] 42)).alloc (.cells #[.int .i64 0,.int .i64 0] 42):=⟨_,rfl⟩
 have hg0:w.grownBy w0 none:=by rw [hw0];exact gal (World.grownBy_alloc _ _ _) _
 obtain ⟨P,hP⟩:∃P,w.heap.size=P:=⟨_,rfl⟩
 have hA:Lie w0 P 42 2 (fun _=>.int .i64 0):=by
  rw [hw0,←hP]
  refine ((Arr.lit (heap_alloc_new w _)).alloc _).lie.congr fun c hc=>?_
  have:c<2:=hc
  rcases (show c=0∨c=1 by omega) with rfl | rfl <;> rfl
 have hB:Lie w0 (P+1) 42 2 (fun _=>.int .i64 0):=by
  rw [hw0,←hP]
  have h:=heap_alloc_new (w.alloc (.cells #[.int .i64 0,.int .i64 0] 42)) (.cells #[.int .i64 0,.int .i64 0] 42)
  rw [show (w.alloc (.cells #[.int .i64 0,.int .i64 0] 42)).heap.size=w.heap.size+1 by simp] at h
  refine (Arr.lit h).lie.congr fun c hc=>?_
  have:c<2:=hc
  rcases (show c=0∨c=1 by omega) with rfl | rfl <;> rfl
 have a0:=fun v w=>asClHd v w
 have ay:=fun v w=>asCl v w
 have HP:=hide hP
 have HG:=hide hg0
 have HA:=hide hA
 have HB:=hide hB
 clear hg0 hA hB
 unfold Sn.clV
 go_enter Try.func38,Try.ntmps38
 go_upto_region 2 with fail
 rw [←hw0]
 clear hw0
 have fA:=(uh HA).free
 have fB:=(uh HB).free
 have y0:w0.cell? ⟨P,0,none⟩=some (.int .i64 0):=(uh HA).cell (c:=0) (by omega)
 have y1:w0.cell? ⟨P,1,none⟩=some (.int .i64 0):=(uh HA).cell (c:=1) (by omega)
 have z0:w0.cell? ⟨P+1,0,none⟩=some (.int .i64 0):=(uh HB).cell (c:=0) (by omega)
 have z1:w0.cell? ⟨P+1,1,none⟩=some (.int .i64 0):=(uh HB).cell (c:=1) (by omega)
 have hfin:Hid (∀l l2,w.grownBy ((w0.setCells (P+1) 0 l).setCells P 0 l2) none):=fun l l2=>own_sets (by have:=uh HP;omega) l2 0 _ (own_sets (by have:=uh HP;omega) l 0 w0 (uh HG))
 go_wp2
 refine bodyPost_ret (v:=.agg #[.int .i64 1,.int .i64 0]) (by simp [results,Try.results38,go_sem,y0,y1]) rfl ?_
 exact ⟨rfl,uh hfin [_] [_,_]⟩

set_option maxRecDepth 8000 in
set_option maxHeartbeats 1600000 in
theorem told_en (n:Nat) (e:Nat→Int) (w:World):Calls Try.prog 38 #[Sn.enV n e] w (Says w (.agg #[.int .i64 2,.int .i64 (n:Int)])):=by
 obtain ⟨w0,hw0⟩:∃w0,w0=(w.alloc (.cells #[.int .i64 0,.int .i64 0] 42)).alloc (.cells #[.int .i64 0,.int .i64 0] 42):=⟨_,rfl⟩
 have hg0:w.grownBy w0 none:=by rw [hw0];exact gal (World.grownBy_alloc _ _ _) _
 obtain ⟨P,hP⟩:∃P,w.heap.size=P:=⟨_,rfl⟩
 have hA:Lie w0 P 42 2 (fun _=>.int .i64 0):=by
  rw [hw0,←hP]
  refine ((Arr.lit (heap_alloc_new w _)).alloc _).lie.congr fun c hc=>?_
  have:c<2:=hc
  rcases (show c=0∨c=1 by omega) with rfl | rfl <;> rfl
 have hB:Lie w0 (P+1) 42 2 (fun _=>.int .i64 0):=by
  rw [hw0,←hP]
  have h:=heap_alloc_new (w.alloc (.cells #[.int .i64 0,.int .i64 0] 42)) (.cells #[.int .i64 0,.int .i64 0] 42)
  rw [show (w.alloc (.cells #[.int .i64 0,.int .i64 0] 42)).heap.size=w.heap.size+1 by simp] at h
  refine (Arr.lit h).lie.congr fun c hc=>?_
  have:c<2:=hc
  rcases (show c=0∨c=1 by omega) with rfl | rfl <;> rfl
 have a0:=fun v w=>asEnHd v w
 have a1:=fun v w=>asEnCl v w
 have ay:=fun v w=>asEn v w
 have HP:=hide hP
 have HG:=hide hg0
 have HA:=hide hA
 have HB:=hide hB
 clear hg0 hA hB
 unfold Sn.enV
 go_enter Try.func38,Try.ntmps38
 go_upto_region 2 with fail
 rw [←hw0]
 clear hw0
 go_upto_region 11 with fail
 obtain ⟨w1,hw1⟩:∃w1,w1=w0.alloc (.cells #[.int .i64 (n:Int),.int .i64 (e 0),.int .i64 (e 1),.int .i64 (e 2),.int .i64 (e 3),.int .i64 (e 4),.int .i64 (e 5),.int .i64 (e 6),.int .i64 (e 7),.int .i64 (e 8),.int .i64 (e 9),.int .i64 (e 10)] 110):=⟨_,rfl⟩
 have hg1:w0.grownBy w1 none:=by rw [hw1];exact World.grownBy_alloc _ _ _
 have hD:Lie w1 w0.heap.size 110 12 (fun j=>#[Value.int .i64 (n:Int),.int .i64 (e 0),.int .i64 (e 1),.int .i64 (e 2),.int .i64 (e 3),.int .i64 (e 4),.int .i64 (e 5),.int .i64 (e 6),.int .i64 (e 7),.int .i64 (e 8),.int .i64 (e 9),.int .i64 (e 10)][j]?.getD undef):=by
  rw [hw1]
  exact (Arr.lit (heap_alloc_new w0 _)).lie
 rw [←hw1]
 have HA1:=hide ((uh HA).on hg1)
 have HB1:=hide ((uh HB).on hg1)
 have HG1:=hide (gtr (uh HG) hg1)
 obtain ⟨D,hDe⟩:∃D,w0.heap.size=D:=⟨_,rfl⟩
 rw [hDe] at hD ⊢
 have HD:=hide hD
 clear hw1 hg1 hD hDe HA HB HG
 have fA:=(uh HA1).free
 have fB:=(uh HB1).free
 have y0:w1.cell? ⟨P,0,none⟩=some (.int .i64 0):=(uh HA1).cell (c:=0) (by omega)
 have y1:w1.cell? ⟨P,1,none⟩=some (.int .i64 0):=(uh HA1).cell (c:=1) (by omega)
 have z0:w1.cell? ⟨P+1,0,none⟩=some (.int .i64 0):=(uh HB1).cell (c:=0) (by omega)
 have z1:w1.cell? ⟨P+1,1,none⟩=some (.int .i64 0):=(uh HB1).cell (c:=1) (by omega)
 have x0:w1.cell? ⟨D,0,none⟩=some (.int .i64 (n:Int)):=(uh HD).cell (c:=0) (by omega)
 have nDB:Hid (D≠P+1∧D≠P):=⟨(uh HD).type_ne (uh HB1) (by decide),(uh HD).type_ne (uh HA1) (by decide)⟩
 have n1:=(uh nDB).1
 have n2:=(uh nDB).1.symm
 have hfin:Hid (∀l m l2,w.grownBy (((w1.setCells (P+1) 0 l).drewN m).setCells P 0 l2) none):=fun l m l2=>own_sets (by have:=uh HP;omega) l2 0 _ (gdw (own_sets (by have:=uh HP;omega) l 0 w1 (uh HG1)) m)
 clear HD HA1 HB1 HG1 nDB
 go_region
 all_goals
  go_wp2
  refine bodyPost_ret (v:=.agg #[.int .i64 2,.int .i64 (n:Int)]) (by simp [results,Try.results38,go_sem,y0,y1]) rfl ?_
  exact ⟨rfl,uh hfin [_,_] 1 [_,_]⟩

set_option maxRecDepth 8000 in
set_option maxHeartbeats 1600000 in
theorem told_it (n:Nat) (e:Nat→Int) (w:World):Calls Try.prog 38 #[Sn.itV n e] w (Says w (.agg #[.int .i64 3,.int .i64 (n:Int)])):=by
 obtain ⟨w0,hw0⟩:∃w0,w0=(w.alloc (.cells #[.int .i64 0,.int .i64 0] 42)).alloc (.cells #[.int .i64 0,.int .i64 0] 42):=⟨_,rfl⟩
 have hg0:w.grownBy w0 none:=by rw [hw0];exact gal (World.grownBy_alloc _ _ _) _
 obtain ⟨P,hP⟩:∃P,w.heap.size=P:=⟨_,rfl⟩
 have hA:Lie w0 P 42 2 (fun _=>.int .i64 0):=by
  rw [hw0,←hP]
  refine ((Arr.lit (heap_alloc_new w _)).alloc _).lie.congr fun c hc=>?_
  have:c<2:=hc
  rcases (show c=0∨c=1 by omega) with rfl | rfl <;> rfl
 have hB:Lie w0 (P+1) 42 2 (fun _=>.int .i64 0):=by
  rw [hw0,←hP]
  have h:=heap_alloc_new (w.alloc (.cells #[.int .i64 0,.int .i64 0] 42)) (.cells #[.int .i64 0,.int .i64 0] 42)
  rw [show (w.alloc (.cells #[.int .i64 0,.int .i64 0] 42)).heap.size=w.heap.size+1 by simp] at h
  refine (Arr.lit h).lie.congr fun c hc=>?_
  have:c<2:=hc
  rcases (show c=0∨c=1 by omega) with rfl | rfl <;> rfl
 have a0:=fun v w=>asItHd v w
 have a1:=fun v w=>asItCl v w
 have a2:=fun v w=>asItEn v w
 have ay:=fun v w=>asIt v w
 have HP:=hide hP
 have HG:=hide hg0
 have HA:=hide hA
 have HB:=hide hB
 clear hg0 hA hB
 unfold Sn.itV
 go_enter Try.func38,Try.ntmps38
 go_upto_region 2 with fail
 rw [←hw0]
 clear hw0
 go_upto_region 14 with fail
 obtain ⟨w1,hw1⟩:∃w1,w1=w0.alloc (.cells #[.int .i64 (n:Int),.int .i64 (e 0),.int .i64 (e 1),.int .i64 (e 2),.int .i64 (e 3)] 112):=⟨_,rfl⟩
 have hg1:w0.grownBy w1 none:=by rw [hw1];exact World.grownBy_alloc _ _ _
 have hD:Lie w1 w0.heap.size 112 5 (fun j=>#[Value.int .i64 (n:Int),.int .i64 (e 0),.int .i64 (e 1),.int .i64 (e 2),.int .i64 (e 3)][j]?.getD undef):=by
  rw [hw1]
  exact (Arr.lit (heap_alloc_new w0 _)).lie
 rw [←hw1]
 have HA1:=hide ((uh HA).on hg1)
 have HB1:=hide ((uh HB).on hg1)
 have HG1:=hide (gtr (uh HG) hg1)
 obtain ⟨D,hDe⟩:∃D,w0.heap.size=D:=⟨_,rfl⟩
 rw [hDe] at hD ⊢
 have HD:=hide hD
 clear hw1 hg1 hD hDe HA HB HG
 have fA:=(uh HA1).free
 have fB:=(uh HB1).free
 have y0:w1.cell? ⟨P,0,none⟩=some (.int .i64 0):=(uh HA1).cell (c:=0) (by omega)
 have y1:w1.cell? ⟨P,1,none⟩=some (.int .i64 0):=(uh HA1).cell (c:=1) (by omega)
 have z0:w1.cell? ⟨P+1,0,none⟩=some (.int .i64 0):=(uh HB1).cell (c:=0) (by omega)
 have z1:w1.cell? ⟨P+1,1,none⟩=some (.int .i64 0):=(uh HB1).cell (c:=1) (by omega)
 have x0:w1.cell? ⟨D,0,none⟩=some (.int .i64 (n:Int)):=(uh HD).cell (c:=0) (by omega)
 have nDB:Hid (D≠P+1∧D≠P):=⟨(uh HD).type_ne (uh HB1) (by decide),(uh HD).type_ne (uh HA1) (by decide)⟩
 have n1:=(uh nDB).1
 have n2:=(uh nDB).1.symm
 have hfin:Hid (∀l m l2,w.grownBy (((w1.setCells (P+1) 0 l).drewN m).setCells P 0 l2) none):=fun l m l2=>own_sets (by have:=uh HP;omega) l2 0 _ (gdw (own_sets (by have:=uh HP;omega) l 0 w1 (uh HG1)) m)
 clear HD HA1 HB1 HG1 nDB
 go_region
 all_goals
  go_wp2
  refine bodyPost_ret (v:=.agg #[.int .i64 3,.int .i64 (n:Int)]) (by simp [results,Try.results38,go_sem,y0,y1]) rfl ?_
  exact ⟨rfl,uh hfin [_,_] 1 [_,_]⟩

end Go.Proofs.Ytapgkgbpekkdjaa
