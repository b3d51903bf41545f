import Derived.Test.YtapgkgbpekkdjaaGreatPart29
import Derived.Test.YtapgkgbpekkdjaaGreatPart38
namespace Go.Proofs.YtapgkgbpekkdjaaGreat
open Go.RowKit

theorem info_snrow:(Tryz.prog.info? 94).map (fun i=>(i.zero,i.size,i.bytes))=some (some .nilIface,1,16):=by kernel_rfl

def Sn.hdV (s g:Nat→Int):Value:=.iface 84 (.agg #[.int .i64 (s 0),.int .i64 (s 1),.int .i64 (s 2),.int .i64 (s 3),.int .i64 (g 0),.int .i64 (g 1),.int .i64 (g 2),.int .i64 (g 3)])
def Sn.clV (G:Nat):Value:=.iface 137 (.slice (some ⟨G,0,none⟩) 384 384)
def Sn.enV (n:Nat) (e:Nat→Int):Value:=.iface 139 (.agg #[.int .i64 (n:Int),.int .i64 (e 0),.int .i64 (e 1),.int .i64 (e 2),.int .i64 (e 3),.int .i64 (e 4),.int .i64 (e 5),.int .i64 (e 6),.int .i64 (e 7),.int .i64 (e 8),.int .i64 (e 9),.int .i64 (e 10)])
def Sn.itV (n:Nat) (e:Nat→Int):Value:=.iface 141 (.agg #[.int .i64 (n:Int),.int .i64 (e 0),.int .i64 (e 1),.int .i64 (e 2),.int .i64 (e 3)])

def Sn.chH (s t g h:Nat→Int):List Value:=if Sn.sameH s t g h=true then [] else [Sn.hdV s g]
def Sn.chC (b:Bool) (G:Nat):List Value:=if b=true then [] else [Sn.clV G]
def Sn.chE (E F:Nat→Nat→Int):Nat→List Value
 | 0=>[]
 | k+1=>Sn.chE E F k ++ if Sn.sameE (E k) (F k)=true then [] else [Sn.enV k (E k)]
def Sn.chI (E F:Nat→Nat→Int):Nat→List Value
 | 0=>[]
 | k+1=>Sn.chI E F k ++ if Sn.sameI (E k) (F k)=true then [] else [Sn.itV k (E k)]

theorem Sn.chH_len (s t g h:Nat→Int):(Sn.chH s t g h).length≤1:=by unfold Sn.chH;split <;> simp
theorem Sn.chC_len (b:Bool) (G:Nat):(Sn.chC b G).length≤1:=by unfold Sn.chC;split <;> simp
theorem Sn.chE_len (E F:Nat→Nat→Int):∀k,(Sn.chE E F k).length≤k
 | 0=>Nat.le_refl _
 | k+1=>by
  have:=Sn.chE_len E F k
  unfold Sn.chE
  rw [List.length_append]
  split <;> simp <;> omega
theorem Sn.chI_len (E F:Nat→Nat→Int):∀k,(Sn.chI E F k).length≤k
 | 0=>Nat.le_refl _
 | k+1=>by
  have:=Sn.chI_len E F k
  unfold Sn.chI
  rw [List.length_append]
  split <;> simp <;> omega

structure Sn.Ch (w x:World) (base:Nat) (v:Value) (l:List Value) (b:Bool) (G:Nat) (c:Nat→Int):Prop where
 own:x.ownsRow base 94 1 v l.length l
 bel:Below base w x
 cel:b=false→base≤G∧Lie x G 5 384 (Byts c)

theorem Sn.Ch.top {w x:World} {base:Nat} {v:Value} {l:List Value} {b:Bool} {G:Nat} {c:Nat→Int} (h:Sn.Ch w x base v l b G c) (hb:base≤w.heap.size):base≤x.heap.size:=Nat.le_trans hb h.bel.size

theorem Sn.Ch.on {w x y:World} {base:Nat} {v:Value} {l:List Value} {b:Bool} {G:Nat} {c:Nat→Int} (h:Sn.Ch w x base v l b G c) (hb:base≤w.heap.size) (hg:x.grownBy y none):Sn.Ch w y base v l b G c :=
 ⟨h.own.kept hg (by cases v.ownBlock <;> simp),h.bel.trans (Sn.below hg (fun k e=>by cases e) (h.top hb)),fun q=>⟨(h.cel q).1,(h.cel q).2.on hg⟩⟩

theorem Sn.Ch.apart {w x:World} {base:Nat} {v:Value} {l:List Value} {b:Bool} {G:Nat} {c:Nat→Int} (h:Sn.Ch w x base v l b G c) (q:b=false):v.ownBlock≠some G:=by
 intro e
 obtain ⟨_,_,⟨c1,e1,_⟩,_⟩:=(h.cel q).2
 rcases h.own.2 with ⟨rfl,_⟩ | ⟨g,cap,cur,rfl,_,hg,_⟩
 ·simp [Value.ownBlock] at e
 ·simp [Value.ownBlock] at e
  subst e
  rw [e1] at hg
  simp only [Option.some.injEq,Obj.cells.injEq] at hg
  exact absurd hg.2.1 (by decide)

theorem Sn.Ch.more {w x y x':World} {base:Nat} {v v' u:Value} {l:List Value} {b:Bool} {G:Nat} {c:Nat→Int} (h:Sn.Ch w x base v l b G c) (hb:base≤w.heap.size) (hxy:x.grownBy y none) (hown:x'.ownsRow base 94 1 v' (l.length+1) (l ++ [u])) (hg:y.grownBy x' v.ownBlock):Sn.Ch w x' base v' (l ++ [u]) b G c:=by
 refine ⟨by rw [List.length_append];exact hown,?_,fun q=>⟨(h.cel q).1,((h.cel q).2.on hxy).grown hg (h.apart q)⟩⟩
 have hb1:Below base x y:=Sn.below hxy (fun k e=>by cases e) (h.top hb)
 have hb2:=Sn.below hg (fun k e=>(h.own.lt k e).1) (Nat.le_trans (h.top hb) hb1.size)
 exact h.bel.trans (hb1.trans hb2)

def Sn.Changes (w:World) (s t g h c d:Nat→Int) (E F I J:Nat→Nat→Int) (e:Ending) (w':World):Prop :=
 ∃G v base,e=.returned v∧w.heap.size≤base∧w'.ownsRow base 94 1 v (Sn.chH s t g h ++ Sn.chC (Sn.allB (fun i=>c i == d i) 384) G ++ Sn.chE E F 32 ++ Sn.chI I J 40).length (Sn.chH s t g h ++ Sn.chC (Sn.allB (fun i=>c i == d i) 384) G ++ Sn.chE E F 32 ++ Sn.chI I J 40)∧(Sn.allB (fun i=>c i == d i) 384=false→w.heap.size≤G∧Lie w' G 5 384 (Byts c))∧w.grownBy w' none

theorem run_ne_head (s t g h:Nat→Int) (w:World):(binOp .neq 84 (.agg #[.int .i64 (s 0),.int .i64 (s 1),.int .i64 (s 2),.int .i64 (s 3),.int .i64 (g 0),.int .i64 (g 1),.int .i64 (g 2),.int .i64 (g 3)]) (.agg #[.int .i64 (t 0),.int .i64 (t 1),.int .i64 (t 2),.int .i64 (t 3),.int .i64 (h 0),.int .i64 (h 1),.int .i64 (h 2),.int .i64 (h 3)])).run Tryz.prog w=.ok (.bool (!Sn.sameH s t g h)) w:=by
 have hg:=fun d w=>run_equal_gold d g h w
 unfold Sn.sameH
 generalize Sn.sameG g h=q at hg ⊢
 by_cases h0:s 0=t 0
 ·by_cases h1:s 1=t 1
  ·by_cases h2:s 2=t 2
   ·by_cases h3:s 3=t 3
    ·simp [go_sem,h0,h1,h2,h3,hg]
     cases q <;> rfl
    ·simp [go_sem,h0,h1,h2,h3]
   ·simp [go_sem,h0,h1,h2]
  ·simp [go_sem,h0,h1]
 ·simp [go_sem,h0]

set_option maxRecDepth 16000 in
set_option maxHeartbeats 12800000 in
theorem changed_any (s t g h c d:Nat→Int) (E F I J:Nat→Nat→Int) (gC gE gI cC cE cI jC jE jI dC dE dI:Nat) (w:World) (hL:Gd.Lists w gC gE gI c E I) (hL2:Gd.Lists w jC jE jI d F J) :
  Calls Tryz.prog 52 #[.agg (Gd.world s gC gE gI cC cE cI g),.agg (Gd.world t jC jE jI dC dE dI h)] w (Sn.Changes w s t g h c d E F I J):=by
 obtain ⟨W0,hW⟩:∃W,W=(w.alloc (.cells (Gd.world s gC gE gI cC cE cI g) 31)).alloc (.cells (Gd.world t jC jE jI dC dE dI h) 31):=⟨_,rfl⟩
 have hg:w.grownBy W0 none:=by rw [hW];exact gal (World.grownBy_alloc _ _ _) _
 have x1:Lie W0 w.heap.size 31 11 (Gd.box s gC gE gI cC cE cI g):=by
  rw [hW]
  exact ((Arr.world (heap_alloc_new w _)).alloc _).lie
 have x2:Lie W0 (w.heap.size+1) 31 11 (Gd.box t jC jE jI dC dE dI h):=by
  rw [hW]
  have hh:=heap_alloc_new (w.alloc (.cells (Gd.world s gC gE gI cC cE cI g) 31)) (.cells (Gd.world t jC jE jI dC dE dI h) 31)
  rw [show (w.alloc (.cells (Gd.world s gC gE gI cC cE cI g) 31)).heap.size=w.heap.size+1 by simp] at hh
  exact (Arr.world hh).lie
 obtain ⟨B,hB⟩:∃B,w.heap.size=B:=⟨_,rfl⟩
 obtain ⟨base,hbase⟩:∃base,W0.heap.size=base:=⟨_,rfl⟩
 have HB0:Hid (base≤W0.heap.size):=(show base≤W0.heap.size by omega)
 have HB:Hid (w.heap.size=B∧B+2=base):=⟨hB,by rw [←hbase,hW,←hB];simp⟩
 rw [hB] at x1 x2
 have lC:=hide (And.intro hL.cells.lt (And.intro hL.ents.lt (And.intro hL.items.lt (And.intro hL2.cells.lt (And.intro hL2.ents.lt hL2.items.lt)))))
 have hbx:Hid (∀x,Below base W0 x→Lie x B 31 11 (Gd.box s gC gE gI cC cE cI g)∧Lie x (B+1) 31 11 (Gd.box t jC jE jI dC dE dI h)∧Gd.Lists x gC gE gI c E I∧Gd.Lists x jC jE jI d F J):=fun x hx=>by
  obtain ⟨e1,e2⟩:=uh HB
  obtain ⟨l1,l2,l3,l4,l5,l6⟩:=uh lC
  exact ⟨x1.below hx (by omega),x2.below hx (by omega),(hL.on hg).below hx (by omega) (by omega) (by omega),(hL2.on hg).below hx (by omega) (by omega) (by omega)⟩
 have hg':=hide hg
 have hcmp:=fun wx=>run_ne_head s t g h wx
 obtain ⟨k0,e0⟩:∃k,Sn.sameH s t g h=k:=⟨_,rfl⟩
 obtain ⟨k1,e1⟩:∃k,Sn.allB (fun i=>c i == d i) 384=k:=⟨_,rfl⟩
 obtain ⟨LH,hLH⟩:∃L,Sn.chH s t g h=L:=⟨_,rfl⟩
 have hLH0:Hid (k0=true→LH=[]):=fun q=>by rw [←hLH];unfold Sn.chH;rw [e0,if_pos q]
 have hLH1:Hid (k0=false→LH=[Sn.hdV s g]):=fun q=>by rw [←hLH];unfold Sn.chH;rw [e0,if_neg (by simp [q])]
 have hLHl:Hid (LH.length≤1):=by rw [←hLH];exact Sn.chH_len s t g h
 have hpost:Hid (∀G v x,Sn.Ch W0 x base v (LH ++ Sn.chC k1 G ++ Sn.chE E F 32 ++ Sn.chI I J 40) k1 G c→Sn.Changes w s t g h c d E F I J (.returned v) x):=fun G v x hx=>by
  obtain ⟨f1,f2⟩:=uh HB
  refine ⟨G,v,base,rfl,by omega,?_,fun q=>?_,?_⟩
  ·rw [hLH,e1]
   exact hx.own
  ·rw [e1] at q
   exact ⟨by have:=(hx.cel q).1;omega,(hx.cel q).2⟩
  ·exact below_grown (Sn.below_trans (none_below (uh hg')) (hx.bel.mono (by omega)))
 have cQ:Hid (∀z,Below base W0 z→Calls Tryz.prog 47 #[.slice (some ⟨gC,0,none⟩) 384 cC,.slice (some ⟨jC,0,none⟩) 384 dC] z (Says z (.bool k1))):=fun z hz=>by
  rw [←e1]
  exact snEqualB_any gC jC cC dC c d z (uh hbx z hz).2.2.1.cells (uh hbx z hz).2.2.2.cells
 obtain ⟨D,hD⟩:∃D,Sn.Changes w s t g h c d E F I J=D:=⟨_,rfl⟩
 rw [hD] at hpost ⊢
 rw [e0] at hcmp
 have cTw:=hide (fun z (hz:Below base W0 z)=>snTwinB_any gC 0 384 384 cC (Byts c) z (by omega) (by omega) (fun _=>rfl) (fun k hk=>by rw [Nat.zero_add];exact (uh hbx z hz).2.2.1.cells.cell hk) (uh hbx z hz).2.2.1.cells.lt)
 obtain ⟨i0,hi,hz0,hz1,hz2⟩:=info_parts info_snrow
 have hX0:Hid (Sn.Ch W0 W0 base (.slice none 0 0) [] true 0 c):=⟨World.ownsRow_nil _ _ _ _,Below.refl _ _,fun q=>absurd q (by simp)⟩
 clear hL hL2 hg x1 x2 e0 e1 hLH hD lC
 unfold Gd.world at hW ⊢
 go_enter Tryz.func52,Tryz.ntmps52
 go_upto_region 2 with fail
 rw [←hW]
 clear hW hB hbase
 go_cut [12] from 8 to 11 (fun v12 wx=>v12=.bool (!k0)∧Hid (Sn.Ch W0 wx base (.slice none 0 0) [] true 0 c))
 case first =>
  refine wp_region_grown (by kernel_rfl) (by kernel_rfl) ?_
  intro St hN W hI hx
  have p0:∀σ,(W σ).cell? ⟨B,0,none⟩=some (.int .i64 (s 0)):=fun σ=>((uh hbx _ (uh hX0).bel).1.on (hI σ)).eleven.1
  have q0:∀σ,(W σ).cell? ⟨B+1,0,none⟩=some (.int .i64 (t 0)):=fun σ=>((uh hbx _ (uh hX0).bel).2.1.on (hI σ)).eleven.1
  have p1:∀σ,(W σ).cell? ⟨B,1,none⟩=some (.int .i64 (s 1)):=fun σ=>((uh hbx _ (uh hX0).bel).1.on (hI σ)).eleven.2.1
  have q1:∀σ,(W σ).cell? ⟨B+1,1,none⟩=some (.int .i64 (t 1)):=fun σ=>((uh hbx _ (uh hX0).bel).2.1.on (hI σ)).eleven.2.1
  have p2:∀σ,(W σ).cell? ⟨B,2,none⟩=some (.int .i64 (s 2)):=fun σ=>((uh hbx _ (uh hX0).bel).1.on (hI σ)).eleven.2.2.1
  have q2:∀σ,(W σ).cell? ⟨B+1,2,none⟩=some (.int .i64 (t 2)):=fun σ=>((uh hbx _ (uh hX0).bel).2.1.on (hI σ)).eleven.2.2.1
  have p3:∀σ,(W σ).cell? ⟨B,3,none⟩=some (.int .i64 (s 3)):=fun σ=>((uh hbx _ (uh hX0).bel).1.on (hI σ)).eleven.2.2.2.1
  have q3:∀σ,(W σ).cell? ⟨B+1,3,none⟩=some (.int .i64 (t 3)):=fun σ=>((uh hbx _ (uh hX0).bel).2.1.on (hI σ)).eleven.2.2.2.1
  have p4:∀σ,(W σ).cell? ⟨B,4,none⟩=some (.slice (some ⟨gC,0,none⟩) 384 cC):=fun σ=>((uh hbx _ (uh hX0).bel).1.on (hI σ)).eleven.2.2.2.2.1
  have q4:∀σ,(W σ).cell? ⟨B+1,4,none⟩=some (.slice (some ⟨jC,0,none⟩) 384 dC):=fun σ=>((uh hbx _ (uh hX0).bel).2.1.on (hI σ)).eleven.2.2.2.2.1
  have p5:∀σ,(W σ).cell? ⟨B,5,none⟩=some (.slice (some ⟨gE,0,none⟩) 32 cE):=fun σ=>((uh hbx _ (uh hX0).bel).1.on (hI σ)).eleven.2.2.2.2.2.1
  have q5:∀σ,(W σ).cell? ⟨B+1,5,none⟩=some (.slice (some ⟨jE,0,none⟩) 32 dE):=fun σ=>((uh hbx _ (uh hX0).bel).2.1.on (hI σ)).eleven.2.2.2.2.2.1
  have p6:∀σ,(W σ).cell? ⟨B,6,none⟩=some (.slice (some ⟨gI,0,none⟩) 40 cI):=fun σ=>((uh hbx _ (uh hX0).bel).1.on (hI σ)).eleven.2.2.2.2.2.2.1
  have q6:∀σ,(W σ).cell? ⟨B+1,6,none⟩=some (.slice (some ⟨jI,0,none⟩) 40 dI):=fun σ=>((uh hbx _ (uh hX0).bel).2.1.on (hI σ)).eleven.2.2.2.2.2.2.1
  have p7:∀σ,(W σ).cell? ⟨B,7,none⟩=some (.int .i64 (g 0)):=fun σ=>((uh hbx _ (uh hX0).bel).1.on (hI σ)).eleven.2.2.2.2.2.2.2.1
  have q7:∀σ,(W σ).cell? ⟨B+1,7,none⟩=some (.int .i64 (h 0)):=fun σ=>((uh hbx _ (uh hX0).bel).2.1.on (hI σ)).eleven.2.2.2.2.2.2.2.1
  have p8:∀σ,(W σ).cell? ⟨B,8,none⟩=some (.int .i64 (g 1)):=fun σ=>((uh hbx _ (uh hX0).bel).1.on (hI σ)).eleven.2.2.2.2.2.2.2.2.1
  have q8:∀σ,(W σ).cell? ⟨B+1,8,none⟩=some (.int .i64 (h 1)):=fun σ=>((uh hbx _ (uh hX0).bel).2.1.on (hI σ)).eleven.2.2.2.2.2.2.2.2.1
  have p9:∀σ,(W σ).cell? ⟨B,9,none⟩=some (.int .i64 (g 2)):=fun σ=>((uh hbx _ (uh hX0).bel).1.on (hI σ)).eleven.2.2.2.2.2.2.2.2.2.1
  have q9:∀σ,(W σ).cell? ⟨B+1,9,none⟩=some (.int .i64 (h 2)):=fun σ=>((uh hbx _ (uh hX0).bel).2.1.on (hI σ)).eleven.2.2.2.2.2.2.2.2.2.1
  have p10:∀σ,(W σ).cell? ⟨B,10,none⟩=some (.int .i64 (g 3)):=fun σ=>((uh hbx _ (uh hX0).bel).1.on (hI σ)).eleven.2.2.2.2.2.2.2.2.2.2
  have q10:∀σ,(W σ).cell? ⟨B+1,10,none⟩=some (.int .i64 (h 3)):=fun σ=>((uh hbx _ (uh hX0).bel).2.1.on (hI σ)).eleven.2.2.2.2.2.2.2.2.2.2
  have f0:∀(s g:Nat→Int) (nC nE nI cC cE cI:Nat) (aC aE aI:Option Addr) σ,Calls Tryz.prog 46 #[.agg #[.int .i64 (s 0),.int .i64 (s 1),.int .i64 (s 2),.int .i64 (s 3),.slice aC nC cC,.slice aE nE cE,.slice aI nI cI,.int .i64 (g 0),.int .i64 (g 1),.int .i64 (g 2),.int .i64 (g 3)]] (W σ) fun e w''=>e=.returned (.agg #[.int .i64 (s 0),.int .i64 (s 1),.int .i64 (s 2),.int .i64 (s 3),.int .i64 (g 0),.int .i64 (g 1),.int .i64 (g 2),.int .i64 (g 3)])∧∃σ',w''=W σ':=fun s g nC nE nI cC cE cI aC aE aI σ=>calls_class hI hx (headOf_any s g nC nE nI cC cE cI aC aE aI _)
  have hI2:=hide hI
  clear hx hI
  repeat (go_big_quiet_step (first | (go_at_call 46;exact f0 _ _ _ _ _ _ _ _ _ _ _ _)))
  refine wpQuiet_nil ?_
  rintro _ ⟨σ,rfl⟩
  have hX1:=hide ((uh hX0).on (uh HB0) (uh hI2 σ))
  obtain ⟨wq,hwq⟩:∃wq,W σ=wq:=⟨_,rfl⟩
  rw [hwq] at hX1 ⊢
  clear p0 p1 p2 p3 p4 p5 p6 p7 p8 p9 p10 q0 q1 q2 q3 q4 q5 q6 q7 q8 q9 q10 f0 hcmp hI2 hwq
  clear σ W hN St
  go_wp2_with fail
  go_meet
  exact ⟨rfl,hX1⟩
 case rest =>
 obtain ⟨rfl,hX1⟩:=hcut
 clear hX0 hcmp
 go_upto_if 12 with fail
 go_cut [5] from 12 to 18 (fun v5 wx=>Hid (Sn.Ch W0 wx base v5 LH true 0 c))
 case first =>
  cases k0 with
  | true =>
   have hX2:Hid (Sn.Ch W0 wc base (.slice none 0 0) LH true 0 c):=by
    rw [uh hLH0 rfl]
    exact hX1
   go_wp2
   go_meet
   exact hX2
  | false =>
   have hLe:=hide (uh hLH1 rfl)
   obtain ⟨b0,b1,b2,b3,b4,b5,b6,b7,b8,b9,b10⟩:=(uh hbx _ (uh hX1).bel).1.eleven
   have ch:=hide (fun z=>headOf_any s g 384 32 40 cC cE cI (some ⟨gC,0,none⟩) (some ⟨gE,0,none⟩) (some ⟨gI,0,none⟩) z)
   go_wp2_with fail
   refine (uh ch _).mono ?_
   rintro e w3 ⟨rfl,hg3⟩
   have hX2:=hide ((uh hX1).on (uh HB0) hg3)
   clear hg3 hX1 ch b0 b1 b2 b3 b4 b5 b6 b7 b8 b9 b10
   go_wp2_with (at_builtin;refine wpList_append_own _ rfl _ _ 91 rfl base 94 i0 .nilIface 1 16 Tryz.underlying91 hi hz0 hz1 hz2 rfl (by decide) _ _ _ rfl ((uh hX2).own.alloc _) ⟨w3.heap.size,0,none⟩ 1 1 [Sn.hdV s g] rfl rfl (Sn.news w3 #[Sn.hdV s g] _ _ rfl) ?_ ?_ ?_ ?_ ?_)
   ·intro u hu;simp at hu;subst hu;rfl
   ·unfold maxLen;simp
   ·simp
   ·have:=(uh hX2).top (uh HB0);simp;omega
   intro v4 w4 hown hgrow _
   have hX3:Hid (Sn.Ch W0 w4 base v4 LH true 0 c):=by
    rw [uh hLe]
    exact (uh hX2).more (uh HB0) (World.grownBy_alloc _ _ _) hown hgrow
   clear hown hgrow hX2
   go_wp2
   go_meet
   exact hX3
 case rest =>
 have hX2:Hid (Sn.Ch W0 wc base u5 LH true 0 c):=hcut
 clear hcut hX1 hLH0 hLH1
 have b4:=(uh hbx _ (uh hX2).bel).1.eleven.2.2.2.2.1
 have d4:=(uh hbx _ (uh hX2).bel).2.1.eleven.2.2.2.2.1
 go_wp2_with fail
 refine (uh cQ _ (uh hX2).bel).mono ?_
 rintro e w3 ⟨rfl,hg3⟩
 have hX3:=hide ((uh hX2).on (uh HB0) hg3)
 clear hg3 hX2 b4 d4 cQ
 go_upto_if 24 with fail
 go_cut [5] from 24 to 31 (fun v5 wx=>∃G,Hid (Sn.Ch W0 wx base v5 (LH ++ Sn.chC k1 G) k1 G c))
 case first =>
  cases k1 with
  | true =>
   have hX4:Hid (Sn.Ch W0 w3 base u5 (LH ++ Sn.chC true 0) true 0 c):=by
    show Sn.Ch _ _ _ _ (LH ++ []) _ _ _
    rw [List.append_nil]
    exact hX3
   go_wp2
   go_meet
   exact ⟨0,hX4⟩
  | false =>
   have b4:=(uh hbx _ (uh hX3).bel).1.eleven.2.2.2.2.1
   go_wp2_with fail
   refine (uh cTw _ (uh hX3).bel).mono ?_
   rintro e w4 ⟨G,rfl,lG,hA,hg4⟩
   have hX4:Hid (Sn.Ch W0 w4 base u5 LH false G c):=by
    have hh:=(uh hX3).on (uh HB0) hg4
    exact ⟨hh.own,hh.bel,fun _=>⟨Nat.le_trans ((uh hX3).top (uh HB0)) lG,hA.lie⟩⟩
   have hll:=(uh hLHl)
   clear lG hA hg4 hX3 b4
   go_wp2_with (at_builtin;refine wpList_append_own _ rfl _ _ 91 rfl base 94 i0 .nilIface 1 16 Tryz.underlying91 hi hz0 hz1 hz2 rfl (by decide) _ _ _ rfl ((uh hX4).own.alloc _) ⟨w4.heap.size,0,none⟩ 1 1 [Sn.clV G] rfl rfl (Sn.news w4 #[Sn.clV G] _ _ rfl) ?_ ?_ ?_ ?_ ?_)
   ·intro u hu;simp at hu;subst hu;rfl
   ·unfold maxLen;omega
   ·omega
   ·have:=(uh hX4).top (uh HB0);simp;omega
   intro v5 w5 hown hgrow _
   have hX5:Hid (Sn.Ch W0 w5 base v5 (LH ++ Sn.chC false G) false G c):=(uh hX4).more (u:=Sn.clV G) (uh HB0) (World.grownBy_alloc _ _ _) hown hgrow
   clear hown hgrow hX4
   go_wp2
   go_meet
   exact ⟨G,hX5⟩
 case rest =>
 obtain ⟨G,hX4⟩:=hcut
 clear hX3 cTw
 obtain ⟨LC,hLC⟩:∃L,LH ++ Sn.chC k1 G=L:=⟨_,rfl⟩
 have hLCl:Hid (LC.length≤2):=by
  have h1:=uh hLHl
  have h2:=Sn.chC_len k1 G
  show LC.length≤2
  rw [←hLC,List.length_append]
  omega
 rw [hLC] at hX4
 have hpost2:Hid (∀v x,Sn.Ch W0 x base v (LC ++ Sn.chE E F 32 ++ Sn.chI I J 40) k1 G c→D (.returned v) x):=fun v x hx=>uh hpost G v x (by rw [hLC];exact hx)
 clear hLC hpost hLHl
 have b5:=(uh hbx _ (uh hX4).bel).1.eleven.2.2.2.2.2.1
 have d5:=(uh hbx _ (uh hX4).bel).2.1.eleven.2.2.2.2.2.1
 go_wp2_with fail
 go_loopw [5,6,39] (fun v5 vo vk wr=>∃k:Nat,k≤32∧vk=.int .i64 (k:Int)∧Hid (Sn.Ch W0 wr base v5 (LC ++ Sn.chE E F k) k1 G c)) (fun _ _ vk _=>60 - (intOf vk).toNat)
 case atStart=>exact ⟨0,by omega,rfl,by rw [show Sn.chE E F 0=[] from rfl,List.append_nil];exact hX4⟩
 case round =>
  clear hX4 b5 d5
  obtain ⟨k,hk,rfl,hX⟩:=hrel
  have b5:=(uh hbx _ (uh hX).bel).1.eleven.2.2.2.2.2.1
  have d5:=(uh hbx _ (uh hX).bel).2.1.eleven.2.2.2.2.2.1
  by_cases hlt:k<32
  ·have hlt':(k:Int)<32:=by omega
   have HL:=hide hlt
   have hll:Hid ((LC ++ Sn.chE E F k).length≤34):=by
    show (LC ++ Sn.chE E F k).length≤34
    have:=uh hLCl;have:=Sn.chE_len E F k;rw [List.length_append];omega
   obtain ⟨r0,r1,r2,r3,r4,r5,r6,r7,r8,r9,r10⟩:=(uh hbx _ (uh hX).bel).2.2.1.own.ents.row (uh HL)
   obtain ⟨v0,v1,v2,v3,v4,v5,v6,v7,v8,v9,v10⟩:=(uh hbx _ (uh hX).bel).2.2.2.own.ents.row (uh HL)
   have hcmp:∀wx:World,(binOp .neq 72 (.agg #[.int .i64 (E k 0),.int .i64 (E k 1),.int .i64 (E k 2),.int .i64 (E k 3),.int .i64 (E k 4),.int .i64 (E k 5),.int .i64 (E k 6),.int .i64 (E k 7),.int .i64 (E k 8),.int .i64 (E k 9),.int .i64 (E k 10)]) (.agg #[.int .i64 (F k 0),.int .i64 (F k 1),.int .i64 (F k 2),.int .i64 (F k 3),.int .i64 (F k 4),.int .i64 (F k 5),.int .i64 (F k 6),.int .i64 (F k 7),.int .i64 (F k 8),.int .i64 (F k 9),.int .i64 (F k 10)])).run Tryz.prog wx=.ok (.bool (!Sn.sameE (E k) (F k))) wx:=fun wx=>run_ne_ent (E k) (F k) wx
   have hmo:Hid (Sn.chE E F (k+1)=Sn.chE E F k ++ if Sn.sameE (E k) (F k)=true then [] else [Sn.enV k (E k)]):=rfl
   obtain ⟨p,hp⟩:∃p,Sn.sameE (E k) (F k)=p:=⟨_,rfl⟩
   rw [hp] at hcmp hmo
   have hXd:Hid (∀m,Sn.Ch W0 (wr.drewN m) base u5 (LC ++ Sn.chE E F k) k1 G c):=fun m=>(uh hX).on (uh HB0) (gdw (World.grownBy.refl _ none) m)
   clear hlt hk hp
   go_wp2_with fail
   go_quiet (fail)
   have hX5:=hide (uh hXd nq)
   clear hXd hX r0 r1 r2 r3 r4 r5 r6 r7 r8 r9 r10 v0 v1 v2 v3 v4 v5 v6 v7 v8 v9 v10 hcmp b5 d5
   generalize wr.drewN nq=w5 at hX5 ⊢
   cases p with
   | true =>
    rw [if_pos rfl,List.append_nil] at hmo
    have hX6:Hid (Sn.Ch W0 w5 base u5 (LC ++ Sn.chE E F (k+1)) k1 G c):=by
     rw [uh hmo]
     exact hX5
    go_wp2
    go_roundw
    case rel=>exact ⟨k+1,by have:=uh HL;omega,by go_num,hX6⟩
    case measure=>simp [intOf];have:=uh HL;omega
   | false =>
    have hmo':Hid (Sn.chE E F (k+1)=Sn.chE E F k ++ [Sn.enV k (E k)]):=uh hmo
    have b5:=(uh hbx _ (uh hX5).bel).1.eleven.2.2.2.2.2.1
    obtain ⟨r0,r1,r2,r3,r4,r5,r6,r7,r8,r9,r10⟩:=(uh hbx _ (uh hX5).bel).2.2.1.own.ents.row (uh HL)
    obtain ⟨l,hl⟩:∃l,LC ++ Sn.chE E F k=l:=⟨_,rfl⟩
    rw [hl] at hX5 hll
    have hl':=hide hl
    clear hl hmo
    go_upto_region 10 with fail
    go_wp2_with (at_builtin;refine wpList_append_own _ rfl _ _ 91 rfl base 94 i0 .nilIface 1 16 Tryz.underlying91 hi hz0 hz1 hz2 rfl (by decide) _ _ _ rfl ((uh hX5).own.alloc _) ⟨w5.heap.size,0,none⟩ 1 1 [Sn.enV k (E k)] rfl rfl (Sn.news w5 #[Sn.enV k (E k)] _ _ rfl) ?_ ?_ ?_ ?_ ?_)
    ·intro u hu;simp at hu;subst hu;rfl
    ·have:=uh hll;unfold maxLen;omega
    ·have:=uh hll;omega
    ·have:=(uh hX5).top (uh HB0);simp;omega
    intro v6 w6 hown hgrow _
    have hX6:Hid (Sn.Ch W0 w6 base v6 (LC ++ Sn.chE E F (k+1)) k1 G c):=by
     rw [uh hmo',←List.append_assoc,uh hl']
     exact (uh hX5).more (u:=Sn.enV k (E k)) (uh HB0) (World.grownBy_alloc _ _ _) hown hgrow
    clear hown hgrow hX5 b5 r0 r1 r2 r3 r4 r5 r6 r7 r8 r9 r10
    go_wp2
    go_roundw
    case rel=>exact ⟨k+1,by have:=uh HL;omega,by go_num,hX6⟩
    case measure=>simp [intOf];have:=uh HL;omega
  ·obtain rfl:k=32:=by omega
   have hge:¬((32:Nat):Int)<32:=by omega
   clear hlt hk
   have b6:=(uh hbx _ (uh hX).bel).1.eleven.2.2.2.2.2.2.1
   have d6:=(uh hbx _ (uh hX).bel).2.1.eleven.2.2.2.2.2.2.1
   clear b5 d5
   obtain ⟨LE,hLE⟩:∃L,LC ++ Sn.chE E F 32=L:=⟨_,rfl⟩
   have hLEl:Hid (LE.length≤34):=by
    have h1:=uh hLCl
    have h2:=Sn.chE_len E F 32
    show LE.length≤34
    rw [←hLE,List.length_append]
    omega
   rw [hLE] at hX hpost2
   clear hLE
   go_wp2_with fail
   go_loopw [5,7,72] (fun v5 vo vk wr=>∃k:Nat,k≤40∧vk=.int .i64 (k:Int)∧Hid (Sn.Ch W0 wr base v5 (LE ++ Sn.chI I J k) k1 G c)) (fun _ _ vk _=>60 - (intOf vk).toNat)
   case atStart=>exact ⟨0,by omega,rfl,by rw [show Sn.chI I J 0=[] from rfl,List.append_nil];exact hX⟩
   case round =>
    clear hX b6 d6 hge
    obtain ⟨k,hk,rfl,hX⟩:=hrel
    have b5:=(uh hbx _ (uh hX).bel).1.eleven.2.2.2.2.2.2.1
    have d5:=(uh hbx _ (uh hX).bel).2.1.eleven.2.2.2.2.2.2.1
    by_cases hlt:k<40
    ·have hlt':(k:Int)<40:=by omega
     have HL:=hide hlt
     have hll:Hid ((LE ++ Sn.chI I J k).length≤74):=by
      show (LE ++ Sn.chI I J k).length≤74
      have:=uh hLEl;have:=Sn.chI_len I J k;rw [List.length_append];omega
     obtain ⟨r0,r1,r2,r3⟩:=(uh hbx _ (uh hX).bel).2.2.1.its.row (uh HL)
     obtain ⟨v0,v1,v2,v3⟩:=(uh hbx _ (uh hX).bel).2.2.2.its.row (uh HL)
     have hcmp:∀wx:World,(binOp .neq 74 (.agg #[.int .i64 (I k 0),.int .i64 (I k 1),.int .i64 (I k 2),.int .i64 (I k 3)]) (.agg #[.int .i64 (J k 0),.int .i64 (J k 1),.int .i64 (J k 2),.int .i64 (J k 3)])).run Tryz.prog wx=.ok (.bool (!Sn.sameI (I k) (J k))) wx:=fun wx=>run_ne_item (I k 0) (I k 1) (I k 2) (I k 3) (J k 0) (J k 1) (J k 2) (J k 3) wx
     have hmo:Hid (Sn.chI I J (k+1)=Sn.chI I J k ++ if Sn.sameI (I k) (J k)=true then [] else [Sn.itV k (I k)]):=rfl
     obtain ⟨p,hp⟩:∃p,Sn.sameI (I k) (J k)=p:=⟨_,rfl⟩
     rw [hp] at hcmp hmo
     have hXd:Hid (∀m,Sn.Ch W0 (wr.drewN m) base u5 (LE ++ Sn.chI I J k) k1 G c):=fun m=>(uh hX).on (uh HB0) (gdw (World.grownBy.refl _ none) m)
     clear hlt hk hp
     go_wp2_with fail
     go_quiet (fail)
     have hX5:=hide (uh hXd nq)
     clear hXd hX r0 r1 r2 r3 v0 v1 v2 v3 hcmp b5 d5
     generalize wr.drewN nq=w5 at hX5 ⊢
     cases p with
     | true =>
      rw [if_pos rfl,List.append_nil] at hmo
      have hX6:Hid (Sn.Ch W0 w5 base u5 (LE ++ Sn.chI I J (k+1)) k1 G c):=by
       rw [uh hmo]
       exact hX5
      go_wp2
      go_roundw
      case rel=>exact ⟨k+1,by have:=uh HL;omega,by go_num,hX6⟩
      case measure=>simp [intOf];have:=uh HL;omega
     | false =>
      have hmo':Hid (Sn.chI I J (k+1)=Sn.chI I J k ++ [Sn.itV k (I k)]):=uh hmo
      have b5:=(uh hbx _ (uh hX5).bel).1.eleven.2.2.2.2.2.2.1
      obtain ⟨r0,r1,r2,r3⟩:=(uh hbx _ (uh hX5).bel).2.2.1.its.row (uh HL)
      obtain ⟨l,hl⟩:∃l,LE ++ Sn.chI I J k=l:=⟨_,rfl⟩
      rw [hl] at hX5 hll
      have hl':=hide hl
      clear hl hmo
      go_upto_region 16 with fail
      go_wp2_with (at_builtin;refine wpList_append_own _ rfl _ _ 91 rfl base 94 i0 .nilIface 1 16 Tryz.underlying91 hi hz0 hz1 hz2 rfl (by decide) _ _ _ rfl ((uh hX5).own.alloc _) ⟨w5.heap.size,0,none⟩ 1 1 [Sn.itV k (I k)] rfl rfl (Sn.news w5 #[Sn.itV k (I k)] _ _ rfl) ?_ ?_ ?_ ?_ ?_)
      ·intro u hu;simp at hu;subst hu;rfl
      ·have:=uh hll;unfold maxLen;omega
      ·have:=uh hll;omega
      ·have:=(uh hX5).top (uh HB0);simp;omega
      intro v6 w6 hown hgrow _
      have hX6:Hid (Sn.Ch W0 w6 base v6 (LE ++ Sn.chI I J (k+1)) k1 G c):=by
       rw [uh hmo',←List.append_assoc,uh hl']
       exact (uh hX5).more (u:=Sn.itV k (I k)) (uh HB0) (World.grownBy_alloc _ _ _) hown hgrow
      clear hown hgrow hX5 b5 r0 r1 r2 r3
      go_wp2
      go_roundw
      case rel=>exact ⟨k+1,by have:=uh HL;omega,by go_num,hX6⟩
      case measure=>simp [intOf];have:=uh HL;omega
    ·obtain rfl:k=40:=by omega
     have hge:¬((40:Nat):Int)<40:=by omega
     clear hlt hk
     have hf:=hide (uh hpost2 _ _ (uh hX))
     clear hX b5 d5
     go_wp2
     exact uh hf


open Go.RowKit

theorem asHd (v:Value) (w:World):(Instr.typeAssert (.iface 84 v) 94 84 true).run Tryz.prog w=.ok (.tuple #[v,.bool true]) w:=by kernel_rfl

theorem asCl (v:Value) (w:World):(Instr.typeAssert (.iface 137 v) 94 137 true).run Tryz.prog w=.ok (.tuple #[v,.bool true]) w:=by kernel_rfl

theorem asClHd (v:Value) (w:World):(Instr.typeAssert (.iface 137 v) 94 84 true).run Tryz.prog w=.ok (.tuple #[.agg #[.int .i64 0,.int .i64 0,.int .i64 0,.int .i64 0,.int .i64 0,.int .i64 0,.int .i64 0,.int .i64 0],.bool false]) w:=by kernel_rfl

theorem asEn (v:Value) (w:World):(Instr.typeAssert (.iface 139 v) 94 139 true).run Tryz.prog w=.ok (.tuple #[v,.bool true]) w:=by kernel_rfl

theorem asEnHd (v:Value) (w:World):(Instr.typeAssert (.iface 139 v) 94 84 true).run Tryz.prog w=.ok (.tuple #[.agg #[.int .i64 0,.int .i64 0,.int .i64 0,.int .i64 0,.int .i64 0,.int .i64 0,.int .i64 0,.int .i64 0],.bool false]) w:=by kernel_rfl

theorem asEnCl (v:Value) (w:World):(Instr.typeAssert (.iface 139 v) 94 137 true).run Tryz.prog w=.ok (.tuple #[.slice none 0 0,.bool false]) w:=by kernel_rfl

theorem asIt (v:Value) (w:World):(Instr.typeAssert (.iface 141 v) 94 141 true).run Tryz.prog w=.ok (.tuple #[v,.bool true]) w:=by kernel_rfl

theorem asItHd (v:Value) (w:World):(Instr.typeAssert (.iface 141 v) 94 84 true).run Tryz.prog w=.ok (.tuple #[.agg #[.int .i64 0,.int .i64 0,.int .i64 0,.int .i64 0,.int .i64 0,.int .i64 0,.int .i64 0,.int .i64 0],.bool false]) w:=by kernel_rfl

theorem asItCl (v:Value) (w:World):(Instr.typeAssert (.iface 141 v) 94 137 true).run Tryz.prog w=.ok (.tuple #[.slice none 0 0,.bool false]) w:=by kernel_rfl

theorem asItEn (v:Value) (w:World):(Instr.typeAssert (.iface 141 v) 94 139 true).run Tryz.prog w=.ok (.tuple #[.agg #[.int .i64 0,.int .i64 0,.int .i64 0,.int .i64 0,.int .i64 0,.int .i64 0,.int .i64 0,.int .i64 0,.int .i64 0,.int .i64 0,.int .i64 0,.int .i64 0],.bool false]) w:=by kernel_rfl

set_option maxRecDepth 8000 in
set_option maxHeartbeats 1600000 in
theorem told_hd (s g:Nat→Int) (w:World):Calls Tryz.prog 53 #[Sn.hdV s g] w (Says w (.agg #[.int .i64 0,.int .i64 0])):=by
 obtain ⟨w0,hw0⟩:∃w0,w0=(w.alloc (.cells #[.int .i64 0,.int .i64 0] 96)).alloc (.cells #[.int .i64 0,.int .i64 0] 96):=⟨_,rfl⟩
 have hg0:w.grownBy w0 none:=by rw [hw0];exact gal (World.grownBy_alloc _ _ _) _
 obtain ⟨P,hP⟩:∃P,w.heap.size=P:=⟨_,rfl⟩
 have hA:Lie w0 P 96 2 (fun _=>.int .i64 0):=by
  rw [hw0,←hP]
  refine ((Arr.lit (heap_alloc_new w _)).alloc _).lie.congr fun c hc=>?_
  have:c<2:=hc
  rcases (show c=0∨c=1 by omega) with rfl | rfl <;> rfl
 have hB:Lie w0 (P+1) 96 2 (fun _=>.int .i64 0):=by
  rw [hw0,←hP]
  have h:=heap_alloc_new (w.alloc (.cells #[.int .i64 0,.int .i64 0] 96)) (.cells #[.int .i64 0,.int .i64 0] 96)
  rw [show (w.alloc (.cells #[.int .i64 0,.int .i64 0] 96)).heap.size=w.heap.size+1 by simp] at h
  refine (Arr.lit h).lie.congr fun c hc=>?_
  have:c<2:=hc
  rcases (show c=0∨c=1 by omega) with rfl | rfl <;> rfl
 have ay:=fun v w=>asHd v w
 have HP:=hide hP
 have HG:=hide hg0
 have HA:=hide hA
 have HB:=hide hB
 clear hg0 hA hB
 unfold Sn.hdV
 go_enter Tryz.func53,Tryz.ntmps53
 go_upto_region 2 with fail
 rw [←hw0]
 clear hw0
 go_upto_region 5 with fail
 obtain ⟨w1,hw1⟩:∃w1,w1=w0.alloc (.cells #[.int .i64 (s 0),.int .i64 (s 1),.int .i64 (s 2),.int .i64 (s 3),.int .i64 (g 0),.int .i64 (g 1),.int .i64 (g 2),.int .i64 (g 3)] 84):=⟨_,rfl⟩
 have hg1:w0.grownBy w1 none:=by rw [hw1];exact World.grownBy_alloc _ _ _
 have hD:Lie w1 w0.heap.size 84 8 (fun j=>#[Value.int .i64 (s 0),.int .i64 (s 1),.int .i64 (s 2),.int .i64 (s 3),.int .i64 (g 0),.int .i64 (g 1),.int .i64 (g 2),.int .i64 (g 3)][j]?.getD undef):=by
  rw [hw1]
  exact (Arr.lit (heap_alloc_new w0 _)).lie
 rw [←hw1]
 have HA1:=hide ((uh HA).on hg1)
 have HB1:=hide ((uh HB).on hg1)
 have HG1:=hide (gtr (uh HG) hg1)
 obtain ⟨D,hDe⟩:∃D,w0.heap.size=D:=⟨_,rfl⟩
 rw [hDe] at hD ⊢
 have HD:=hide hD
 clear hw1 hg1 hD hDe HA HB HG
 have fA:=(uh HA1).free
 have fB:=(uh HB1).free
 have y0:w1.cell? ⟨P,0,none⟩=some (.int .i64 0):=(uh HA1).cell (c:=0) (by omega)
 have y1:w1.cell? ⟨P,1,none⟩=some (.int .i64 0):=(uh HA1).cell (c:=1) (by omega)
 have z0:w1.cell? ⟨P+1,0,none⟩=some (.int .i64 0):=(uh HB1).cell (c:=0) (by omega)
 have z1:w1.cell? ⟨P+1,1,none⟩=some (.int .i64 0):=(uh HB1).cell (c:=1) (by omega)
 have hfin:Hid (∀l l2,w.grownBy ((w1.setCells (P+1) 0 l).setCells P 0 l2) none):=fun l l2=>own_sets (by have:=uh HP;omega) l2 0 _ (own_sets (by have:=uh HP;omega) l 0 w1 (uh HG1))
 go_wp2
 refine bodyPost_ret (v:=.agg #[.int .i64 0,.int .i64 0]) (by simp [results,Tryz.results53,go_sem,y0,y1]) rfl ?_
 exact ⟨rfl,uh hfin [_] [_,_]⟩

set_option maxRecDepth 8000 in
set_option maxHeartbeats 1600000 in
theorem told_cl (G:Nat) (w:World):Calls Tryz.prog 53 #[Sn.clV G] w (Says w (.agg #[.int .i64 1,.int .i64 0])):=by
 obtain ⟨w0,hw0⟩:∃w0,w0=(w.alloc (.cells #[.int .i64 0,.int .i64 0] 96)).alloc (.cells #[.int .i64 0,.int .i64 0] 96):=⟨_,rfl⟩
 have hg0:w.grownBy w0 none:=by rw [hw0];exact gal (World.grownBy_alloc _ _ _) _
 obtain ⟨P,hP⟩:∃P,w.heap.size=P:=⟨_,rfl⟩
 have hA:Lie w0 P 96 2 (fun _=>.int .i64 0):=by
  rw [hw0,←hP]
  refine ((Arr.lit (heap_alloc_new w _)).alloc _).lie.congr fun c hc=>?_
  have:c<2:=hc
  rcases (show c=0∨c=1 by omega) with rfl | rfl <;> rfl
 have hB:Lie w0 (P+1) 96 2 (fun _=>.int .i64 0):=by
  rw [hw0,←hP]
  have h:=heap_alloc_new (w.alloc (.cells #[.int .i64 0,.int .i64 0] 96)) (.cells #[.int .i64 0,.int .i64 0] 96)
  rw [show (w.alloc (.cells #[.int .i64 0,.int .i64 0] 96)).heap.size=w.heap.size+1 by simp] at h
  refine (Arr.lit h).lie.congr fun c hc=>?_
  have:c<2:=hc
  rcases (show c=0∨c=1 by omega) with rfl | rfl <;> rfl
 have a0:=fun v w=>asClHd v w
 have ay:=fun v w=>asCl v w
 have HP:=hide hP
 have HG:=hide hg0
 have HA:=hide hA
 have HB:=hide hB
 clear hg0 hA hB
 unfold Sn.clV
 go_enter Tryz.func53,Tryz.ntmps53
 go_upto_region 2 with fail
 rw [←hw0]
 clear hw0
 have fA:=(uh HA).free
 have fB:=(uh HB).free
 have y0:w0.cell? ⟨P,0,none⟩=some (.int .i64 0):=(uh HA).cell (c:=0) (by omega)
 have y1:w0.cell? ⟨P,1,none⟩=some (.int .i64 0):=(uh HA).cell (c:=1) (by omega)
 have z0:w0.cell? ⟨P+1,0,none⟩=some (.int .i64 0):=(uh HB).cell (c:=0) (by omega)
 have z1:w0.cell? ⟨P+1,1,none⟩=some (.int .i64 0):=(uh HB).cell (c:=1) (by omega)
 have hfin:Hid (∀l l2,w.grownBy ((w0.setCells (P+1) 0 l).setCells P 0 l2) none):=fun l l2=>own_sets (by have:=uh HP;omega) l2 0 _ (own_sets (by have:=uh HP;omega) l 0 w0 (uh HG))
 go_wp2
 refine bodyPost_ret (v:=.agg #[.int .i64 1,.int .i64 0]) (by simp [results,Tryz.results53,go_sem,y0,y1]) rfl ?_
 exact ⟨rfl,uh hfin [_] [_,_]⟩

set_option maxRecDepth 8000 in
set_option maxHeartbeats 1600000 in
theorem told_en (n:Nat) (e:Nat→Int) (w:World):Calls Tryz.prog 53 #[Sn.enV n e] w (Says w (.agg #[.int .i64 2,.int .i64 (n:Int)])):=by
 obtain ⟨w0,hw0⟩:∃w0,w0=(w.alloc (.cells #[.int .i64 0,.int .i64 0] 96)).alloc (.cells #[.int .i64 0,.int .i64 0] 96):=⟨_,rfl⟩
 have hg0:w.grownBy w0 none:=by rw [hw0];exact gal (World.grownBy_alloc _ _ _) _
 obtain ⟨P,hP⟩:∃P,w.heap.size=P:=⟨_,rfl⟩
 have hA:Lie w0 P 96 2 (fun _=>.int .i64 0):=by
  rw [hw0,←hP]
  refine ((Arr.lit (heap_alloc_new w _)).alloc _).lie.congr fun c hc=>?_
  have:c<2:=hc
  rcases (show c=0∨c=1 by omega) with rfl | rfl <;> rfl
 have hB:Lie w0 (P+1) 96 2 (fun _=>.int .i64 0):=by
  rw [hw0,←hP]
  have h:=heap_alloc_new (w.alloc (.cells #[.int .i64 0,.int .i64 0] 96)) (.cells #[.int .i64 0,.int .i64 0] 96)
  rw [show (w.alloc (.cells #[.int .i64 0,.int .i64 0] 96)).heap.size=w.heap.size+1 by simp] at h
  refine (Arr.lit h).lie.congr fun c hc=>?_
  have:c<2:=hc
  rcases (show c=0∨c=1 by omega) with rfl | rfl <;> rfl
 have a0:=fun v w=>asEnHd v w
 have a1:=fun v w=>asEnCl v w
 have ay:=fun v w=>asEn v w
 have HP:=hide hP
 have HG:=hide hg0
 have HA:=hide hA
 have HB:=hide hB
 clear hg0 hA hB
 unfold Sn.enV
 go_enter Tryz.func53,Tryz.ntmps53
 go_upto_region 2 with fail
 rw [←hw0]
 clear hw0
 go_upto_region 11 with fail
 obtain ⟨w1,hw1⟩:∃w1,w1=w0.alloc (.cells #[.int .i64 (n:Int),.int .i64 (e 0),.int .i64 (e 1),.int .i64 (e 2),.int .i64 (e 3),.int .i64 (e 4),.int .i64 (e 5),.int .i64 (e 6),.int .i64 (e 7),.int .i64 (e 8),.int .i64 (e 9),.int .i64 (e 10)] 139):=⟨_,rfl⟩
 have hg1:w0.grownBy w1 none:=by rw [hw1];exact World.grownBy_alloc _ _ _
 have hD:Lie w1 w0.heap.size 139 12 (fun j=>#[Value.int .i64 (n:Int),.int .i64 (e 0),.int .i64 (e 1),.int .i64 (e 2),.int .i64 (e 3),.int .i64 (e 4),.int .i64 (e 5),.int .i64 (e 6),.int .i64 (e 7),.int .i64 (e 8),.int .i64 (e 9),.int .i64 (e 10)][j]?.getD undef):=by
  rw [hw1]
  exact (Arr.lit (heap_alloc_new w0 _)).lie
 rw [←hw1]
 have HA1:=hide ((uh HA).on hg1)
 have HB1:=hide ((uh HB).on hg1)
 have HG1:=hide (gtr (uh HG) hg1)
 obtain ⟨D,hDe⟩:∃D,w0.heap.size=D:=⟨_,rfl⟩
 rw [hDe] at hD ⊢
 have HD:=hide hD
 clear hw1 hg1 hD hDe HA HB HG
 have fA:=(uh HA1).free
 have fB:=(uh HB1).free
 have y0:w1.cell? ⟨P,0,none⟩=some (.int .i64 0):=(uh HA1).cell (c:=0) (by omega)
 have y1:w1.cell? ⟨P,1,none⟩=some (.int .i64 0):=(uh HA1).cell (c:=1) (by omega)
 have z0:w1.cell? ⟨P+1,0,none⟩=some (.int .i64 0):=(uh HB1).cell (c:=0) (by omega)
 have z1:w1.cell? ⟨P+1,1,none⟩=some (.int .i64 0):=(uh HB1).cell (c:=1) (by omega)
 have x0:w1.cell? ⟨D,0,none⟩=some (.int .i64 (n:Int)):=(uh HD).cell (c:=0) (by omega)
 have nDB:Hid (D≠P+1∧D≠P):=⟨(uh HD).type_ne (uh HB1) (by decide),(uh HD).type_ne (uh HA1) (by decide)⟩
 have n1:=(uh nDB).1
 have n2:=(uh nDB).1.symm
 have hfin:Hid (∀l m l2,w.grownBy (((w1.setCells (P+1) 0 l).drewN m).setCells P 0 l2) none):=fun l m l2=>own_sets (by have:=uh HP;omega) l2 0 _ (gdw (own_sets (by have:=uh HP;omega) l 0 w1 (uh HG1)) m)
 clear HD HA1 HB1 HG1 nDB
 go_region
 all_goals
  go_wp2
  refine bodyPost_ret (v:=.agg #[.int .i64 2,.int .i64 (n:Int)]) (by simp [results,Tryz.results53,go_sem,y0,y1]) rfl ?_
  exact ⟨rfl,uh hfin [_,_] 1 [_,_]⟩

set_option maxRecDepth 8000 in
set_option maxHeartbeats 1600000 in
theorem told_it (n:Nat) (e:Nat→Int) (w:World):Calls Tryz.prog 53 #[Sn.itV n e] w (Says w (.agg #[.int .i64 3,.int .i64 (n:Int)])):=by
 obtain ⟨w0,hw0⟩:∃w0,w0=(w.alloc (.cells #[.int .i64 0,.int .i64 0] 96)).alloc (.cells #[.int .i64 0,.int .i64 0] 96):=⟨_,rfl⟩
 have hg0:w.grownBy w0 none:=by rw [hw0];exact gal (World.grownBy_alloc _ _ _) _
 obtain ⟨P,hP⟩:∃P,w.heap.size=P:=⟨_,rfl⟩
 have hA:Lie w0 P 96 2 (fun _=>.int .i64 0):=by
  rw [hw0,←hP]
  refine ((Arr.lit (heap_alloc_new w _)).alloc _).lie.congr fun c hc=>?_
  have:c<2:=hc
  rcases (show c=0∨c=1 by omega) with rfl | rfl <;> rfl
 have hB:Lie w0 (P+1) 96 2 (fun _=>.int .i64 0):=by
  rw [hw0,←hP]
  have h:=heap_alloc_new (w.alloc (.cells #[.int .i64 0,.int .i64 0] 96)) (.cells #[.int .i64 0,.int .i64 0] 96)
  rw [show (w.alloc (.cells #[.int .i64 0,.int .i64 0] 96)).heap.size=w.heap.size+1 by simp] at h
  refine (Arr.lit h).lie.congr fun c hc=>?_
  have:c<2:=hc
  rcases (show c=0∨c=1 by omega) with rfl | rfl <;> rfl
 have a0:=fun v w=>asItHd v w
 have a1:=fun v w=>asItCl v w
 have a2:=fun v w=>asItEn v w
 have ay:=fun v w=>asIt v w
 have HP:=hide hP
 have HG:=hide hg0
 have HA:=hide hA
 have HB:=hide hB
 clear hg0 hA hB
 unfold Sn.itV
 go_enter Tryz.func53,Tryz.ntmps53
 go_upto_region 2 with fail
 rw [←hw0]
 clear hw0
 go_upto_region 14 with fail
 obtain ⟨w1,hw1⟩:∃w1,w1=w0.alloc (.cells #[.int .i64 (n:Int),.int .i64 (e 0),.int .i64 (e 1),.int .i64 (e 2),.int .i64 (e 3)] 141):=⟨_,rfl⟩
 have hg1:w0.grownBy w1 none:=by rw [hw1];exact World.grownBy_alloc _ _ _
 have hD:Lie w1 w0.heap.size 141 5 (fun j=>#[Value.int .i64 (n:Int),.int .i64 (e 0),.int .i64 (e 1),.int .i64 (e 2),.int .i64 (e 3)][j]?.getD undef):=by
  rw [hw1]
  exact (Arr.lit (heap_alloc_new w0 _)).lie
 rw [←hw1]
 have HA1:=hide ((uh HA).on hg1)
 have HB1:=hide ((uh HB).on hg1)
 have HG1:=hide (gtr (uh HG) hg1)
 obtain ⟨D,hDe⟩:∃D,w0.heap.size=D:=⟨_,rfl⟩
 rw [hDe] at hD ⊢
 have HD:=hide hD
 clear hw1 hg1 hD hDe HA HB HG
 have fA:=(uh HA1).free
 have fB:=(uh HB1).free
 have y0:w1.cell? ⟨P,0,none⟩=some (.int .i64 0):=(uh HA1).cell (c:=0) (by omega)
 have y1:w1.cell? ⟨P,1,none⟩=some (.int .i64 0):=(uh HA1).cell (c:=1) (by omega)
 have z0:w1.cell? ⟨P+1,0,none⟩=some (.int .i64 0):=(uh HB1).cell (c:=0) (by omega)
 have z1:w1.cell? ⟨P+1,1,none⟩=some (.int .i64 0):=(uh HB1).cell (c:=1) (by omega)
 have x0:w1.cell? ⟨D,0,none⟩=some (.int .i64 (n:Int)):=(uh HD).cell (c:=0) (by omega)
 have nDB:Hid (D≠P+1∧D≠P):=⟨(uh HD).type_ne (uh HB1) (by decide),(uh HD).type_ne (uh HA1) (by decide)⟩
 have n1:=(uh nDB).1
 have n2:=(uh nDB).1.symm
 have hfin:Hid (∀l m l2,w.grownBy (((w1.setCells (P+1) 0 l).drewN m).setCells P 0 l2) none):=fun l m l2=>own_sets (by have:=uh HP;omega) l2 0 _ (gdw (own_sets (by have:=uh HP;omega) l 0 w1 (uh HG1)) m)
 clear HD HA1 HB1 HG1 nDB
 go_region
 all_goals
  go_wp2
  refine bodyPost_ret (v:=.agg #[.int .i64 3,.int .i64 (n:Int)]) (by simp [results,Tryz.results53,go_sem,y0,y1]) rfl ?_
  exact ⟨rfl,uh hfin [_,_] 1 [_,_]⟩


open Go.RowKit

def Sn.Tells (v:Value) (p:Int × Int):Prop :=
 (∃s g,v=Sn.hdV s g∧p=(0,0))∨(∃G,v=Sn.clV G∧p=(1,0))∨(∃n e,v=Sn.enV n e∧p=(2,(n:Int)))∨∃n e,v=Sn.itV n e∧p=(3,(n:Int))

theorem told_any {v:Value} {p:Int × Int} (h:Sn.Tells v p) (w:World):Calls Tryz.prog 53 #[v] w (Says w (.agg #[.int .i64 p.1,.int .i64 p.2])):=by
 rcases h with ⟨s,g,rfl,rfl⟩ | ⟨G,rfl,rfl⟩ | ⟨n,e,rfl,rfl⟩ | ⟨n,e,rfl,rfl⟩
 ·exact told_hd s g w
 ·exact told_cl G w
 ·exact told_en n e w
 ·exact told_it n e w

def Sn.rwH (b:Bool):List (Int × Int):=if b=true then [] else [(0,0)]
def Sn.rwC (b:Bool):List (Int × Int):=if b=true then [] else [(1,0)]
def Sn.rwE (q:Nat→Bool):Nat→List (Int × Int)
 | 0=>[]
 | k+1=>Sn.rwE q k ++ if q k=true then [] else [(2,(k:Int))]
def Sn.rwI (q:Nat→Bool):Nat→List (Int × Int)
 | 0=>[]
 | k+1=>Sn.rwI q k ++ if q k=true then [] else [(3,(k:Int))]

def Sn.rw (s t g h c d:Nat→Int) (E F I J:Nat→Nat→Int):List (Int × Int) :=
 Sn.rwH (Sn.sameH s t g h) ++ Sn.rwC (Sn.allB (fun i=>c i == d i) 384) ++ Sn.rwE (fun i=>Sn.sameE (E i) (F i)) 32 ++ Sn.rwI (fun i=>Sn.sameI (I i) (J i)) 40

def Sn.Both (l:List Value) (P:List (Int × Int)):Prop:=l.length=P.length∧∀(k:Nat) (v:Value),l[k]?=some v→∃p,P[k]?=some p∧Sn.Tells v p

theorem Sn.Both.append {l m:List Value} {P Q:List (Int × Int)} (h:Sn.Both l P) (k:Sn.Both m Q):Sn.Both (l ++ m) (P ++ Q):=by
 refine ⟨by rw [List.length_append,List.length_append,h.1,k.1],fun i v hv=>?_⟩
 by_cases hi:i<l.length
 ·rw [List.getElem?_append_left hi] at hv
  rw [List.getElem?_append_left (by rw [←h.1];exact hi)]
  exact h.2 i v hv
 ·rw [List.getElem?_append_right (by omega)] at hv
  rw [List.getElem?_append_right (by rw [←h.1];omega),←h.1]
  exact k.2 _ v hv

theorem Sn.both_nil:Sn.Both [] []:=⟨rfl,fun k v hv=>by simp at hv⟩

theorem Sn.both_one {v:Value} {p:Int × Int} (h:Sn.Tells v p):Sn.Both [v] [p]:=by
 refine ⟨rfl,fun k u hu=>?_⟩
 have hk:k=0:=by
  have:=(List.getElem?_eq_some_iff.1 hu).1
  simpa using this
 subst hk
 simp at hu
 subst hu
 exact ⟨p,rfl,h⟩

theorem Sn.both_all (s t g h c d:Nat→Int) (E F I J:Nat→Nat→Int) (G:Nat):Sn.Both (Sn.chH s t g h ++ Sn.chC (Sn.allB (fun i=>c i == d i) 384) G ++ Sn.chE E F 32 ++ Sn.chI I J 40) (Sn.rw s t g h c d E F I J):=by
 have hE:∀k,Sn.Both (Sn.chE E F k) (Sn.rwE (fun i=>Sn.sameE (E i) (F i)) k):=by
  intro k
  induction k with
  | zero=>exact Sn.both_nil
  | succ k ih =>
   refine ih.append ?_
   by_cases q:Sn.sameE (E k) (F k)=true
   ·rw [if_pos q,if_pos q]
    exact Sn.both_nil
   ·rw [if_neg q,if_neg q]
    exact Sn.both_one (.inr (.inr (.inl ⟨k,E k,rfl,rfl⟩)))
 have hI:∀k,Sn.Both (Sn.chI I J k) (Sn.rwI (fun i=>Sn.sameI (I i) (J i)) k):=by
  intro k
  induction k with
  | zero=>exact Sn.both_nil
  | succ k ih =>
   refine ih.append ?_
   by_cases q:Sn.sameI (I k) (J k)=true
   ·rw [if_pos q,if_pos q]
    exact Sn.both_nil
   ·rw [if_neg q,if_neg q]
    exact Sn.both_one (.inr (.inr (.inr ⟨k,I k,rfl,rfl⟩)))
 refine ((Sn.Both.append ?_ ?_).append (hE 32)).append (hI 40)
 ·unfold Sn.chH Sn.rwH
  split
  ·exact Sn.both_nil
  ·exact Sn.both_one (.inl ⟨s,g,rfl,rfl⟩)
 ·unfold Sn.chC Sn.rwC
  split
  ·exact Sn.both_nil
  ·exact Sn.both_one (.inr (.inl ⟨G,rfl,rfl⟩))

def Sn.prs (P:List (Int × Int)) (k:Nat):Nat→Value:=fun j=>if j<2*k then .int .i64 (if j % 2=0 then (P.getD (j / 2) (0,0)).1 else (P.getD (j / 2) (0,0)).2) else .int .i64 0

def Sn.Gives (w:World) (P:List (Int × Int)) (e:Ending) (w':World):Prop :=
 ∃R,e=.returned (.slice (some ⟨R,0,none⟩) P.length P.length)∧w.heap.size≤R∧Lie w' R 96 (P.length*2) (Sn.prs P P.length)∧w.grownBy w' none

theorem Sn.prs_more {P:List (Int × Int)} {k:Nat} {p:Int × Int} (hp:P[k]?=some p) (j:Nat):(if j=k*2+1 then Value.int .i64 p.2 else if j=k*2 then .int .i64 p.1 else Sn.prs P k j)=Sn.prs P (k+1) j:=by
 have hd:P.getD k (0,0)=p:=by rw [List.getD,hp];rfl
 unfold Sn.prs
 by_cases h1:j=k*2+1
 ·rw [if_pos h1,if_pos (show j<2*(k+1) by omega),if_neg (show ¬j % 2=0 by omega),show j / 2=k by omega,hd]
 ·rw [if_neg h1]
  by_cases h0:j=k*2
  ·rw [if_pos h0,if_pos (show j<2*(k+1) by omega),if_pos (show j % 2=0 by omega),show j / 2=k by omega,hd]
  ·rw [if_neg h0]
   by_cases h2:j<2*k
   ·rw [if_pos h2,if_pos (show j<2*(k+1) by omega)]
   ·rw [if_neg h2,if_neg (show ¬j<2*(k+1) by omega)]

theorem Sn.made2 (n c:Nat) (hc:c<n*2):(madeCells (#[Value.int .i64 0,Value.int .i64 0]:Array Value) (n*2))[c]?=some (.int .i64 0):=by
 have hm:c % 2<2:=by omega
 obtain ⟨m,hmm⟩:∃m,m=c % 2:=⟨_,rfl⟩
 unfold madeCells
 simp [hc]
 rw [←hmm] at hm ⊢
 rcases (show m=0∨m=1 by omega) with rfl | rfl <;> rfl

theorem info_row:(Tryz.prog.info? 96).map (fun i=>(i.zero,i.size,i.bytes))=some (some (.agg #[.int .i64 0,.int .i64 0]),2,16):=by kernel_rfl

set_option maxRecDepth 8000 in
set_option maxHeartbeats 6400000 in
theorem snRows_any (s t g h c d:Nat→Int) (E F I J:Nat→Nat→Int) (gC gE gI cC cE cI jC jE jI dC dE dI:Nat) (w:World) (hL:Gd.Lists w gC gE gI c E I) (hL2:Gd.Lists w jC jE jI d F J) :
  Calls Tryz.prog 23 #[.agg (Gd.world s gC gE gI cC cE cI g),.agg (Gd.world t jC jE jI dC dE dI h)] w (Sn.Gives w (Sn.rw s t g h c d E F I J)):=by
 obtain ⟨W0,hW⟩:∃W,W=(w.alloc (.cells (Gd.world s gC gE gI cC cE cI g) 31)).alloc (.cells (Gd.world t jC jE jI dC dE dI h) 31):=⟨_,rfl⟩
 have hg:w.grownBy W0 none:=by rw [hW];exact gal (World.grownBy_alloc _ _ _) _
 have x1:Lie W0 w.heap.size 31 11 (Gd.box s gC gE gI cC cE cI g):=by
  rw [hW]
  exact ((Arr.world (heap_alloc_new w _)).alloc _).lie
 have x2:Lie W0 (w.heap.size+1) 31 11 (Gd.box t jC jE jI dC dE dI h):=by
  rw [hW]
  have hh:=heap_alloc_new (w.alloc (.cells (Gd.world s gC gE gI cC cE cI g) 31)) (.cells (Gd.world t jC jE jI dC dE dI h) 31)
  rw [show (w.alloc (.cells (Gd.world s gC gE gI cC cE cI g) 31)).heap.size=w.heap.size+1 by simp] at hh
  exact (Arr.world hh).lie
 obtain ⟨B,hB⟩:∃B,w.heap.size=B:=⟨_,rfl⟩
 rw [hB] at x1 x2
 have cc:=hide (changed_any s t g h c d E F I J gC gE gI cC cE cI jC jE jI dC dE dI W0 (hL.on hg) (hL2.on hg))
 have hg':=hide hg
 have hall:=hide (fun G=>Sn.both_all s t g h c d E F I J G)
 obtain ⟨P,hP⟩:∃P,Sn.rw s t g h c d E F I J=P:=⟨_,rfl⟩
 rw [hP] at hall ⊢
 have hPl:Hid (P.length≤74):=by
  have hb:=(uh hall 0).1
  have q1:=Sn.chH_len s t g h
  have q2:=Sn.chC_len (Sn.allB (fun i=>c i == d i) 384) 0
  have q3:=Sn.chE_len E F 32
  have q4:=Sn.chI_len I J 40
  simp only [List.length_append] at hb
  show P.length≤74
  omega
 obtain ⟨a0,a1,a2,a3,a4,a5,a6,a7,a8,a9,a10⟩:=x1.eleven
 obtain ⟨b0,b1,b2,b3,b4,b5,b6,b7,b8,b9,b10⟩:=x2.eleven
 clear hL hL2 hg x1 x2 hP
 unfold Gd.world at hW cc ⊢
 go_enter Tryz.func23,Tryz.ntmps23
 go_upto_region 1 with fail
 rw [←hW]
 clear hW hB
 go_wp2_with fail
 refine (uh cc).mono ?_
 rintro e w1 ⟨G,v,base,rfl,hbase,hown,-,hg1⟩
 have hbo:=uh hall G
 obtain ⟨l,hl⟩:∃l,Sn.chH s t g h ++ Sn.chC (Sn.allB (fun i=>c i == d i) 384) G ++ Sn.chE E F 32 ++ Sn.chI I J 40=l:=⟨_,rfl⟩
 rw [hl] at hown hbo
 have hbo':=hide hbo
 have hown':=hide hown
 have hn:=hbo.1
 have hG1:=hide (gtr (uh hg') hg1)
 clear hl hown hbo hg1 cc hall a0 a1 a2 a3 a4 a5 a6 a7 a8 a9 a10 b0 b1 b2 b3 b4 b5 b6 b7 b8 b9 b10 hbase hg'
 obtain ⟨n,hne⟩:∃n,l.length=n:=⟨_,rfl⟩
 rw [hne] at hown' hn
 have HN:=hide hn
 have hn74:n≤74:=by rw [hn];exact uh hPl
 have hfm:∃a cap,v=.slice a n cap∧∀k,k<n→∃b,a=some ⟨b,0,none⟩∧b<w1.heap.size∧w1.cell? ⟨b,k,none⟩=l[k]?:=by
  rcases (uh hown').2 with ⟨rfl,h0⟩ | ⟨gg,cap,cur,rfl,_,hgg,_,_,_,_⟩
  ·exact ⟨none,0,by rw [h0],fun k hk=>by omega⟩
  ·exact ⟨_,cap,rfl,fun k hk=>⟨gg,rfl,lt_of_block hgg,by rw [(uh hown').cellAt k (by omega)]⟩⟩
 obtain ⟨a,cap,rfl,hcel⟩:=hfm
 have hcel':=hide hcel
 clear hcel hne hown' hn
 obtain ⟨i0,hi,hz0,hz1,hz2⟩:=info_parts info_row
 go_wp2_with (at_make;refine wpList_make_full _ rfl _ _ 52 rfl w1.heap.size 96 i0 (.agg #[.int .i64 0,.int .i64 0]) 2 Tryz.underlying52 hi hz0 hz1 .i64 .i64 _ _ n rfl rfl rfl rfl ?q3 ?q4 ?q5 ?_)
 any_goals (first | (rw [hz2];omega) | (unfold maxLen;omega) | exact Nat.le_refl _)
 intro w2 hown2 hgrow2
 obtain ⟨R,hR⟩:∃R,w1.heap.size=R:=⟨_,rfl⟩
 rw [hR] at hown2 ⊢
 have hX0:Hid (Lie w2 R 96 (n*2) (Sn.prs P 0)∧w1.grownBy w2 none):=by
  refine ⟨?_,hgrow2⟩
  rcases hown2.2 with ⟨h',_⟩ | ⟨g',cap',cur,h',_,hgg,_,_,hcs,htake⟩
  ·simp at h'
  ·simp only [Value.slice.injEq,Option.some.injEq,Addr.mk.injEq,and_true,true_and] at h'
   obtain ⟨rfl,rfl⟩:=h'
   refine ⟨cur.size,fun j=>cur[j]?.getD undef,Arr.lit hgg,by rw [hcs];omega,fun j hj=>?_⟩
   have e:=Sn.made2 n j hj
   rw [←Array.getElem?_toList,←htake,List.getElem?_take,if_pos hj,Array.getElem?_toList] at e
   show cur[j]?.getD undef=_
   rw [e]
   unfold Sn.prs
   rw [if_neg (by omega)]
   rfl
 have HR:=hide hR
 have hnR:Hid (w.heap.size≤R):=(show w.heap.size≤R by have:=(uh hG1).size;omega)
 have hn63:(n:Int)≤74:=by omega
 clear hown2 hgrow2 hi hz0 hz1 hz2 hR hn74
 go_wp2_with fail
 go_loopw [7,8,17] (fun v7 v8 v17 wr=>∃k:Nat,k≤n∧v17=.int .i64 (k:Int)∧Hid (Lie wr R 96 (n*2) (Sn.prs P k)∧w1.grownBy wr none)) (fun _ _ v17 _=>100 - (intOf v17).toNat)
 case atStart=>exact ⟨0,by omega,rfl,hX0⟩
 case round =>
  clear hX0
  obtain ⟨k,hk,rfl,hX⟩:=hrel
  by_cases hlt:k<n
  ·have hlt':(k:Int)<(n:Int):=by omega
   have HL:=hide hlt
   obtain ⟨b,rfl,hb,hc⟩:=uh hcel' k hlt
   have hlk:k<l.length:=by rw [(uh hbo').1,←uh HN];exact hlt
   obtain ⟨u,hu⟩:∃u,l[k]?=some u:=⟨_,List.getElem?_eq_getElem hlk⟩
   obtain ⟨p,hp,hT⟩:=(uh hbo').2 k u hu
   have u0:wr.cell? ⟨b,k,none⟩=some u:=by
    rw [gce (uh hX).2 b k hb (by simp),hc,hu]
   have ct:=hide (fun z=>told_any hT z)
   have HP:=hide hp
   clear hlt hk hb hc hlk hu hp hT
   go_wp2_with fail
   refine (uh ct _).mono ?_
   rintro e w3 ⟨rfl,hg3⟩
   have hX3:=hide (And.intro ((uh hX).1.on hg3) (gtr (uh hX).2 hg3))
   clear hg3 hX ct u0
   have fR:=(uh hX3).1.free
   have z0:=(uh hX3).1.cell (c:=k*2) (by have:=uh HL;omega)
   have z1:=(uh hX3).1.cell (c:=k*2+1) (by have:=uh HL;omega)
   have hX4:Hid (Lie ((w3.setCell ⟨R,k*2,none⟩ (.int .i64 p.1)).setCell ⟨R,k*2+1,none⟩ (.int .i64 p.2)) R 96 (n*2) (Sn.prs P (k+1))∧w1.grownBy ((w3.setCell ⟨R,k*2,none⟩ (.int .i64 p.1)).setCell ⟨R,k*2+1,none⟩ (.int .i64 p.2)) none):=by
    refine ⟨(((uh hX3).1.store (k*2) (.int .i64 p.1)).store (k*2+1) (.int .i64 p.2)).congr fun j _=>Sn.prs_more (uh HP) j,?_⟩
    exact gsr (gsr (uh hX3).2 ⟨R,k*2,none⟩ (by rw [uh HR];exact Nat.le_refl _) _) ⟨R,k*2+1,none⟩ (by rw [uh HR];exact Nat.le_refl _) _
   clear hX3
   go_wp2
   go_roundw
   case rel=>exact ⟨k+1,by have:=uh HL;omega,by go_num,hX4⟩
   case measure=>simp [intOf];have:=uh HL;omega
  ·obtain rfl:k=n:=by omega
   have hge:¬(k:Int)<(k:Int):=by omega
   have hfin:Hid (Sn.Gives w P (.returned (.slice (some ⟨R,0,none⟩) k k)) wr):=by
    have h:=uh hX
    have e:=uh HN
    show Sn.Gives w P (.returned (.slice (some ⟨R,0,none⟩) k k)) wr
    rw [e] at h ⊢
    exact ⟨R,rfl,uh hnR,h.1,gtr (uh hG1) h.2⟩
   clear hlt hk hX
   go_wp2
   go_ret
   exact uh hfin


open Go.RowKit

def Sn.prV (P:List (Int × Int)):List Value:=P.flatMap fun p=>[.int .i64 p.1,.int .i64 p.2]

theorem Sn.prV_more (P:List (Int × Int)) (a b:Int):Sn.prV (P ++ [(a,b)])=Sn.prV P ++ [.int .i64 a,.int .i64 b]:=by
 unfold Sn.prV
 rw [List.flatMap_append]
 rfl

structure Sn.Rr (w x:World) (base:Nat) (v:Value) (P:List (Int × Int)):Prop where
 own:x.ownsRow base 96 2 v P.length (Sn.prV P)
 bel:Below base w x

theorem Sn.Rr.top {w x:World} {base:Nat} {v:Value} {P:List (Int × Int)} (h:Sn.Rr w x base v P) (hb:base≤w.heap.size):base≤x.heap.size:=Nat.le_trans hb h.bel.size

theorem Sn.Rr.on {w x y:World} {base:Nat} {v:Value} {P:List (Int × Int)} (h:Sn.Rr w x base v P) (hb:base≤w.heap.size) (hg:x.grownBy y none):Sn.Rr w y base v P :=
 ⟨h.own.kept hg (by cases v.ownBlock <;> simp),h.bel.trans (Sn.below hg (fun k e=>by cases e) (h.top hb))⟩

theorem Sn.Rr.more {w x y x':World} {base:Nat} {v v':Value} {P:List (Int × Int)} {a b:Int} (h:Sn.Rr w x base v P) (hb:base≤w.heap.size) (hxy:x.grownBy y none) (hown:x'.ownsRow base 96 2 v' (P.length+1) (Sn.prV P ++ [.int .i64 a,.int .i64 b])) (hg:y.grownBy x' v.ownBlock):Sn.Rr w x' base v' (P ++ [(a,b)]):=by
 have hb1:Below base x y:=Sn.below hxy (fun k e=>by cases e) (h.top hb)
 have hb2:=Sn.below hg (fun k e=>(h.own.lt k e).1) (Nat.le_trans (h.top hb) hb1.size)
 refine ⟨?_,h.bel.trans (hb1.trans hb2)⟩
 rw [List.length_append,Sn.prV_more]
 exact hown

def Sn.Brings (w:World) (P:List (Int × Int)) (e:Ending) (w':World):Prop :=
 ∃v base,e=.returned v∧w.heap.size≤base∧w'.ownsRow base 96 2 v P.length (Sn.prV P)∧w.grownBy w' none

theorem Sn.rwE_len (q:Nat→Bool):∀k,(Sn.rwE q k).length≤k
 | 0=>Nat.le_refl _
 | k+1=>by
  have:=Sn.rwE_len q k
  unfold Sn.rwE
  rw [List.length_append]
  split <;> simp <;> omega

theorem Sn.rwI_len (q:Nat→Bool):∀k,(Sn.rwI q k).length≤k
 | 0=>Nat.le_refl _
 | k+1=>by
  have:=Sn.rwI_len q k
  unfold Sn.rwI
  rw [List.length_append]
  split <;> simp <;> omega

set_option maxRecDepth 16000 in
set_option maxHeartbeats 12800000 in
theorem refRows_any (s t g h c d:Nat→Int) (E F I J:Nat→Nat→Int) (gC gE gI cC cE cI jC jE jI dC dE dI:Nat) (w:World) (hL:Gd.Lists w gC gE gI c E I) (hL2:Gd.Lists w jC jE jI d F J) (hc:∀i,0≤c i∧c i≤255) (hd:∀i,0≤d i∧d i≤255) :
  Calls Tryz.prog 25 #[.agg (Gd.world s gC gE gI cC cE cI g),.agg (Gd.world t jC jE jI dC dE dI h)] w (Sn.Brings w (Sn.rw s t g h c d E F I J)):=by
 obtain ⟨W0,hW⟩:∃W,W=(w.alloc (.cells (Gd.world s gC gE gI cC cE cI g) 31)).alloc (.cells (Gd.world t jC jE jI dC dE dI h) 31):=⟨_,rfl⟩
 have hg:w.grownBy W0 none:=by rw [hW];exact gal (World.grownBy_alloc _ _ _) _
 have x1:Lie W0 w.heap.size 31 11 (Gd.box s gC gE gI cC cE cI g):=by
  rw [hW]
  exact ((Arr.world (heap_alloc_new w _)).alloc _).lie
 have x2:Lie W0 (w.heap.size+1) 31 11 (Gd.box t jC jE jI dC dE dI h):=by
  rw [hW]
  have hh:=heap_alloc_new (w.alloc (.cells (Gd.world s gC gE gI cC cE cI g) 31)) (.cells (Gd.world t jC jE jI dC dE dI h) 31)
  rw [show (w.alloc (.cells (Gd.world s gC gE gI cC cE cI g) 31)).heap.size=w.heap.size+1 by simp] at hh
  exact (Arr.world hh).lie
 obtain ⟨B,hB⟩:∃B,w.heap.size=B:=⟨_,rfl⟩
 obtain ⟨base,hbase⟩:∃base,W0.heap.size=base:=⟨_,rfl⟩
 have HB0:Hid (base≤W0.heap.size):=(show base≤W0.heap.size by omega)
 have HB:Hid (w.heap.size=B∧B+2=base):=⟨hB,by rw [←hbase,hW,←hB];simp⟩
 rw [hB] at x1 x2
 have lC:=hide (And.intro hL.cells.lt (And.intro hL.ents.lt (And.intro hL.items.lt (And.intro hL2.cells.lt (And.intro hL2.ents.lt hL2.items.lt)))))
 have hbx:Hid (∀x,Below base W0 x→Lie x B 31 11 (Gd.box s gC gE gI cC cE cI g)∧Lie x (B+1) 31 11 (Gd.box t jC jE jI dC dE dI h)∧Gd.Lists x gC gE gI c E I∧Gd.Lists x jC jE jI d F J):=fun x hx=>by
  obtain ⟨e1,e2⟩:=uh HB
  obtain ⟨l1,l2,l3,l4,l5,l6⟩:=uh lC
  exact ⟨x1.below hx (by omega),x2.below hx (by omega),(hL.on hg).below hx (by omega) (by omega) (by omega),(hL2.on hg).below hx (by omega) (by omega) (by omega)⟩
 have hg':=hide hg
 obtain ⟨k0,e0⟩:∃k,Sn.sameH s t g h=k:=⟨_,rfl⟩
 obtain ⟨k1,e1⟩:∃k,Sn.allB (fun i=>c i == d i) 384=k:=⟨_,rfl⟩
 obtain ⟨qE,hqE'⟩:∃q:Nat→Bool,(fun i=>Sn.sameE (E i) (F i))=q:=⟨_,rfl⟩
 obtain ⟨qI,hqI'⟩:∃q:Nat→Bool,(fun i=>Sn.sameI (I i) (J i))=q:=⟨_,rfl⟩
 have hqE:Hid (∀k,qE k=Sn.sameE (E k) (F k)):=fun k=>by rw [←hqE']
 have hqI:Hid (∀k,qI k=Sn.sameI (I k) (J k)):=fun k=>by rw [←hqI']
 obtain ⟨X,hX⟩:∃T,Gd.text c=T:=⟨_,rfl⟩
 obtain ⟨Y,hY⟩:∃T,Gd.text d=T:=⟨_,rfl⟩
 have hXY:(X.toList == Y.toList)=k1:=by rw [←hX,←hY,←e1];exact Sn.text_ne hc hd
 have htx:Hid (∀x,Below base W0 x→(convert 26 9 (.slice (some ⟨gC,0,none⟩) 384 cC)).run Tryz.prog x=.ok (.string X) x∧(convert 26 9 (.slice (some ⟨jC,0,none⟩) 384 dC)).run Tryz.prog x=.ok (.string Y) x):=fun x hx=>by
  rw [←hX,←hY]
  exact ⟨(uh hbx x hx).2.2.1.cells.text,(uh hbx x hx).2.2.2.cells.text⟩
 have hk0:Hid ((∀j,j<4→s j≠t j→k0=false)∧(Sn.sameG g h=false→k0=false)∧((∀j,j<4→s j=t j)→Sn.sameG g h=true→k0=true)):=by
  rw [←e0]
  exact ⟨fun j hj hn=>Sn.sameH_no_s hj hn,fun e=>by unfold Sn.sameH;rw [e];simp,fun h1 h2=>(Sn.sameH_iff s t g h).2 ⟨h1,(Sn.sameG_iff g h).1 h2⟩⟩
 have hpost:Hid (∀v x,Sn.Rr W0 x base v (Sn.rwH k0 ++ Sn.rwC k1 ++ Sn.rwE qE 32 ++ Sn.rwI qI 40)→Sn.Brings w (Sn.rw s t g h c d E F I J) (.returned v) x):=fun v x hx=>by
  obtain ⟨f1,f2⟩:=uh HB
  refine ⟨v,base,rfl,by omega,?_,below_grown (Sn.below_trans (none_below (uh hg')) (hx.bel.mono (by omega)))⟩
  unfold Sn.rw
  rw [e0,e1,hqE',hqI']
  exact hx.own
 obtain ⟨D,hD⟩:∃D,Sn.Brings w (Sn.rw s t g h c d E F I J)=D:=⟨_,rfl⟩
 rw [hD] at hpost ⊢
 have hgold:=fun wx=>run_ne_gold g h wx
 obtain ⟨m,hm⟩:∃m,Sn.sameG g h=m:=⟨_,rfl⟩
 rw [hm] at hgold hk0
 obtain ⟨i0,hi,hz0,hz1,hz2⟩:=info_parts info_row
 have hX0:Hid (Sn.Rr W0 W0 base (.slice none 0 0) []):=⟨World.ownsRow_nil _ _ _ _,Below.refl _ _⟩
 clear hL hL2 hg x1 x2 e0 e1 hD lC hqE' hqI' hX hY hm hc hd
 unfold Gd.world at hW ⊢
 go_enter Tryz.func25,Tryz.ntmps25
 go_upto_region 2 with fail
 rw [←hW]
 clear hW hB hbase
 go_cut [40] from 8 to 39 (fun v40 wx=>v40=.bool (!k0)∧wx=W0)
 case first =>
  obtain ⟨a0,a1,a2,a3,a4,a5,a6,a7,a8,a9,a10⟩:=(uh hbx _ (Below.refl _ _)).1.eleven
  obtain ⟨b0,b1,b2,b3,b4,b5,b6,b7,b8,b9,b10⟩:=(uh hbx _ (Below.refl _ _)).2.1.eleven
  by_cases q0:s 0=t 0
  ·have r0:(s 0 != t 0)=false:=by simp [q0]
   clear q0
   by_cases q1:s 1=t 1
   ·have r1:(s 1 != t 1)=false:=by simp [q1]
    clear q1
    by_cases q2:s 2=t 2
    ·have r2:(s 2 != t 2)=false:=by simp [q2]
     clear q2
     by_cases q3:s 3=t 3
     ·have r3:(s 3 != t 3)=false:=by simp [q3]
      clear q3
      have HS:Hid (∀j,j<4→s j=t j):=fun j hj=>by
       have e0:s 0=t 0:=by simpa using r0
       have e1:s 1=t 1:=by simpa using r1
       have e2:s 2=t 2:=by simpa using r2
       have e3:s 3=t 3:=by simpa using r3
       rcases (show j=0∨j=1∨j=2∨j=3 by omega) with rfl | rfl | rfl | rfl <;> assumption
      cases m with
      | false =>
       have hk:=hide ((uh hk0).2.1 rfl)
       go_wp2_with fail
       go_meet
       exact ⟨by rw [uh hk];rfl,rfl⟩
      | true =>
       have hk:=hide ((uh hk0).2.2 (uh HS) rfl)
       go_wp2_with fail
       go_meet
       exact ⟨by rw [uh hk];rfl,rfl⟩
     ·have r3:(s 3 != t 3)=true:=by simp [q3]
      have hk:=hide ((uh hk0).1 3 (by omega) q3)
      clear q3
      go_wp2_with fail
      go_meet
      exact ⟨by rw [uh hk];rfl,rfl⟩
    ·have r2:(s 2 != t 2)=true:=by simp [q2]
     have hk:=hide ((uh hk0).1 2 (by omega) q2)
     clear q2
     go_wp2_with fail
     go_meet
     exact ⟨by rw [uh hk];rfl,rfl⟩
   ·have r1:(s 1 != t 1)=true:=by simp [q1]
    have hk:=hide ((uh hk0).1 1 (by omega) q1)
    clear q1
    go_wp2_with fail
    go_meet
    exact ⟨by rw [uh hk];rfl,rfl⟩
  ·have r0:(s 0 != t 0)=true:=by simp [q0]
   have hk:=hide ((uh hk0).1 0 (by omega) q0)
   clear q0
   go_wp2_with fail
   go_meet
   exact ⟨by rw [uh hk];rfl,rfl⟩
 case rest =>
 obtain ⟨rfl,hcw⟩:=hcut
 obtain rfl:W0=wc:=hcw.symm
 clear hgold hk0
 go_upto_if 40 with fail
 go_cut [5] from 40 to 44 (fun v5 wx=>Hid (Sn.Rr W0 wx base v5 (Sn.rwH k0)))
 case first =>
  cases k0 with
  | true =>
   go_wp2
   go_meet
   exact hX0
  | false =>
   go_wp2_with (at_builtin;refine wpList_append_own _ rfl _ _ 52 rfl base 96 i0 (.agg #[.int .i64 0,.int .i64 0]) 2 16 Tryz.underlying52 hi hz0 hz1 hz2 rfl (by decide) _ _ _ rfl ((uh hX0).own.alloc _) ⟨W0.heap.size,0,none⟩ 1 1 [.int .i64 0,.int .i64 0] rfl rfl (Sn.news W0 #[.int .i64 0,.int .i64 0] _ _ rfl) ?_ ?_ ?_ ?_ ?_)
   ·first | rfl | (intro u hu;simp only [List.mem_cons,List.not_mem_nil,or_false] at hu;rcases hu with rfl | rfl <;> rfl) | simp [Value.oneCell']
   ·first | (unfold maxLen;omega) | (unfold maxLen;simp)
   ·have:=(uh hX0).top (uh HB0);first | omega | (simp;omega)
   intro v4 w4 hown hgrow _
   have hX3:Hid (Sn.Rr W0 w4 base v4 (Sn.rwH false)):=(uh hX0).more (a:=0) (b:=0) (uh HB0) (World.grownBy_alloc _ _ _) hown hgrow
   clear hown hgrow
   go_wp2
   go_meet
   exact hX3
 case rest =>
 have hX1:Hid (Sn.Rr W0 wc base u5 (Sn.rwH k0)):=hcut
 clear hcut hX0
 obtain ⟨LH,hLH⟩:∃L,Sn.rwH k0=L:=⟨_,rfl⟩
 have hLHl:Hid (LH.length≤1):=by
  show LH.length≤1
  rw [←hLH]
  unfold Sn.rwH
  split <;> simp
 rw [hLH] at hX1 hpost
 clear hLH
 have b4:=(uh hbx _ (uh hX1).bel).1.eleven.2.2.2.2.1
 have d4:=(uh hbx _ (uh hX1).bel).2.1.eleven.2.2.2.2.1
 obtain ⟨t1,t2⟩:=uh htx _ (uh hX1).bel
 go_upto_if 51 with fail
 clear b4 d4 t1 t2 hXY htx
 go_cut [5] from 51 to 55 (fun v5 wx=>Hid (Sn.Rr W0 wx base v5 (LH ++ Sn.rwC k1)))
 case first =>
  cases k1 with
  | true =>
   have hX2:Hid (Sn.Rr W0 wc base u5 (LH ++ Sn.rwC true)):=by
    show Sn.Rr _ _ _ _ (LH ++ [])
    rw [List.append_nil]
    exact hX1
   go_wp2
   go_meet
   exact hX2
  | false =>
   have hll:=uh hLHl
   go_wp2_with (at_builtin;refine wpList_append_own _ rfl _ _ 52 rfl base 96 i0 (.agg #[.int .i64 0,.int .i64 0]) 2 16 Tryz.underlying52 hi hz0 hz1 hz2 rfl (by decide) _ _ _ rfl ((uh hX1).own.alloc _) ⟨wc.heap.size,0,none⟩ 1 1 [.int .i64 1,.int .i64 0] rfl rfl (Sn.news wc #[.int .i64 1,.int .i64 0] _ _ rfl) ?_ ?_ ?_ ?_ ?_)
   ·first | rfl | (intro u hu;simp only [List.mem_cons,List.not_mem_nil,or_false] at hu;rcases hu with rfl | rfl <;> rfl) | simp [Value.oneCell']
   ·unfold maxLen;omega
   ·omega
   ·have:=(uh hX1).top (uh HB0);first | omega | (simp;omega)
   intro v4 w4 hown hgrow _
   have hX3:Hid (Sn.Rr W0 w4 base v4 (LH ++ Sn.rwC false)):=(uh hX1).more (a:=1) (b:=0) (uh HB0) (World.grownBy_alloc _ _ _) hown hgrow
   clear hown hgrow
   go_wp2
   go_meet
   exact hX3
 case rest =>
 have hX2:Hid (Sn.Rr W0 wc base u5 (LH ++ Sn.rwC k1)):=hcut
 clear hcut hX1
 obtain ⟨LC,hLC⟩:∃L,LH ++ Sn.rwC k1=L:=⟨_,rfl⟩
 have hLCl:Hid (LC.length≤2):=by
  have h1:=uh hLHl
  show LC.length≤2
  rw [←hLC,List.length_append]
  unfold Sn.rwC
  split <;> simp <;> omega
 rw [hLC] at hX2 hpost
 clear hLC hLHl
 go_wp2_with fail
 go_loopw [5,6] (fun v5 vk wr=>∃k:Nat,k≤32∧vk=.int .i64 (k:Int)∧Hid (Sn.Rr W0 wr base v5 (LC ++ Sn.rwE qE k))) (fun _ vk _=>60 - (intOf vk).toNat)
 case atStart=>exact ⟨0,by omega,rfl,by rw [show Sn.rwE qE 0=[] from rfl,List.append_nil];exact hX2⟩
 case round =>
  clear hX2
  obtain ⟨k,hk,rfl,hX⟩:=hrel
  have b5:=(uh hbx _ (uh hX).bel).1.eleven.2.2.2.2.2.1
  have d5:=(uh hbx _ (uh hX).bel).2.1.eleven.2.2.2.2.2.1
  by_cases hlt:k<32
  ·have hlt':(k:Int)<32:=by omega
   have HL:=hide hlt
   have hll:Hid ((LC ++ Sn.rwE qE k).length≤34):=by
    show (LC ++ Sn.rwE qE k).length≤34
    have:=uh hLCl;have:=Sn.rwE_len qE k;rw [List.length_append];omega
   obtain ⟨r0,r1,r2,r3,r4,r5,r6,r7,r8,r9,r10⟩:=(uh hbx _ (uh hX).bel).2.2.1.own.ents.row (uh HL)
   obtain ⟨v0,v1,v2,v3,v4,v5,v6,v7,v8,v9,v10⟩:=(uh hbx _ (uh hX).bel).2.2.2.own.ents.row (uh HL)
   have hcmp:∀wx:World,(binOp .neq 72 (.agg #[.int .i64 (E k 0),.int .i64 (E k 1),.int .i64 (E k 2),.int .i64 (E k 3),.int .i64 (E k 4),.int .i64 (E k 5),.int .i64 (E k 6),.int .i64 (E k 7),.int .i64 (E k 8),.int .i64 (E k 9),.int .i64 (E k 10)]) (.agg #[.int .i64 (F k 0),.int .i64 (F k 1),.int .i64 (F k 2),.int .i64 (F k 3),.int .i64 (F k 4),.int .i64 (F k 5),.int .i64 (F k 6),.int .i64 (F k 7),.int .i64 (F k 8),.int .i64 (F k 9),.int .i64 (F k 10)])).run Tryz.prog wx=.ok (.bool (!Sn.sameE (E k) (F k))) wx:=fun wx=>run_ne_ent (E k) (F k) wx
   have hmo:Hid (Sn.rwE qE (k+1)=Sn.rwE qE k ++ if qE k=true then [] else [(2,(k:Int))]):=rfl
   have hqk:Hid (qE k=Sn.sameE (E k) (F k)):=uh hqE k
   obtain ⟨p,hp⟩:∃p,Sn.sameE (E k) (F k)=p:=⟨_,rfl⟩
   rw [hp] at hcmp hqk
   have hmo1:Hid (Sn.rwE qE (k+1)=Sn.rwE qE k ++ if p=true then [] else [(2,(k:Int))]):=by rw [←uh hqk];exact uh hmo
   have hXd:Hid (∀m,Sn.Rr W0 (wr.drewN m) base u5 (LC ++ Sn.rwE qE k)):=fun m=>(uh hX).on (uh HB0) (gdw (World.grownBy.refl _ none) m)
   clear hlt hk hp hmo hqk
   go_wp2_with fail
   go_quiet (fail)
   have hX5:=hide (uh hXd nq)
   clear hXd hX r0 r1 r2 r3 r4 r5 r6 r7 r8 r9 r10 v0 v1 v2 v3 v4 v5 v6 v7 v8 v9 v10 hcmp b5 d5
   generalize wr.drewN nq=w5 at hX5 ⊢
   cases p with
   | true =>
    rw [if_pos rfl,List.append_nil] at hmo1
    have hX6:Hid (Sn.Rr W0 w5 base u5 (LC ++ Sn.rwE qE (k+1))):=by
     rw [uh hmo1]
     exact hX5
    go_wp2
    go_roundw
    case rel=>exact ⟨k+1,by have:=uh HL;omega,by go_num,hX6⟩
    case measure=>simp [intOf];have:=uh HL;omega
   | false =>
    have hmo':Hid (Sn.rwE qE (k+1)=Sn.rwE qE k ++ [(2,(k:Int))]):=uh hmo1
    obtain ⟨l,hl⟩:∃l,LC ++ Sn.rwE qE k=l:=⟨_,rfl⟩
    rw [hl] at hX5 hll
    have hl':=hide hl
    clear hl hmo1
    go_upto_region 10 with fail
    go_wp2_with (at_builtin;refine wpList_append_own _ rfl _ _ 52 rfl base 96 i0 (.agg #[.int .i64 0,.int .i64 0]) 2 16 Tryz.underlying52 hi hz0 hz1 hz2 rfl (by decide) _ _ _ rfl ((uh hX5).own.alloc _) ⟨w5.heap.size,0,none⟩ 1 1 [.int .i64 2,.int .i64 (k:Int)] rfl rfl (Sn.news w5 #[.int .i64 2,.int .i64 (k:Int)] _ _ rfl) ?_ ?_ ?_ ?_ ?_)
    ·first | rfl | (intro u hu;simp only [List.mem_cons,List.not_mem_nil,or_false] at hu;rcases hu with rfl | rfl <;> rfl) | simp [Value.oneCell']
    ·have:=uh hll;unfold maxLen;omega
    ·have:=uh hll;omega
    ·have:=(uh hX5).top (uh HB0);first | omega | (simp;omega)
    intro v6 w6 hown hgrow _
    have hX6:Hid (Sn.Rr W0 w6 base v6 (LC ++ Sn.rwE qE (k+1))):=by
     rw [uh hmo',←List.append_assoc,uh hl']
     exact (uh hX5).more (uh HB0) (World.grownBy_alloc _ _ _) hown hgrow
    clear hown hgrow hX5
    go_wp2
    go_roundw
    case rel=>exact ⟨k+1,by have:=uh HL;omega,by go_num,hX6⟩
    case measure=>simp [intOf];have:=uh HL;omega
  ·obtain rfl:k=32:=by omega
   have hge:¬((32:Nat):Int)<32:=by omega
   clear hlt hk
   clear b5 d5
   obtain ⟨LE,hLE⟩:∃L,LC ++ Sn.rwE qE 32=L:=⟨_,rfl⟩
   have hLEl:Hid (LE.length≤34):=by
    have h1:=uh hLCl
    have h2:=Sn.rwE_len qE 32
    show LE.length≤34
    rw [←hLE,List.length_append]
    omega
   rw [hLE] at hX hpost
   have b5:=(uh hbx _ (uh hX).bel).1.eleven.2.2.2.2.2.1
   clear hLE
   go_wp2_with fail
   clear b5
   go_loopw [5,7] (fun v5 vk wr=>∃k:Nat,k≤40∧vk=.int .i64 (k:Int)∧Hid (Sn.Rr W0 wr base v5 (LE ++ Sn.rwI qI k))) (fun _ vk _=>60 - (intOf vk).toNat)
   case atStart=>exact ⟨0,by omega,rfl,by rw [show Sn.rwI qI 0=[] from rfl,List.append_nil];exact hX⟩
   case round =>
    clear hX hge
    obtain ⟨k,hk,rfl,hX⟩:=hrel
    have b5:=(uh hbx _ (uh hX).bel).1.eleven.2.2.2.2.2.2.1
    have d5:=(uh hbx _ (uh hX).bel).2.1.eleven.2.2.2.2.2.2.1
    by_cases hlt:k<40
    ·have hlt':(k:Int)<40:=by omega
     have HL:=hide hlt
     have hll:Hid ((LE ++ Sn.rwI qI k).length≤74):=by
      show (LE ++ Sn.rwI qI k).length≤74
      have:=uh hLEl;have:=Sn.rwI_len qI k;rw [List.length_append];omega
     obtain ⟨r0,r1,r2,r3⟩:=(uh hbx _ (uh hX).bel).2.2.1.its.row (uh HL)
     obtain ⟨v0,v1,v2,v3⟩:=(uh hbx _ (uh hX).bel).2.2.2.its.row (uh HL)
     have hcmp:∀wx:World,(binOp .neq 74 (.agg #[.int .i64 (I k 0),.int .i64 (I k 1),.int .i64 (I k 2),.int .i64 (I k 3)]) (.agg #[.int .i64 (J k 0),.int .i64 (J k 1),.int .i64 (J k 2),.int .i64 (J k 3)])).run Tryz.prog wx=.ok (.bool (!Sn.sameI (I k) (J k))) wx:=fun wx=>run_ne_item (I k 0) (I k 1) (I k 2) (I k 3) (J k 0) (J k 1) (J k 2) (J k 3) wx
     have hmo:Hid (Sn.rwI qI (k+1)=Sn.rwI qI k ++ if qI k=true then [] else [(3,(k:Int))]):=rfl
     have hqk:Hid (qI k=Sn.sameI (I k) (J k)):=uh hqI k
     obtain ⟨p,hp⟩:∃p,Sn.sameI (I k) (J k)=p:=⟨_,rfl⟩
     rw [hp] at hcmp hqk
     have hmo1:Hid (Sn.rwI qI (k+1)=Sn.rwI qI k ++ if p=true then [] else [(3,(k:Int))]):=by rw [←uh hqk];exact uh hmo
     have hXd:Hid (∀m,Sn.Rr W0 (wr.drewN m) base u5 (LE ++ Sn.rwI qI k)):=fun m=>(uh hX).on (uh HB0) (gdw (World.grownBy.refl _ none) m)
     clear hlt hk hp hmo hqk
     go_wp2_with fail
     go_quiet (fail)
     have hX5:=hide (uh hXd nq)
     clear hXd hX r0 r1 r2 r3 v0 v1 v2 v3 hcmp b5 d5
     generalize wr.drewN nq=w5 at hX5 ⊢
     cases p with
     | true =>
      rw [if_pos rfl,List.append_nil] at hmo1
      have hX6:Hid (Sn.Rr W0 w5 base u5 (LE ++ Sn.rwI qI (k+1))):=by
       rw [uh hmo1]
       exact hX5
      go_wp2
      go_roundw
      case rel=>exact ⟨k+1,by have:=uh HL;omega,by go_num,hX6⟩
      case measure=>simp [intOf];have:=uh HL;omega
     | false =>
      have hmo':Hid (Sn.rwI qI (k+1)=Sn.rwI qI k ++ [(3,(k:Int))]):=uh hmo1
      obtain ⟨l,hl⟩:∃l,LE ++ Sn.rwI qI k=l:=⟨_,rfl⟩
      rw [hl] at hX5 hll
      have hl':=hide hl
      clear hl hmo1
      go_upto_region 15 with fail
      go_wp2_with (at_builtin;refine wpList_append_own _ rfl _ _ 52 rfl base 96 i0 (.agg #[.int .i64 0,.int .i64 0]) 2 16 Tryz.underlying52 hi hz0 hz1 hz2 rfl (by decide) _ _ _ rfl ((uh hX5).own.alloc _) ⟨w5.heap.size,0,none⟩ 1 1 [.int .i64 3,.int .i64 (k:Int)] rfl rfl (Sn.news w5 #[.int .i64 3,.int .i64 (k:Int)] _ _ rfl) ?_ ?_ ?_ ?_ ?_)
      ·first | rfl | (intro u hu;simp only [List.mem_cons,List.not_mem_nil,or_false] at hu;rcases hu with rfl | rfl <;> rfl) | simp [Value.oneCell']
      ·have:=uh hll;unfold maxLen;omega
      ·have:=uh hll;omega
      ·have:=(uh hX5).top (uh HB0);first | omega | (simp;omega)
      intro v6 w6 hown hgrow _
      have hX6:Hid (Sn.Rr W0 w6 base v6 (LE ++ Sn.rwI qI (k+1))):=by
       rw [uh hmo',←List.append_assoc,uh hl']
       exact (uh hX5).more (uh HB0) (World.grownBy_alloc _ _ _) hown hgrow
      clear hown hgrow hX5
      go_wp2
      go_roundw
      case rel=>exact ⟨k+1,by have:=uh HL;omega,by go_num,hX6⟩
      case measure=>simp [intOf];have:=uh HL;omega
    ·obtain rfl:k=40:=by omega
     have hge:¬((40:Nat):Int)<40:=by omega
     clear hlt hk
     have hfin:=hide (uh hpost _ _ (uh hX))
     go_wp2
     exact uh hfin

end Go.Proofs.YtapgkgbpekkdjaaGreat
