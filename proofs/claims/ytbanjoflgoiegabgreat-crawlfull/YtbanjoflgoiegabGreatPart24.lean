/-
  NavTaken GoodsSame GoodsLayGo
-/
import Derived.Test.YtbanjoflgoiegabGreatPart23
import Derived.Test.YtbanjoflgoiegabGreatPart13
import Derived.Test.YtbanjoflgoiegabGreatPart04
import Derived.Test.YtbanjoflgoiegabGreatPart19
import Derived.Laws.BytesArg
import Derived.ChangeKeysEq
namespace Go.Proofs.YtbanjoflgoiegabGreat
open Go.RowKit

def Nv.st (E:Nat→Nat→Int) (n:Nat) (c:Nat):Bool:=decide (0≤En.first (En.atQ E ((c % 24:Nat):Int) ((c / 24:Nat):Int)) n)

def Nv.stTo (E:Nat→Nat→Int) (n:Nat):Nat→Nat→Bool
 | 0,_=>false
 | k+1,c=>if Nv.num (E k 3) (E k 4)=(c:Int) then decide (0≤En.first (En.atQ E (E k 3) (E k 4)) n) else Nv.stTo E n k c

theorem Nv.num_at {x y:Int} {c:Nat} (h:Nv.num x y=(c:Int)):x=((c % 24:Nat):Int)∧y=((c / 24:Nat):Int)∧c<384:=by
 unfold Nv.num at h
 split at h
 ·rename_i hin
  rw [Gr.inB_iff] at hin
  omega
 ·omega

theorem Nv.num_of {c:Nat} (hc:c<384):Nv.num ((c % 24:Nat):Int) ((c / 24:Nat):Int)=(c:Int):=by
 unfold Nv.num
 rw [if_pos (by rw [Gr.inB_iff];omega)]
 omega

theorem Nv.stTo_eq (E:Nat→Nat→Int) (n:Nat) (c:Nat):∀k,(Nv.stTo E n k c=true→Nv.st E n c=true)∧((∃j,j<k∧Nv.num (E j 3) (E j 4)=(c:Int))→Nv.stTo E n k c=Nv.st E n c)
  | 0=>⟨fun h=>by simp [Nv.stTo] at h,fun ⟨j,h,_⟩=>by omega⟩
  | k + 1 => by
      obtain ⟨h1,h2⟩:=Nv.stTo_eq E n c k
      unfold Nv.stTo
      by_cases e:Nv.num (E k 3) (E k 4)=(c:Int)
      · rw [if_pos e]
        obtain ⟨ex,ey,_⟩:=Nv.num_at e
        have:decide (0≤En.first (En.atQ E (E k 3) (E k 4)) n)=Nv.st E n c:=by unfold Nv.st;rw [←ex,←ey]
        rw [this]
        exact ⟨id,fun _=>rfl⟩
      · rw [if_neg e]
        refine ⟨h1,fun ⟨j,hj,he⟩=>h2 ⟨j,?_,he⟩⟩
        by_cases ej:j=k
        · subst ej;exact absurd he e
        · omega

theorem Nv.stTo_all (E:Nat→Nat→Int) (n:Nat) (c:Nat) (hc:c<384):Nv.stTo E n n c=Nv.st E n c:=by
 obtain ⟨h1,h2⟩:=Nv.stTo_eq E n c n
 by_cases h:Nv.st E n c=true
 ·refine h2 ?_
  unfold Nv.st at h
  rw [decide_eq_true_eq] at h
  rcases En.first_cases (En.atQ E ((c % 24:Nat):Int) ((c / 24:Nat):Int)) n with ⟨h0,_⟩ | ⟨k,hk,_,hq,_⟩
  ·omega
  ·refine ⟨k,hk,?_⟩
   simp only [En.atQ,Bool.and_eq_true,decide_eq_true_eq] at hq
   rw [hq.2.1,hq.2.2]
   exact Nv.num_of hc
 ·have hn:¬Nv.stTo E n n c=true:=fun e=>h (h1 e)
  rw [Bool.not_eq_true] at h hn
  rw [h,hn]

def Nv.Lst (w:World) (a:Option Addr) (n c:Nat) (E:Nat→Nat→Int):Prop:=n≤32∧n≤c∧(n=0∨∃b,a=some ⟨b,0,none⟩∧Ents w b n E)

def Nv.Words (n:Nat) (E:Nat→Nat→Int):Prop:=∀i,i<n→(-9223372036854775808≤E i 3∧E i 3≤9223372036854775807)∧(-9223372036854775808≤E i 4∧E i 4≤9223372036854775807)

theorem info_bools:(Tryz.prog.info? 4).map (fun i=>(i.zero,i.size,i.bytes))=some (some (.bool false),1,1):=by kernel_rfl

theorem Nv.st_more {E:Nat→Nat→Int} {n k m:Nat} (hm:Nv.num (E k 3) (E k 4)=(m:Int)) (j:Nat):(if j=m then Value.bool (decide (0≤En.first (En.atQ E (E k 3) (E k 4)) n)) else .bool (Nv.stTo E n k j))=.bool (Nv.stTo E n (k+1) j):=by
 show _=Value.bool (if Nv.num (E k 3) (E k 4)=(j:Int) then _ else _)
 rw [hm]
 by_cases e:j=m
 ·rw [if_pos e,if_pos (by omega)]
 ·rw [if_neg e,if_neg (by omega)]

theorem Nv.st_same {E:Nat→Nat→Int} {n k:Nat} (hm:Nv.num (E k 3) (E k 4)=-1) (j:Nat):Nv.stTo E n k j=Nv.stTo E n (k+1) j:=by
 show _=if Nv.num (E k 3) (E k 4)=(j:Int) then _ else _
 rw [hm,if_neg (by omega)]

theorem Nv.num_cases (x y:Int):Nv.num x y=-1∨∃m:Nat,m<384∧Nv.num x y=(m:Int):=by
 unfold Nv.num
 by_cases h:Gr.inB x y=true
 ·rw [if_pos h]
  rw [Gr.inB_iff] at h
  exact .inr ⟨(y*24+x).toNat,by omega,by omega⟩
 ·rw [if_neg h];exact .inl rfl

set_option maxRecDepth 8000 in
set_option maxHeartbeats 1600000 in
theorem taken_any (a : Option Addr) (n c : Nat) (E : Nat → Nat → Int) (w : World) (hL : Nv.Lst w a n c E) (hW : Nv.Words n E) :
    Calls Tryz.prog 118 #[.slice a n c] w (Made w 4 384 (Bols (Nv.st E n))):=by
  have hn:=hL.1
  have hL':=hide hL
  have hW':=hide hW
  obtain ⟨i0,hi,hz0,hz1,hz2⟩:=info_parts info_bools
  clear hL hW
  go_enter Tryz.func118,Tryz.ntmps118
  obtain ⟨G,hG⟩:∃G,G=w.heap.size:=⟨_,rfl⟩
  have hG':=hide hG
  clear hG
  go_wp2_with (at_make;refine wpList_make_full _ rfl _ _ 88 rfl G 4 i0 (.bool false) 1 Tryz.underlying88 hi hz0 hz1 .i64 .i64 _ _ 384 rfl rfl rfl rfl ?q3 ?q4 (Nat.le_of_eq (uh hG')) ?_)
  case q3=>rw [hz2];omega
  case q4=>unfold maxLen;omega
  intro w2 hown hgrow
  rw [←uh hG'] at hown ⊢
  have hA:=hide (Arr.zero hown)
  have hB0:Below G w w2:=(Below.refl _ _).grown hgrow (Nat.le_of_eq (uh hG')) (by intro k hk;cases hk)
  clear hown hgrow hi hz0 hz1 hz2
  go_wp2_with fail
  go_loopw [10] (fun i wr=>∃k:Nat,k≤n∧i=.int .i64 (k:Int)∧Arr wr G 4 384 (Bols (Nv.stTo E n k))∧Below G w wr) (fun i _=>40 - (intOf i).toNat)
  case atStart=>exact ⟨0,Nat.zero_le _,rfl,uh hA,hB0⟩
  case round =>
    obtain ⟨k,hk,rfl,hA1,hB1⟩:=hrel
    have hA2:=hide hA1
    have hB2:=hide hB1
    clear hA1 hA hB0 hB1
    by_cases hlt:k<n
    · obtain ⟨_,hnc,h0 | ⟨b,rfl,hE⟩⟩:=uh hL'
      · omega
      have hgr:w.grownBy wr none:=below_grown (by rw [←uh hG'];exact uh hB2)
      obtain ⟨u0,u1,u2,u3,u4,u5,u6,u7,u8,u9,u10⟩:=(hE.on hgr).row hlt
      have hE':=hide (hE.on hgr)
      have hlt':(k:Int)<(n:Int):=by omega
      have HL:=hide hlt
      have hww:=hide (uh hW' k hlt)
      obtain ⟨X,hX⟩:∃X,X=E k 3:=⟨_,rfl⟩
      obtain ⟨Y,hY⟩:∃Y,Y=E k 4:=⟨_,rfl⟩
      rw [←hX] at u3
      rw [←hY] at u4
      rw [←hX,←hY] at hww
      have hX':=hide hX
      have hY':=hide hY
      clear hE hgr hlt hX hY
      go_wp2_with fail
      refine (point_any _ _ _).mono ?_
      rintro e w1 ⟨rfl,rfl⟩
      go_wp2_with fail
      obtain ⟨⟨x1,x2⟩,y1,y2⟩:=uh hww
      refine (numberAt_any X Y _ x1 x2 y1 y2).mono ?_
      rintro e w1 ⟨rfl,rfl⟩
      clear x1 x2 y1 y2
      clear u0 u1 u2 u3 u4 u5 u6 u7 u8 u9 u10
      rcases Nv.num_cases X Y with hm | ⟨m,hm,hme⟩
      · rw [hm]
        have hs:Hid (∀j,Nv.stTo E n k j=Nv.stTo E n (k+1) j):=fun j=>Nv.st_same (by rw [←uh hX',←uh hY'];exact hm) j
        clear hm
        go_wp2
        go_roundw
        case rel=>exact ⟨k+1,by have:=uh HL;omega,by go_num,((uh hA2).alloc _).congr fun j _=>by show Value.bool _=Value.bool _;rw [uh hs j],(uh hB2).alloc (Nat.le_of_lt (uh hA2).lt) _⟩
        case measure=>have:=uh HL;simp [intOf];omega
      · rw [hme]
        have hs:Hid (∀j,(if j=m then Value.bool (decide (0≤En.first (En.atQ E X Y) n)) else .bool (Nv.stTo E n k j))=.bool (Nv.stTo E n (k+1) j)):=fun j=>by
          rw [uh hX',uh hY']
          exact Nv.st_more (by rw [←uh hX',←uh hY'];exact hme) j
        have hm':(m:Int)<384:=by omega
        have HM:=hide hm
        clear hm hme
        go_wp2_with fail
        refine (entAt_any b n c E X Y _ ((uh hE').on (World.grownBy_alloc _ _ _)) hnc).mono ?_
        rintro e w1 ⟨rfl,hg⟩
        have hg1:=gtr (World.grownBy_alloc _ _ _) hg
        have hA3:=hide ((uh hA2).grown hg1 (by simp))
        have hB3:Hid (Below G w w1):=(uh hB2).trans (none_below hg1 |>.mono (Nat.le_of_lt (uh hA2).lt))
        have hcc:=(uh hA3).cell (uh HM)
        have hff:=(uh hA3).free m
        generalize En.first (En.atQ E X Y) n=r at hs
        clear hg hg1
        go_wp2
        go_roundw
        case rel=>exact ⟨k+1,by have:=uh HL;omega,by go_num,((uh hA3).store m _).congr fun j _=>uh hs j,(uh hB3).setCell (Nat.le_refl _) _⟩
        case measure=>have:=uh HL;simp [intOf];omega
    · have hge:¬(k:Int)<(n:Int):=by omega
      obtain rfl:k=n:=by omega
      have hA3:=hide ((uh hA2).congr (G:=Bols (Nv.st E k)) fun j hj=>by show Value.bool _=Value.bool _;rw [Nv.stTo_all E k j hj])
      clear hA2 hk hlt
      go_wp2
      go_ret
      exact ⟨G,rfl,Nat.le_of_eq (uh hG').symm,uh hA3,by rw [←uh hG'];exact uh hB2⟩


open Go.RowKit

def Gd.text (c:Nat→Int):ByteArray:=strOfNums ((List.range 384).map c)

theorem Lie.text {w:World} {G cap:Nat} {c:Nat→Int} (h:Lie w G 5 384 (Byts c)):(convert 23 9 (.slice (some ⟨G,0,none⟩) 384 cap)).run Tryz.prog w=.ok (.string (Gd.text c)) w:=by
 refine run_convert_bytes_arg w 23 5 Tryz.underlying23 Tryz.underlying5 G 0 384 cap ((List.range 384).map c) (by simp) (fun i hi=>?_) 9 Tryz.underlying9
 rw [Nat.zero_add,h.cell hi]
 show some (Value.int .u8 (c i))=_
 simp [List.getD,List.getElem?_map,List.getElem?_range hi]

theorem run_eq_gold (a b c d:Int) (w:World):(Op.equalIn 10000 26 (.agg #[.int .i64 a,.int .i64 b,.int .i64 c,.int .i64 d]) (.agg #[.int .i64 a,.int .i64 b,.int .i64 c,.int .i64 d])).run Tryz.prog w=.ok true w:=by
 obtain ⟨i0,hi,_,_,_⟩:=info_parts info_int
 have hc:Tryz.prog.cellsOf 3=1:=by kernel_rfl
 have h:=run_equalIn_array (P:=Tryz.prog) (w:=w) 9999 #[.int .i64 a,.int .i64 b,.int .i64 c,.int .i64 d] #[.int .i64 a,.int .i64 b,.int .i64 c,.int .i64 d] Tryz.underlying26 hi
 have hr:(Op.eqItems 9999 3 (Tryz.prog.cellsOf 3) #[Value.int .i64 a,.int .i64 b,.int .i64 c,.int .i64 d] #[.int .i64 a,.int .i64 b,.int .i64 c,.int .i64 d] (List.range 4)).run Tryz.prog w=.ok true w:=by
  rw [hc]
  simp [List.range,List.range.loop,Op.eqItems,go_sem]
 rw [hr] at h
 exact h

set_option maxRecDepth 8000 in
set_option maxHeartbeats 6400000 in
theorem same7_any (s g c : Nat → Int) (E I : Nat → Nat → Int) (gC gE gI cC cE cI hC hE hI dC dE dI : Nat) (w : World) (hL : Gd.Lists w gC gE gI c E I) (hL2 : Gd.Lists w hC hE hI c E I) :
    Calls Tryz.prog 15 #[.agg (Gd.world s gC gE gI cC cE cI g),.agg (Gd.world s hC hE hI dC dE dI g)] w (Says w (.bool true)):=by
  obtain ⟨W,hW⟩:∃W,W=(w.alloc (.cells (Gd.world s gC gE gI cC cE cI g) 28)).alloc (.cells (Gd.world s hC hE hI dC dE dI g) 28):=⟨_,rfl⟩
  have hg:w.grownBy W none:=by rw [hW];exact gal (World.grownBy_alloc _ _ _) _
  have x1:Lie W w.heap.size 28 11 (Gd.box s gC gE gI cC cE cI g):=by
    rw [hW]
    exact ((Arr.world (heap_alloc_new w _)).alloc _).lie
  have x2:Lie W (w.heap.size+1) 28 11 (Gd.box s hC hE hI dC dE dI g):=by
    rw [hW]
    have h:=heap_alloc_new (w.alloc (.cells (Gd.world s gC gE gI cC cE cI g) 28)) (.cells (Gd.world s hC hE hI dC dE dI g) 28)
    rw [show (w.alloc (.cells (Gd.world s gC gE gI cC cE cI g) 28)).heap.size=w.heap.size+1 by simp] at h
    exact (Arr.world h).lie
  obtain ⟨B,hB⟩:∃B,w.heap.size=B:=⟨_,rfl⟩
  rw [hB] at x1 x2
  have x1':=hide x1
  have x2':=hide x2
  have hL':=hide (hL.on hg)
  have hL2':=hide (hL2.on hg)
  have hg':=hide hg
  have t1:=(uh hL').cells.text (cap:=cC)
  have t2:=(uh hL2').cells.text (cap:=dC)
  obtain ⟨T,hT⟩:∃T,T=Gd.text c:=⟨_,rfl⟩
  rw [←hT] at t1 t2
  obtain ⟨a0,a1,a2,a3,a4,a5,a6,a7,a8,a9,a10⟩:=x1.eleven
  obtain ⟨b0,b1,b2,b3,b4,b5,b6,b7,b8,b9,b10⟩:=x2.eleven
  have keep:Hid (∀x,W.grownBy x none→(x.cell? ⟨B,5,none⟩=some (.slice (some ⟨gE,0,none⟩) 32 cE)∧x.cell? ⟨B,6,none⟩=some (.slice (some ⟨gI,0,none⟩) 40 cI)∧x.cell? ⟨B+1,5,none⟩=some (.slice (some ⟨hE,0,none⟩) 32 dE)∧x.cell? ⟨B+1,6,none⟩=some (.slice (some ⟨hI,0,none⟩) 40 dI))):=fun x h =>
    ⟨((uh x1').on h).eleven.2.2.2.2.2.1,((uh x1').on h).eleven.2.2.2.2.2.2.1,((uh x2').on h).eleven.2.2.2.2.2.1,((uh x2').on h).eleven.2.2.2.2.2.2.1⟩
  have hgold:=fun wx=>run_eq_gold (g 0) (g 1) (g 2) (g 3) wx
  clear hL hL2 hg hT x1 x2
  unfold Gd.world at hW ⊢
  go_enter Tryz.func15,Tryz.ntmps15
  go_upto_region 1 with fail
  rw [←hW]
  clear hW hB
  go_wp2_with fail
  go_loopw [5] (fun vi wr=>∃k:Nat,k≤32∧vi=.int .i64 (k:Int)∧W.grownBy wr none) (fun vi _=>200 - (intOf vi).toNat)
  case atStart=>exact ⟨0,by omega,rfl,World.grownBy.refl _ _⟩
  case round =>
    clear hgold t1 t2 a0 a1 a2 a3 a4 a5 a6 a7 a8 a9 a10 b0 b1 b2 b3 b4 b5 b6 b7 b8 b9 b10
    obtain ⟨k,hk,rfl,hgr⟩:=hrel
    have hgr':=hide hgr
    obtain ⟨k1,k2,k3,k4⟩:=uh keep wr hgr
    clear hgr
    by_cases hlt:k<32
    · have hlt':(k:Int)<32:=by omega
      obtain ⟨u0,u1,u2,u3,u4,u5,u6,u7,u8,u9,u10⟩:=((uh hL').on (uh hgr')).own.ents.row hlt
      obtain ⟨s0,s1,s2,s3,s4,s5,s6,s7,s8,s9,s10⟩:=((uh hL2').on (uh hgr')).own.ents.row hlt
      have hdr:Hid (∀m,W.grownBy (wr.drewN m) none):=fun m=>gdw (uh hgr') m
      have HL:=hide hlt
      clear hlt
      go_wp2_with fail
      go_quiet (fail)
      go_wp2
      go_roundw
      case rel=>exact ⟨k+1,by have:=uh HL;omega,by go_num,uh hdr _⟩
      case measure=>simp [intOf];omega
    · have hge:¬(k:Int)<32:=by omega
      clear hlt
      go_wp2_with fail
      go_loopw [6] (fun vi wr=>∃k:Nat,k≤40∧vi=.int .i64 (k:Int)∧W.grownBy wr none) (fun vi _=>200 - (intOf vi).toNat)
      case atStart=>exact ⟨0,by omega,rfl,uh hgr'⟩
      case round =>
        clear k1 k2 k3 k4 hge hgr'
        obtain ⟨k,hk,rfl,hgr⟩:=hrel
        have hgr':=hide hgr
        obtain ⟨k1,k2,k3,k4⟩:=uh keep wr hgr
        clear hgr
        by_cases hlt:k<40
        · have hlt':(k:Int)<40:=by omega
          obtain ⟨u0,u1,u2,u3⟩:=((uh hL').on (uh hgr')).its.row hlt
          obtain ⟨s0,s1,s2,s3⟩:=((uh hL2').on (uh hgr')).its.row hlt
          have hdr:Hid (∀m,W.grownBy (wr.drewN m) none):=fun m=>gdw (uh hgr') m
          have HL:=hide hlt
          clear hlt
          go_wp2_with fail
          go_quiet (fail)
          go_wp2
          go_roundw
          case rel=>exact ⟨k+1,by have:=uh HL;omega,by go_num,uh hdr _⟩
          case measure=>simp [intOf];omega
        · have hge:¬(k:Int)<40:=by omega
          have hfin:=hide (gtr (uh hg') (uh hgr'))
          go_wp2
          go_ret
          exact ⟨rfl,uh hfin⟩


open Go.RowKit

theorem slice_items (a : Option Addr) (len cap k : Nat) (w : World) (hk : k ≤ cap) :
    (Instr.slice 25 (.slice a len cap) none (some (.int .i64 (k:Int))) none).run Tryz.prog w=.ok (.slice a k cap) w:=by
  have hs:(sizeOf (Tryz.prog.elem 25)).run Tryz.prog w=.ok 4 w:=by kernel_rfl
  rw [run_slice_h w 25 a len cap (by kernel_rfl) .i64 (k:Int) (by omega) (by omega),hs]
  have e:a.map (fun x=>x.add (0*4))=a:=by
    cases a with
    | none=>rfl
    | some x=>simp [Addr.add]
  simp only [Result.andThen,sliced,e,Int.toNat_natCast,Nat.sub_zero,ite_self]

set_option maxHeartbeats 6400000 in
theorem lay_any (b cp n cm : Nat) (a : Option Addr) (I M : Nat → Nat → Int) (w : World) (hL : Lie w b 47 160 (Gd.flat I)) (hM : Gd.Some w a n M) :
    Calls Tryz.prog 55 #[.slice (some ⟨b,0,none⟩) 40 cp,.slice a n cm] w (Gd.Gives40 w (Gd.lay I M n)):=by
  have hn:=hM.1
  have hM':=hide hM
  have ct:=hide (twinItems_any b 40 160 cp (Gd.flat I) w (by omega) (by omega) (fun _=>rfl) (fun q hq=>hL.cell hq) hL.lt)
  clear hL hM
  go_enter Tryz.func55,Tryz.ntmps55
  go_wp2_with fail
  refine (uh ct).mono ?_
  rintro e w1 ⟨g,rfl,hlo,hA,hg⟩
  have hl1:=hide hA.lie
  have hg1:=hide hg
  have hlo':=hide hlo
  have hs:=fun wx=>slice_items (some ⟨g,0,none⟩) 40 40 40 wx (by omega)
  clear ct hlo hA hg
  go_wp2_with fail
  clear hs
  go_loopw [7,19] (fun q i wr=>∃r m:Nat,m≤n∧r≤40∧q=.int .i64 (r:Int)∧i=.int .i64 (m:Int)∧(∀j,j<r→Gd.goneQ (Gd.lay I M m) j=false)∧Lie wr g 47 160 (Gd.flat (Gd.lay I M m))∧w.grownBy wr none) (fun _ i _=>200 - (intOf i).toNat)
  case atStart=>exact ⟨0,0,by omega,by omega,rfl,rfl,fun j hj=>by omega,uh hl1,uh hg1⟩
  case round =>
    obtain ⟨r0,m,hm,hr0,rfl,rfl,hno0,hJ,hgr⟩:=hrel
    have hno0':=hide hno0
    have hJ':=hide hJ
    have hgr':=hide hgr
    clear hno0 hJ hgr
    by_cases hlt:m<n
    · have hlt':(m:Int)<(n:Int):=by omega
      have HL:=hide hlt
      obtain ⟨bm,om,rfl,lbm,v0,v1,v2,v3⟩:=((uh hM').on (uh hgr')).row hlt
      clear hlt
      have hnew0:=(Arr.lit (heap_alloc_new wr (.cells #[.int .i64 (M m 0),.int .i64 (M m 1),.int .i64 (M m 2),.int .i64 (M m 3)] 47))).lie
      have hga:=hide (World.grownBy_alloc wr (.cells #[.int .i64 (M m 0),.int .i64 (M m 1),.int .i64 (M m 2),.int .i64 (M m 3)] 47) none)
      go_wp2_with fail
      obtain ⟨wb,hwb⟩:∃wb,wr.alloc (.cells #[.int .i64 (M m 0),.int .i64 (M m 1),.int .i64 (M m 2),.int .i64 (M m 3)] 47)=wb:=⟨_,rfl⟩
      obtain ⟨P,hP⟩:∃P,wr.heap.size=P:=⟨_,rfl⟩
      have hPg:g<P:=by rw [←hP];exact (uh hJ').lt
      rw [hwb] at hnew0 hga ⊢
      rw [hP] at hnew0 ⊢
      have hnew:=hide hnew0
      have hJb:=hide ((uh hJ').on (uh hga))
      have hgb:=hide (gtr (uh hgr') (uh hga))
      clear hwb hP hnew0 hga v0 v1 v2 v3 lbm hJ' hgr'
      go_loopw [7] (fun q wz=>∃r:Nat,r≤40∧q=.int .i64 (r:Int)∧(∀j,j<r→Gd.goneQ (Gd.lay I M m) j=false)∧wb.grownBy wz none) (fun q _=>200 - (intOf q).toNat)
      case atStart=>exact ⟨r0,hr0,rfl,uh hno0',World.grownBy.refl _ _⟩
      case round =>
        obtain ⟨r,hr,rfl,hno,hgz⟩:=hrel
        have hno':=hide hno
        have hgz':=hide hgz
        clear hno hgz
        by_cases hr40:r<40
        · have hr':(r:Int)<40:=by omega
          have HR:=hide hr40
          obtain ⟨u0,u1,u2,u3⟩:=(((uh hJb).on (uh hgz')).its (n:=40) (by omega) (by omega)).row hr40
          have hgq:=hide (show Gd.goneQ (Gd.lay I M m) r=Gd.zeroB (Gd.lay I M m r 0) (Gd.lay I M m r 1) (Gd.lay I M m r 2) (Gd.lay I M m r 3) from rfl)
          have cg0:=isGone_any (Gd.lay I M m r 0) (Gd.lay I M m r 1) (Gd.lay I M m r 2) (Gd.lay I M m r 3) wr
          obtain ⟨z,hz⟩:∃z,Gd.zeroB (Gd.lay I M m r 0) (Gd.lay I M m r 1) (Gd.lay I M m r 2) (Gd.lay I M m r 3)=z:=⟨_,rfl⟩
          rw [hz] at cg0 hgq
          have cg:=hide cg0
          clear cg0 hz hr40
          go_wp2_with fail
          refine (uh cg).mono ?_
          rintro e w3 ⟨rfl,hg3⟩
          have hgz3:=hide (gtr (uh hgz') hg3)
          clear cg hg3 u0 u1 u2 u3
          cases z with
          | false =>
            go_wp2
            go_roundw
            case rel=>exact ⟨r+1,by have:=uh HR;omega,by go_num,fun j hj=>by
              by_cases e:j=r
              · rw [e];exact uh hgq
              · exact uh hno' j (by omega),uh hgz3⟩
            case measure=>simp [intOf];omega
          | true =>
            have hs:=hide (Gd.lay_some (uh hno') (uh hgq) (uh HR))
            have hnw:=(uh hnew).on (uh hgz3)
            have x0:w3.cell? ⟨P,0,none⟩=some (.int .i64 (M m 0)):=hnw.cell (c:=0) (by simp)
            have x1:w3.cell? ⟨P,1,none⟩=some (.int .i64 (M m 1)):=hnw.cell (c:=1) (by simp)
            have x2:w3.cell? ⟨P,2,none⟩=some (.int .i64 (M m 2)):=hnw.cell (c:=2) (by simp)
            have x3:w3.cell? ⟨P,3,none⟩=some (.int .i64 (M m 3)):=hnw.cell (c:=3) (by simp)
            have hJ3:=(uh hJb).on (uh hgz3)
            obtain ⟨u0,u1,u2,u3⟩:=(hJ3.its (n:=40) (by omega) (by omega)).row (uh HR)
            have fI:=hJ3.free
            have hJn:=hide (hJ3.put r (M m 0) (M m 1) (M m 2) (M m 3))
            have hgn:=hide (gow (gtr (uh hgb) (uh hgz3)) (grown_put4 (World.grownBy.refl _ (some g)) r (.int .i64 (M m 0)) (.int .i64 (M m 1)) (.int .i64 (M m 2)) (.int .i64 (M m 3))) (fun k e=>by cases e;exact uh hlo'))
            have hrne:((r:Int) == 40)=false:=by simp;omega
            clear hnw hJ3
            go_wp2
            go_roundw
            case rel=>exact ⟨r,m+1,by have:=uh HL;omega,by have:=uh HR;omega,rfl,by go_num,fun j hj=>by
              rw [uh hs]
              show Gd.zeroB _ _ _ _=false
              rw [En.put_other (by omega)]
              exact uh hno' j hj,by rw [uh hs];exact uh hJn,uh hgn⟩
            case measure=>simp [intOf];omega
        · have hge:¬(r:Int)<40:=by omega
          have er:(r:Int)=40:=by omega
          have hst:=hide (Gd.lay_stuck (I:=I) (M:=M) (m:=m) (fun j hj=>uh hno' j (by omega)) (n - m))
          have hJf:=hide ((uh hJb).on (uh hgz'))
          have hgf:=hide (gtr (uh hgb) (uh hgz'))
          rw [er]
          clear er hge hr
          go_wp2
          go_ret
          refine ⟨g,40,rfl,uh hlo',?_,uh hgf⟩
          have h:=uh hst
          rw [show m+(n - m)=n by omega] at h
          rw [h]
          exact uh hJf
    · have hge:¬(m:Int)<(n:Int):=by omega
      obtain rfl:m=n:=by omega
      go_wp2
      go_ret
      exact ⟨g,40,rfl,uh hlo',uh hJ',uh hgr'⟩

end Go.Proofs.YtbanjoflgoiegabGreat
