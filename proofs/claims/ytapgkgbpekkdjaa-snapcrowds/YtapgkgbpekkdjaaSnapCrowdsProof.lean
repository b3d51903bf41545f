/-
  Worlds that are crowded are checked, and written, as the document says: for every seed, floor, kinds, items and frame, at this commit; no condition.
-/
import Derived.ProofKit
import Derived.Test.YtapgkgbpekkdjaaPart54
import Derived.ShutString
import Derived.ChangeOld
namespace Go.Proofs.Ytapgkgbpekkdjaa.snapCrowds
open Go.ChangeShapes Go.WideShapes Go.ChangeAt Go.RowKit
open Go.ChangeMaps (open_string shut_string)
set_option linter.unusedVariables false

theorem own:ownKnob Try.prog.godebug=none:=by kernel_rfl
theorem laidOut:laidOutB Try.prog=true:=by kernel_rfl

def IsRow (k:IntKind) (w:World) (a:Option Addr) (len cap:Nat) (zs:List Int):Prop :=
 (a=none∧len=0∧cap=0∧zs=[]) ∨
 ∃x,a=some x∧len≤cap∧cap≤maxLen∧zs.length=cap∧(∀i,i<zs.length→w.cell? (x.add i)=some (.int k (zs.getD i 0)))∧∀n∈zs,(Lit.int k n).wf=true

theorem IsRow.num {w:World} {a:Option Addr} {len cap:Nat} {zs:List Int} (h:IsRow .i64 w a len cap zs):NumArg w a len (fun i=>zs.getD i 0):=by
 rcases h with ⟨rfl,rfl,rfl,rfl⟩ | ⟨x,rfl,hl,hm,hz,hcell,_⟩
 ·exact ⟨Nat.zero_le _,.inl rfl⟩
 ·refine ⟨Nat.le_trans hl hm,?_⟩
  by_cases h0:len=0
  ·exact .inl h0
  ·right
   obtain ⟨b,off,spot⟩:=x
   have hspot:spot=none:=by simpa [Addr.add] using World.cell?_spot (hcell 0 (by omega))
   subst hspot
   have hlt:=Go.block_lt_of_cell (hcell 0 (by omega))
   refine ⟨b,off,rfl,by simpa [Addr.add] using hlt,fun i hi=>?_⟩
   have h:=hcell i (by omega)
   by_cases hi0:i=0
   ·subst hi0
    simpa [Addr.add] using h
   ·simpa [Addr.add,hi0] using h

set_option maxRecDepth 16000 in
set_option maxHeartbeats 6400000 in

theorem walk (a0:Int) (a1:Int) (a2:Option Addr) (len2 cap2:Nat) (z2:List Int) (a3:Option Addr) (len3 cap3:Nat) (z3:Nat→Nat→Int) (a4:Int) (w:World) (w0:(Lit.int .i64 a0).wf=true) (w1:(Lit.int .i64 a1).wf=true) (w2:IsRow .i64 w a2 len2 cap2 z2) (w3:ItArg w a3 len3 cap3 z3) (w4:(Lit.int .i64 a4).wf=true) :
  Calls Try.prog 3 #[.int .i64 a0,.int .i64 a1,.slice a2 len2 cap2,.slice a3 len3 cap3,.int .i64 a4] w fun e w'=>e=.returned (.bool true)∧Below w.heap.size w w':=by
 have hKd:=hide (IsRow.num w2)
 have hIt:=hide w3
 clear w0 w1 w2 w3 w4
 go_enter Try.func3,Try.ntmps3
 go_wp2_with fail
 refine (known11_any _).mono ?_
 rintro e wk ⟨rfl,hgk⟩
 have hIk:=hide ((uh hIt).on hgk)
 have hKk:=hide ((uh hKd).on hgk)
 have hgk':=hide hgk
 clear hgk hIt hKd
 go_wp2_with fail
 refine (crowd_good a0 a1 a4 a2 len2 cap2 _ a3 len3 cap3 z3 wk (uh hKk) (uh hIk)).mono ?_
 rintro e w1 ⟨⟨s,g,c,E,I⟩,hN,hf0,hf1,-,gC,gE,gI,cC,cE,cI,rfl,hcE,l1,l2,l3,n1,n2,n3,hL,hg1⟩
 have hGo:Hid (Cr.Good ⟨s,g,c,E,I⟩∧32≤cE∧0≤s 1∧s 1<1073741824):=⟨hN,hcE,hf0,by have:s 1<1048576:=hf1;omega⟩
 obtain ⟨w2,hw2⟩:∃w2,w2=w1.alloc (.cells (Gd.world s gC gE gI cC cE cI g) 29):=⟨_,rfl⟩
 have hg2:w1.grownBy w2 none:=by rw [hw2];exact World.grownBy_alloc _ _ _
 have hO:Hid (Sn.Shown w w2 w1.heap.size gC gE gI cC cE cI s g c E I):=by
  refine ⟨?_,hL.on hg2,gtr (uh hgk') (gtr hg1 hg2)⟩
  rw [hw2]
  exact (Arr.world (heap_alloc_new w1 _)).lie
 clear hgk' hcE l1 l2 l3 n1 n2 n3 hL hg1 hN hf0 hf1 hIk hKk hg2
 unfold Gd.world at hw2 ⊢
 dsimp only
 go_upto_region 4 with fail
 rw [←hw2]
 clear hw2
 obtain ⟨T,hTe⟩:∃T,w1.heap.size=T:=⟨_,rfl⟩
 rw [hTe] at hO ⊢
 clear hTe
 clear w1 wk
 have c1:=hide (fun z (hz:Gd.Lists z gC gE gI c E I)=>Sn.encode_good s g c E I gC gE gI cC cE cI z hz (uh hGo).1 (uh hGo).2.1 (uh hGo).2.2.1 (uh hGo).2.2.2)
 have c2:=hide (fun z (hz:Gd.Lists z gC gE gI c E I)=>Sn.refEncode_good s g c E I gC gE gI cC cE cI z hz (uh hGo).1 (uh hGo).2.1 (uh hGo).2.2.1 (uh hGo).2.2.2)
 have c3:=hide (fun z (hz:Gd.Lists z gC gE gI c E I)=>Sn.check_good s g c E I gC gE gI cC cE cI z hz (uh hGo).1 (uh hGo).2.1 (uh hGo).2.2.1 (uh hGo).2.2.2)
 have c4:=hide (fun z (hz:Gd.Lists z gC gE gI c E I)=>snapCheck_any s g c E I gC gE gI cC cE cI z hz (uh hGo).1 (uh hGo).2.1 (uh hGo).2.2.1 (uh hGo).2.2.2)
 unfold Gd.world at c1 c2 c3 c4
 obtain ⟨l,hl⟩:∃l,Sn.bytes s g c E I=l:=⟨_,rfl⟩
 have hl0:Hid (0<l.length):=by
  show 0<l.length
  rw [←hl,Sn.bytes_len]
  omega
 rw [hl] at c1 c2
 clear hl hGo
 obtain ⟨b0,b1,b2,b3,b4,b5,b6,b7,b8,b9,b10⟩:=(uh hO).box.eleven
 go_wp2_with fail
 refine (uh c1 _ (uh hO).lists).mono ?_
 rintro e w3 ⟨v1,rfl,hb1,hg3⟩
 have hO3:=hide ((uh hO).on hg3)
 have hB1:=hide hb1
 clear hb1 hg3 hO b0 b1 b2 b3 b4 b5 b6 b7 b8 b9 b10 c1
 obtain ⟨b0,b1,b2,b3,b4,b5,b6,b7,b8,b9,b10⟩:=(uh hO3).box.eleven
 go_wp2_with fail
 refine (uh c2 _ (uh hO3).lists).mono ?_
 rintro e w4 ⟨v2,rfl,hb2,hg4⟩
 have hO4:=hide ((uh hO3).on hg4)
 have hB2:=hide hb2
 have hB1':=hide ((uh hB1).on hg4)
 clear hb2 hg4 hO3 b0 b1 b2 b3 b4 b5 b6 b7 b8 b9 b10 c2 hB1
 go_upto_region 6 with fail
 obtain ⟨base1,hB3⟩:∃b,Hid (Sn.Bytes w4 b v1 l):=⟨_,hB1'⟩
 obtain ⟨base2,hB4⟩:∃b,Hid (Sn.Bytes w4 b v2 l):=⟨_,hB2⟩
 clear hB1' hB2
 refine wp_region_grown (by kernel_rfl) (by kernel_rfl) ?_
 intro St hN W hI hx
 have d:∀σ,Sn.Shown w (W σ) T gC gE gI cC cE cI s g c E I:=fun σ=>(uh hO4).on (hI σ)
 have e0:∀σ,(W σ).cell? ⟨T,0,none⟩=some (.int .i64 (s 0)):=fun σ=>(d σ).box.eleven.1
 have e1:∀σ,(W σ).cell? ⟨T,1,none⟩=some (.int .i64 (s 1)):=fun σ=>(d σ).box.eleven.2.1
 have e2:∀σ,(W σ).cell? ⟨T,2,none⟩=some (.int .i64 (s 2)):=fun σ=>(d σ).box.eleven.2.2.1
 have e3:∀σ,(W σ).cell? ⟨T,3,none⟩=some (.int .i64 (s 3)):=fun σ=>(d σ).box.eleven.2.2.2.1
 have e4:∀σ,(W σ).cell? ⟨T,4,none⟩=some (.slice (some ⟨gC,0,none⟩) 384 cC):=fun σ=>(d σ).box.eleven.2.2.2.2.1
 have e5:∀σ,(W σ).cell? ⟨T,5,none⟩=some (.slice (some ⟨gE,0,none⟩) 32 cE):=fun σ=>(d σ).box.eleven.2.2.2.2.2.1
 have e6:∀σ,(W σ).cell? ⟨T,6,none⟩=some (.slice (some ⟨gI,0,none⟩) 40 cI):=fun σ=>(d σ).box.eleven.2.2.2.2.2.2.1
 have e7:∀σ,(W σ).cell? ⟨T,7,none⟩=some (.int .i64 (g 0)):=fun σ=>(d σ).box.eleven.2.2.2.2.2.2.2.1
 have e8:∀σ,(W σ).cell? ⟨T,8,none⟩=some (.int .i64 (g 1)):=fun σ=>(d σ).box.eleven.2.2.2.2.2.2.2.2.1
 have e9:∀σ,(W σ).cell? ⟨T,9,none⟩=some (.int .i64 (g 2)):=fun σ=>(d σ).box.eleven.2.2.2.2.2.2.2.2.2.1
 have e10:∀σ,(W σ).cell? ⟨T,10,none⟩=some (.int .i64 (g 3)):=fun σ=>(d σ).box.eleven.2.2.2.2.2.2.2.2.2.2
 have k3:∀σ,Calls Try.prog 9 #[.agg #[.int .i64 (s 0),.int .i64 (s 1),.int .i64 (s 2),.int .i64 (s 3),.slice (some ⟨gC,0,none⟩) 384 cC,.slice (some ⟨gE,0,none⟩) 32 cE,.slice (some ⟨gI,0,none⟩) 40 cI,.int .i64 (g 0),.int .i64 (g 1),.int .i64 (g 2),.int .i64 (g 3)]] (W σ) fun e w''=>e=.returned (.int .i64 0)∧∃σ',w''=W σ':=fun σ=>calls_class hI hx (uh c3 _ (d σ).lists)
 have k4:∀σ,Calls Try.prog 10 #[.agg #[.int .i64 (s 0),.int .i64 (s 1),.int .i64 (s 2),.int .i64 (s 3),.slice (some ⟨gC,0,none⟩) 384 cC,.slice (some ⟨gE,0,none⟩) 32 cE,.slice (some ⟨gI,0,none⟩) 40 cI,.int .i64 (g 0),.int .i64 (g 1),.int .i64 (g 2),.int .i64 (g 3)]] (W σ) fun e w''=>e=.returned (.int .i64 0)∧∃σ',w''=W σ':=fun σ=>calls_class hI hx (uh c4 _ (d σ).lists)
 have t1:∀σ,(convert 25 9 v1).run Try.prog (W σ)=.ok (.string (strOfNums l)) (W σ):=fun σ=>((uh hB3).on (hI σ)).text (uh hl0)
 have t2:∀σ,(convert 25 9 v2).run Try.prog (W σ)=.ok (.string (strOfNums l)) (W σ):=fun σ=>((uh hB4).on (hI σ)).text (uh hl0)
 obtain ⟨X,hX⟩:∃X,strOfNums l=X:=⟨_,rfl⟩
 rw [hX] at t1 t2
 have hI2:=hide hI
 clear hI hx d c3 c4 hB3 hB4 hX
 repeat (go_big_quiet_step (first | (go_at_call 9;exact k3 _) | (go_at_call 10;exact k4 _)))
 refine wpQuiet_nil ?_
 rintro _ ⟨σ,rfl⟩
 obtain ⟨wq,hwq⟩:∃wq,W σ=wq:=⟨_,rfl⟩
 have hgq:=hide (gtr (uh hO4).grown (uh hI2 σ))
 rw [hwq] at hgq ⊢
 clear e0 e1 e2 e3 e4 e5 e6 e7 e8 e9 e10 k3 k4 t1 t2 hI2 hwq
 clear σ W hN St
 go_wp2
 go_ret
 exact ⟨rfl,none_below (uh hgq)⟩

set_option maxRecDepth 100000 in
theorem lifted (os:Os) (started:os.Started) (H:Type) (enc:TypeId × Value→H) :
  ReturnsInHanded {} Try.checked os 3 .any (Rows.snapCrowdsSpec.pre6 enc Try.prog Try.f3 Rows.snapCrowdsRow.domain false) (Rows.snapCrowdsSpec.post enc Try.prog Try.f3 false true false false):=by
 refine returnsInHanded_of_change (C:=Try.checked) own started (by kernel_rfl) Try.func3
  (ChangeSpec.witness6 (enc:=enc) (C:=Try.checked) false ⟨#[],#[.int .i64 0,.int .i64 0,.slice none 0 0,.slice none 0 0,.int .i64 0],[]⟩ 8 (by kernel_rfl) (by kernel_rfl) (by kernel_rfl) (by kernel_rfl)) ?_
 intro W base args ds gs before hval0 hW hcnd _
 have hval:∀(j:Nat) t v,Try.f3.params[j]?=some t→args[j]?=some v→Value.okWide Try.prog W .any base t v:=hval0
 have hW':=hW
 obtain ⟨p,q,hA0,hV,rfl,hfz,hnd⟩:=hW
 have hA:DataW.TrodAll enc Try.prog W 0 (fun _=>true) true Try.f3.params.toList args.toList ds p:=hA0
 rw [Try.params3] at hA hval
 obtain ⟨v0,vs0,d0,ds0,p0,q0,hargs,rfl,rfl,h0,r0⟩:=trodAll_cons hA
 obtain ⟨v1,vs1,d1,ds1,p1,q1,rfl,rfl,rfl,h1,r1⟩:=trodAll_cons r0
 obtain ⟨v2,vs2,d2,ds2,p2,q2,rfl,rfl,rfl,h2,r2⟩:=trodAll_cons r1
 obtain ⟨v3,vs3,d3,ds3,p3,q3,rfl,rfl,rfl,h3,r3⟩:=trodAll_cons r2
 obtain ⟨v4,vs4,d4,ds4,p4,q4,rfl,rfl,rfl,h4,r4⟩:=trodAll_cons r3
 obtain ⟨rfl,rfl,rfl⟩:=trodAll_nil r4
 obtain rfl:args=#[v0,v1,v2,v3,v4]:=by cases args;simp_all
 obtain ⟨rfl,rfl⟩:=trodVars_none hV
 obtain ⟨a0,rfl,rfl,rfl,w0⟩:=open_int Try.underlying2 (hval 0 2 v0 rfl rfl) h0
 obtain ⟨a1,rfl,rfl,rfl,w1⟩:=open_int Try.underlying3 (hval 1 3 v1 rfl rfl) h1
 obtain ⟨a2,len2,cap2,rfl⟩:=okWide_slice Try.underlying22 (hval 2 22 v2 rfl rfl)
 have k2:=h2
 have lt2:∀x∈p2,x.block<W.heap.size:=by obtain ⟨m,hm⟩:=k2;exact DataW.trod_lt m _ _ _ hm
 obtain ⟨z2,w2⟩:∃zs,IsRow .i64 W a2 len2 cap2 zs:=by
  obtain ⟨fuel,hf⟩:=h2
  rcases open_ints Try.underlying22 Try.underlying3 (by kernel_rfl) hf with ⟨hcs,_⟩ | ⟨x,l,c,zs,hcs,_,hl,hm,hz,_,hcell,hwz⟩
  ·simp [Value.cells] at hcs
   obtain ⟨rfl,rfl,rfl⟩:=hcs
   exact ⟨[],.inl ⟨rfl,rfl,rfl,rfl⟩⟩
  ·simp [Value.cells] at hcs
   obtain ⟨rfl,rfl,rfl⟩:=hcs
   exact ⟨zs,.inr ⟨_,rfl,hl,hm,by simpa using hz,hcell,hwz⟩⟩
 obtain ⟨a3,len3,cap3,rfl⟩:=okWide_slice Try.underlying23 (hval 3 23 v3 rfl rfl)
 have k3:=h3
 have lt3:∀x∈p3,x.block<W.heap.size:=by obtain ⟨m,hm⟩:=k3;exact DataW.trod_lt m _ _ _ hm
 obtain ⟨z3,w3⟩:∃M,ItArg W a3 len3 cap3 M:=by
  obtain ⟨fuel,hf⟩:=h3
  exact open_items (by simpa [Value.cells] using hf)
 obtain ⟨a4,rfl,rfl,rfl,w4⟩:=open_int Try.underlying3 (hval 4 3 v4 rfl rfl) h4
 clear hA0 hval0
 refine (walk a0 a1 a2 len2 cap2 z2 a3 len3 cap3 z3 a4 W w0 w1 w2 w3 w4).mono fun e W' ⟨he,bel⟩=>?_
 subst he
 exact ⟨_,rfl,_,_,_,[],_,[],hW',trodAll_mk1 (shut_bool Try.underlying4 _),(trodAll_cons_mk (shut_int Try.underlying2 w0) (trodAll_cons_mk (shut_int Try.underlying3 w1) (trodAll_cons_mk (Below.trod laidOut (by kernel_rfl) (of_decide_eq_true (by kernel_rfl)) k2 bel lt2) (trodAll_cons_mk (Below.trod laidOut (by kernel_rfl) (of_decide_eq_true (by kernel_rfl)) k3 bel lt3) (trodAll_cons_mk (shut_int Try.underlying3 w4) trodAll_mk0))))),rfl,bel.frame _,fun h=>by cases h⟩

theorem over:Rows.snapCrowdsRow.holds Try.pinned (OpenSpec.ofChange Rows.snapCrowdsSpec) :=
 OpenClaim.holds_of_wide 3 Try.f3 rfl rfl rfl rfl rfl rfl rfl ⟨rfl,rfl,rfl,rfl,rfl⟩ rfl rfl rfl rfl rfl (by kernel_rfl) Try.func3 (by kernel_rfl)
  (of_decide_eq_true (by kernel_rfl)) (by unfold Func.isWrapper;first | (rw [if_pos (by decide +kernel)];kernel_rfl) | (rw [if_neg (by decide +kernel)];exact ⟨rfl,rfl⟩))
  (fun os started H enc _=>lifted os started H enc)

theorem proved:Rows.SnapCrowdsSaid:=over
#print axioms proved

end Go.Proofs.Ytapgkgbpekkdjaa.snapCrowds
