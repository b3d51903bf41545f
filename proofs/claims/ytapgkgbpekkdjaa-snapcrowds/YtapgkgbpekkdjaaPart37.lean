import Derived.Test.YtapgkgbpekkdjaaPart34
import Derived.Deep.Fields
namespace Go.Proofs.Ytapgkgbpekkdjaa
open Go.RowKit Go.ChangeShapes Go.WideShapes

def Gd.plain (P:Program) (fs:Array Field):Bool:=fs.size == 4 && (List.range 4).all fun i=>match fs[i]? with
 | some f=>f.offset == i && f.type == 3 && P.cellsOf f.type == 1
 | none=>false

theorem Gd.plain_at {P:Program} {fs:Array Field} (h:Gd.plain P fs=true):∀j,j<4→∃f,fs[j]?=some f∧f.offset=j∧f.type=3∧P.cellsOf f.type=1:=by
 intro j hj
 unfold Gd.plain at h
 rw [Bool.and_eq_true] at h
 have:=List.all_eq_true.1 h.2 j (List.mem_range.2 hj)
 cases hf:fs[j]? with
 | none=>rw [hf] at this;cases this
 | some f =>
  rw [hf] at this
  simp only [Bool.and_eq_true,beq_iff_eq] at this
  exact ⟨f,rfl,this.1.1,this.1.2,this.2⟩

theorem open_plain4 {H:Type} {enc:TypeId × Value→H} {w:World} {base:Nat} {sp:Nat→Bool} {held:Bool} {P:Program} {t:TypeId} {fs:Array Field} {fuel:Nat} {cs:List Value} {x:DataW H × List MemPlace} (ht:P.underlying t=some (.struct fs)) (hp:Gd.plain P fs=true) (hi:P.underlying 3=some (.int .i64)) (hl:cs.length=4) (h:DataW.trod enc P w base sp held fuel t cs=some x) :
  ∃e:Nat→Int,∀j,j<4→cs[j]?=some (.int .i64 (e j)):=by
 obtain ⟨xs,n,_,_,_,hxl,hf⟩:=DataW.trod_struct ht h
 have hsz:fs.size=4:=by
  unfold Gd.plain at hp
  rw [Bool.and_eq_true] at hp
  exact beq_iff_eq.1 hp.1
 refine Go.Deep.choose_lt (α:=Int) (p:=fun j z=>cs[j]?=some (.int .i64 z)) fun j hj=>?_
 obtain ⟨f,h1,h2,h3,h4⟩:=Gd.plain_at hp j hj
 have g:=hf j f h1
 rw [h4,h2,Go.Deep.take1_drop cs j undef (by omega),List.getElem?_eq_getElem (by omega),h3] at g
 obtain ⟨z,hz,_,_⟩:=DataW.trod_int hi g
 refine ⟨z,?_⟩
 rw [List.getElem?_eq_getElem (by omega)]
 simp only [List.getD_eq_getElem?_getD,List.getElem?_eq_getElem (show j<cs.length by omega),Option.getD_some,List.cons.injEq,and_true] at hz
 rw [hz]

structure ItArg (w:World) (a:Option Addr) (len cap:Nat) (M:Nat→Nat→Int):Prop where
 most:len≤maxLen
 cap:len≤cap
 rows:len=0∨∃b o,a=some ⟨b,o,none⟩∧b<w.heap.size∧∀i j,i<len→j<4→w.cell? ⟨b,o+i*4+j,none⟩=some (.int .i64 (M i j))

theorem ItArg.on {w w':World} {a:Option Addr} {len cap:Nat} {M:Nat→Nat→Int} (h:ItArg w a len cap M) (hg:w.grownBy w' none):ItArg w' a len cap M :=
 ⟨h.most,h.cap,h.rows.imp id fun ⟨b,o,ha,hb,hc⟩=>⟨b,o,ha,Nat.lt_of_lt_of_le hb hg.size,fun i j hi hj=>(gce hg b _ hb (by simp)).trans (hc i j hi hj)⟩⟩

theorem ItArg.some {w:World} {a:Option Addr} {len cap:Nat} {M:Nat→Nat→Int} (h:ItArg w a len cap M) (n:Nat) (hn:n≤len) (h100:n≤100):Gd.Some w a n M:=by
 refine ⟨h100,?_⟩
 rcases h.rows with h0 | ⟨b,o,ha,hb,hc⟩
 ·exact .inl (by omega)
 ·exact .inr ⟨b,o,ha,h100,hb,fun i j hi hj=>hc i j (by omega) hj⟩

theorem open_items {H:Type} {enc:TypeId × Value→H} {w:World} {base:Nat} {sp:Nat→Bool} {held:Bool} {fuel:Nat} {a:Option Addr} {len cap:Nat} {x:DataW H × List MemPlace} (h:DataW.trod enc Try.prog w base sp held fuel 23 [.slice a len cap]=some x):∃M,ItArg w a len cap M:=by
 rcases Go.Deep.open_slice Try.underlying23 h with ⟨hcs,_⟩ | ⟨a',len',cap',m,n,D,Pl,hcs,_,hl,hm,hmm,_,hx⟩
 ·simp only [List.cons.injEq,Value.slice.injEq,and_true] at hcs
  obtain ⟨rfl,rfl,rfl⟩:=hcs
  exact ⟨fun _ _=>0,Nat.zero_le _,Nat.zero_le _,.inl rfl⟩
 ·simp only [List.cons.injEq,Value.slice.injEq,and_true] at hcs
  obtain ⟨rfl,rfl,rfl⟩:=hcs
  have hc4:Try.prog.cellsOf 47=4:=by kernel_rfl
  rw [hc4] at hx
  have hlm:len≤m:=by rw [hmm];split <;> omega
  obtain ⟨E,hE⟩:∃E:Nat→Nat→Int,∀i,i<len→∀j,j<4→w.cell? ((a'.add (i*4)).add j)=some (.int .i64 (E i j)):=by
   refine Go.Deep.choose_lt (α:=Nat→Int) (p:=fun i e=>∀j,j<4→w.cell? ((a'.add (i*4)).add j)=some (.int .i64 (e j))) fun i hi=>?_
   obtain ⟨cs',h1,h2⟩:=hx i (by omega)
   obtain ⟨_,hlen,hcell⟩:=World.cells?_some h1
   obtain ⟨e,he⟩:=open_plain4 Try.underlying47 (by kernel_rfl) Try.underlying3 hlen h2
   exact ⟨e,fun j hj=>(hcell j hj).trans (he j hj)⟩
  refine ⟨E,Nat.le_trans hl hm,hl,?_⟩
  by_cases h0:len=0
  ·exact .inl h0
  ·right
   obtain ⟨b,off,spot⟩:=a'
   have hc0:=hE 0 (by omega) 0 (by omega)
   have hspot:spot=none:=by simpa [Addr.add] using World.cell?_spot hc0
   subst hspot
   have hadd:∀i j,((⟨b,off,none⟩:Addr).add (i*4)).add j=⟨b,off+i*4+j,none⟩:=fun i j=>by rw [add_plain,add_plain]
   refine ⟨b,off,rfl,?_,fun i j hi hj=>by rw [←hadd];exact hE i hi j hj⟩
   have h:=Go.block_lt_of_cell hc0
   rw [hadd] at h
   exact h

structure NumArg (w:World) (a:Option Addr) (len:Nat) (f:Nat→Int):Prop where
 most:len≤maxLen
 rows:len=0∨∃b o,a=some ⟨b,o,none⟩∧b<w.heap.size∧∀i,i<len→w.cell? ⟨b,o+i,none⟩=some (.int .i64 (f i))

theorem NumArg.on {w w':World} {a:Option Addr} {len:Nat} {f:Nat→Int} (h:NumArg w a len f) (hg:w.grownBy w' none):NumArg w' a len f :=
 ⟨h.most,h.rows.imp id fun ⟨b,o,ha,hb,hc⟩=>⟨b,o,ha,Nat.lt_of_lt_of_le hb hg.size,fun i hi=>(gce hg b _ hb (by simp)).trans (hc i hi)⟩⟩

theorem NumArg.at {w:World} {a:Option Addr} {len:Nat} {f:Nat→Int} (h:NumArg w a len f) {k:Nat} (hk:k<len):∃b o,a=some ⟨b,o,none⟩∧b<w.heap.size∧w.cell? ⟨b,o+k,none⟩=some (.int .i64 (f k)):=by
 rcases h.rows with h0 | ⟨b,o,ha,hb,hc⟩
 ·omega
 ·exact ⟨b,o,ha,hb,hc k hk⟩

end Go.Proofs.Ytapgkgbpekkdjaa
