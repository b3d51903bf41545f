/-
  A campaign's bytes are a byte and its world's; read again they are it; turned, cut off or with more behind (more than 100 are let by) they are read as the document says: for every seed, list of rows of numbers, number, places, bytes, cut and bytes behind, at this commit; no condition.
-/
import Derived.ProofKit
import Derived.Test.YtldgbkjceildfaaGreatBy55
import Derived.ShutString
import Derived.ChangeOld
namespace Go.Proofs.YtldgbkjceildfaaGreat.saveBytes
open Go.ChangeShapes Go.WideShapes Go.ChangeAt Go.RowKit
open Go.ChangeMaps (open_string shut_string)
set_option linter.unusedVariables false

theorem own:ownKnob Tryz.prog.godebug=none:=by kernel_rfl
theorem laidOut:laidOutB Tryz.prog=true:=by kernel_rfl

def IsRow (k:IntKind) (w:World) (a:Option Addr) (len cap:Nat) (zs:List Int):Prop :=
 (a=none∧len=0∧cap=0∧zs=[]) ∨
 ∃x,a=some x∧len≤cap∧cap≤maxLen∧zs.length=cap∧(∀i,i<zs.length→w.cell? (x.add i)=some (.int k (zs.getD i 0)))∧∀n∈zs,(Lit.int k n).wf=true

theorem IsRow.vec {k:IntKind} {w:World} {a:Option Addr} {len cap:Nat} {zs:List Int} (h:IsRow k w a len cap zs):Vec w.heap.size w a len (fun i=>.int k (zs[i]?.getD 0)):=by
 rcases h with ⟨rfl,rfl,rfl,rfl⟩|⟨x,rfl,hl,hm,hz,hcell,_⟩
 ·exact ⟨Nat.zero_le _,.inl rfl⟩
 ·refine ⟨Nat.le_trans hl hm,?_⟩;by_cases h0:len=0
  ·exact .inl h0
  ·right;obtain ⟨b,off,spot⟩:=x;have hc0:=hcell 0 (by omega);have hspot:spot=none:=by simpa [Addr.add] using World.cell?_spot hc0
   subst hspot;refine ⟨b,off,rfl,?_,fun i hi=>?_⟩
   ·have h:=Go.block_lt_of_cell hc0;simpa [Addr.add] using h
   ·have h:=hcell i (by omega);by_cases hi0:i=0
    ·subst hi0;simpa [Addr.add] using h
    ·simpa [Addr.add,hi0] using h

theorem IsRow.byte {w:World} {a:Option Addr} {len cap:Nat} {zs:List Int} (h:IsRow .u8 w a len cap zs) (i:Nat):0≤zs[i]?.getD 0∧zs[i]?.getD 0≤255:=by
 rcases h with ⟨_,_,_,rfl⟩|⟨_,_,_,_,_,_,hw⟩
 ·simp
 ·by_cases hi:i<zs.length
  ·have h:=hw zs[i] (List.getElem_mem hi);simp only [Lit.wf,Bool.and_eq_true,decide_eq_true_eq,show IntKind.u8.min=0 from by decide,show IntKind.u8.max=255 from by decide] at h;rw [List.getElem?_eq_getElem hi];exact h
  ·rw [List.getElem?_eq_none (by omega)];simp

theorem IsRow.src {w:World} {a:Option Addr} {len cap:Nat} {zs:List Int} (h:IsRow .u8 w a len cap zs):∃l:List Int,l.length=len∧len≤cap∧cap≤maxLen∧Ck.Src w (.slice a l.length cap) l∧∀b∈l,0≤b∧b≤255:=by
 have hby:=IsRow.byte h;rcases h with ⟨rfl,rfl,rfl,rfl⟩|⟨x,rfl,hl,hm,hz,hcell,_⟩
 ·exact ⟨[],rfl,Nat.le_refl _,Nat.zero_le _,.inl ⟨rfl,rfl⟩,fun b hb=>absurd hb (by simp)⟩
 ·refine ⟨zs.take len,by rw [List.length_take];omega,hl,hm,.inr ⟨x,cap,rfl,fun j u hj=>?_⟩,fun b hb=>?_⟩
  ·unfold Ck.bys at hj;rw [List.getElem?_map,List.getElem?_take] at hj;split at hj
   ·rename_i hjl;have hjz:j<zs.length:=by omega
    rw [List.getElem?_eq_getElem hjz] at hj;simp at hj;rw [hcell j hjz,←hj,List.getD,List.getElem?_eq_getElem hjz];rfl
   ·simp at hj
  ·obtain ⟨i,hi,rfl⟩:=List.getElem_of_mem (List.mem_of_mem_take hb);have q:=hby i;rw [List.getElem?_eq_getElem hi] at q;exact q

theorem walk (a0:Int) (a1:Option Addr) (len1 cap1:Nat) (z1:(Nat→Option Addr × Nat × Nat) × (Nat→Nat→Int)) (a2:Int) (a3:Option Addr) (len3 cap3:Nat) (z3:List Int) (a4:Option Addr) (len4 cap4:Nat) (z4:List Int) (a5:Int) (a6:Option Addr) (len6 cap6:Nat) (z6:List Int) (w:World) (w0:(Lit.int .i64 a0).wf=true) (w1:Cr.Came w a1 len1 z1.1 z1.2) (w2:(Lit.int .i64 a2).wf=true) (w3:IsRow .i64 w a3 len3 cap3 z3) (w4:IsRow .u8 w a4 len4 cap4 z4) (w5:(Lit.int .i64 a5).wf=true) (w6:IsRow .u8 w a6 len6 cap6 z6) :
  Calls Tryz.prog 3 #[.int .i64 a0,.slice a1 len1 cap1,.int .i64 a2,.slice a3 len3 cap3,.slice a4 len4 cap4,.int .i64 a5,.slice a6 len6 cap6] w fun e w'=>e=.returned (.bool true)∧Below w.heap.size w w':=by
 obtain ⟨V0,z⟩:=z1;obtain ⟨lm,hlm,hmc,hmm,hms,hmb⟩:=IsRow.src w6;exact saveBytes_any a0 a2 a5 a1 a3 a4 a6 len1 cap1 len3 cap3 len4 cap4 len6 cap6 V0 z (fun i=>z3[i]?.getD 0) (fun i=>z4[i]?.getD 0) lm w w0 w2 w1 (IsRow.vec w3) (IsRow.vec w4) (IsRow.byte w4) hlm ⟨hmc,hmm⟩ hms hmb

set_option maxRecDepth 100000 in
theorem lifted (os:Os) (started:os.Started) (H:Type) (enc:TypeId × Value→H) :
  ReturnsInHanded {} Tryz.checked os 3 .any (Rows.saveBytesSpec.pre6 enc Tryz.prog Tryz.f3 Rows.saveBytesRow.domain false) (Rows.saveBytesSpec.post enc Tryz.prog Tryz.f3 false true false false):=by
 refine returnsInHanded_of_change (C:=Tryz.checked) own started (by kernel_rfl) Tryz.func3
  (ChangeSpec.witness6 (enc:=enc) (C:=Tryz.checked) false ⟨#[],#[.int .i64 0,.slice none 0 0,.int .i64 0,.slice none 0 0,.slice none 0 0,.int .i64 0,.slice none 0 0],[]⟩ 8 (by kernel_rfl) (by kernel_rfl) (by kernel_rfl) (by kernel_rfl)) ?_
 intro W base args ds gs before hval0 hW hcnd _;have hval:∀(j:Nat) t v,Tryz.f3.params[j]?=some t→args[j]?=some v→Value.okWide Tryz.prog W .any base t v:=hval0;have hW':=hW;obtain ⟨p,q,hA0,hV,rfl,hfz,hnd⟩:=hW;have hA:DataW.TrodAll enc Tryz.prog W 0 (fun _=>true) true Tryz.f3.params.toList args.toList ds p:=hA0;rw [Tryz.params3] at hA hval;obtain ⟨v0,vs0,d0,ds0,p0,q0,hargs,rfl,rfl,h0,r0⟩:=trodAll_cons hA;obtain ⟨v1,vs1,d1,ds1,p1,q1,rfl,rfl,rfl,h1,r1⟩:=trodAll_cons r0;obtain ⟨v2,vs2,d2,ds2,p2,q2,rfl,rfl,rfl,h2,r2⟩:=trodAll_cons r1;obtain ⟨v3,vs3,d3,ds3,p3,q3,rfl,rfl,rfl,h3,r3⟩:=trodAll_cons r2;obtain ⟨v4,vs4,d4,ds4,p4,q4,rfl,rfl,rfl,h4,r4⟩:=trodAll_cons r3;obtain ⟨v5,vs5,d5,ds5,p5,q5,rfl,rfl,rfl,h5,r5⟩:=trodAll_cons r4;obtain ⟨v6,vs6,d6,ds6,p6,q6,rfl,rfl,rfl,h6,r6⟩:=trodAll_cons r5;obtain ⟨rfl,rfl,rfl⟩:=trodAll_nil r6;obtain rfl:args=#[v0,v1,v2,v3,v4,v5,v6]:=by cases args;simp_all
 obtain ⟨rfl,rfl⟩:=trodVars_none hV;obtain ⟨a0,rfl,rfl,rfl,w0⟩:=open_int Tryz.underlying2 (hval 0 2 v0 rfl rfl) h0;obtain ⟨a1,len1,cap1,rfl⟩:=okWide_slice Tryz.underlying22 (hval 1 22 v1 rfl rfl);have k1:=h1;have lt1:∀x∈p1,x.block<W.heap.size:=by obtain ⟨m,hm⟩:=k1;exact DataW.trod_lt m _ _ _ hm
 obtain ⟨z1,w1⟩:∃z:(Nat→Option Addr × Nat × Nat) × (Nat→Nat→Int),Cr.Came W a1 len1 z.1 z.2:=by
  obtain ⟨fuel,hf⟩:=h1;obtain ⟨V,z,h⟩:=open_rows (by simpa [Value.cells] using hf);exact ⟨(V,z),h⟩
 obtain ⟨a2,rfl,rfl,rfl,w2⟩:=open_int Tryz.underlying3 (hval 2 3 v2 rfl rfl) h2;obtain ⟨a3,len3,cap3,rfl⟩:=okWide_slice Tryz.underlying23 (hval 3 23 v3 rfl rfl);have k3:=h3;have lt3:∀x∈p3,x.block<W.heap.size:=by obtain ⟨m,hm⟩:=k3;exact DataW.trod_lt m _ _ _ hm
 obtain ⟨z3,w3⟩:∃zs,IsRow .i64 W a3 len3 cap3 zs:=by
  obtain ⟨fuel,hf⟩:=h3;rcases open_ints Tryz.underlying23 Tryz.underlying3 (by kernel_rfl) hf with ⟨hcs,_⟩|⟨x,l,c,zs,hcs,_,hl,hm,hz,_,hcell,hwz⟩
  ·simp [Value.cells] at hcs;obtain ⟨rfl,rfl,rfl⟩:=hcs;exact ⟨[],.inl ⟨rfl,rfl,rfl,rfl⟩⟩
  ·simp [Value.cells] at hcs;obtain ⟨rfl,rfl,rfl⟩:=hcs;exact ⟨zs,.inr ⟨_,rfl,hl,hm,by simpa using hz,hcell,hwz⟩⟩
 obtain ⟨a4,len4,cap4,rfl⟩:=okWide_slice Tryz.underlying24 (hval 4 24 v4 rfl rfl);have k4:=h4;have lt4:∀x∈p4,x.block<W.heap.size:=by obtain ⟨m,hm⟩:=k4;exact DataW.trod_lt m _ _ _ hm
 obtain ⟨z4,w4⟩:∃zs,IsRow .u8 W a4 len4 cap4 zs:=by
  obtain ⟨fuel,hf⟩:=h4;rcases open_ints Tryz.underlying24 Tryz.underlying5 (by kernel_rfl) hf with ⟨hcs,_⟩|⟨x,l,c,zs,hcs,_,hl,hm,hz,_,hcell,hwz⟩
  ·simp [Value.cells] at hcs;obtain ⟨rfl,rfl,rfl⟩:=hcs;exact ⟨[],.inl ⟨rfl,rfl,rfl,rfl⟩⟩
  ·simp [Value.cells] at hcs;obtain ⟨rfl,rfl,rfl⟩:=hcs;exact ⟨zs,.inr ⟨_,rfl,hl,hm,by simpa using hz,hcell,hwz⟩⟩
 obtain ⟨a5,rfl,rfl,rfl,w5⟩:=open_int Tryz.underlying3 (hval 5 3 v5 rfl rfl) h5;obtain ⟨a6,len6,cap6,rfl⟩:=okWide_slice Tryz.underlying24 (hval 6 24 v6 rfl rfl);have k6:=h6;have lt6:∀x∈p6,x.block<W.heap.size:=by obtain ⟨m,hm⟩:=k6;exact DataW.trod_lt m _ _ _ hm
 obtain ⟨z6,w6⟩:∃zs,IsRow .u8 W a6 len6 cap6 zs:=by
  obtain ⟨fuel,hf⟩:=h6;rcases open_ints Tryz.underlying24 Tryz.underlying5 (by kernel_rfl) hf with ⟨hcs,_⟩|⟨x,l,c,zs,hcs,_,hl,hm,hz,_,hcell,hwz⟩
  ·simp [Value.cells] at hcs;obtain ⟨rfl,rfl,rfl⟩:=hcs;exact ⟨[],.inl ⟨rfl,rfl,rfl,rfl⟩⟩
  ·simp [Value.cells] at hcs;obtain ⟨rfl,rfl,rfl⟩:=hcs;exact ⟨zs,.inr ⟨_,rfl,hl,hm,by simpa using hz,hcell,hwz⟩⟩
 clear hA0 hval0;refine (walk a0 a1 len1 cap1 z1 a2 a3 len3 cap3 z3 a4 len4 cap4 z4 a5 a6 len6 cap6 z6 W w0 w1 w2 w3 w4 w5 w6).mono fun e W' ⟨he,bel⟩=>?_;subst he;exact ⟨_,rfl,_,_,_,[],_,[],hW',trodAll_mk1 (shut_bool Tryz.underlying4 _),(trodAll_cons_mk (shut_int Tryz.underlying2 w0) (trodAll_cons_mk (Below.trod laidOut (by kernel_rfl) (of_decide_eq_true (by kernel_rfl)) k1 bel lt1) (trodAll_cons_mk (shut_int Tryz.underlying3 w2) (trodAll_cons_mk (Below.trod laidOut (by kernel_rfl) (of_decide_eq_true (by kernel_rfl)) k3 bel lt3) (trodAll_cons_mk (Below.trod laidOut (by kernel_rfl) (of_decide_eq_true (by kernel_rfl)) k4 bel lt4) (trodAll_cons_mk (shut_int Tryz.underlying3 w5) (trodAll_cons_mk (Below.trod laidOut (by kernel_rfl) (of_decide_eq_true (by kernel_rfl)) k6 bel lt6) trodAll_mk0))))))),rfl,bel.frame _,fun h=>by cases h⟩

theorem over:Rows.saveBytesRow.holds Tryz.pinned (OpenSpec.ofChange Rows.saveBytesSpec) :=
 OpenClaim.holds_of_wide 3 Tryz.f3 rfl rfl rfl rfl rfl rfl rfl ⟨rfl,rfl,rfl,rfl,rfl⟩ rfl rfl rfl rfl rfl (by kernel_rfl) Tryz.func3 (by kernel_rfl)
  (of_decide_eq_true (by kernel_rfl)) (by unfold Func.isWrapper;first | (rw [if_pos (by decide +kernel)];kernel_rfl) | (rw [if_neg (by decide +kernel)];exact ⟨rfl,rfl⟩))
  (fun os started H enc _=>lifted os started H enc)

theorem proved:Rows.SaveBytesSaid:=over
#print axioms proved

end Go.Proofs.YtldgbkjceildfaaGreat.saveBytes
