import Derived.Test.YtldgbkjceildfaaGreatBy30
namespace Go.Proofs.YtldgbkjceildfaaGreat
open Go.RowKit

set_option maxRecDepth 16000 in
set_option maxHeartbeats 12800000 in
theorem Sn.tests_hpm {w:World} {B D F gC gE gI cC cE cI k:Nat} {s g c:Nat→Int} {E I:Nat→Nat→Int} {st:Nat→Int} (h:Sn.Looks w B D F gC gE gI cC cE cI k s g c E I st) (hw:Gr.walkB (Gr.at 384 c (E k 3) (E k 4))=true) {f:Int} (hf:En.first (En.atQ E (E k 3) (E k 4)) k=f) (f0:¬f≥0) (m0:¬E k 5<1) (m1:E k 5 > E k 6):Sn.Tests w B D F k true:=by
 have hL:=hide h.lists
 have cA:=hide (fun z (hz:Gd.Lists z gC gE gI c E I)=>refAt_any z.heap.size (some ⟨gC,0,none⟩) 384 cC c (E k 3) (E k 4) z hz.vec h.cells)
 have cK:=hide (fun z=>refWalk_any (Gr.at 384 c (E k 3) (E k 4)) z)
 rw [hw] at cK
 obtain ⟨at_,hat⟩:∃a,Gr.at 384 c (E k 3) (E k 4)=a:=⟨_,rfl⟩
 rw [hat] at cA cK
 have b4:=h.box.eleven.2.2.2.2.1
 have cE':=hide (fun z (hz:Gd.Lists z gC gE gI c E I)=>entRefAt_same gE k cE E (E k 3) (E k 4) z (Sn.front hz.own.ents (by have:=h.row;omega)))
 rw [hf] at cE'
 have b5:=h.box.eleven.2.2.2.2.2.1
 have q7:(k:Int)≤(cE:Int):=by have:=h.cap;have:=h.row;omega
 have q8:¬(k:Int)<0:=by omega
 obtain ⟨-,-,-,d3,d4,d5,d6,-,-,-,-⟩:=Sn.row h.ent
 clear hw hat hf
 clear h
 unfold Sn.Tests
 intros
 rename_i hQ
 have HQ:=hide hQ
 clear hQ
 conv=>arg 2;whnf
 dsimp only [List.append]
 go_quiet (first | (go_at_call 45;refine Calls.quiet_of_same (uh cA _ ?_);exact (uh hL).on (gdw (World.grownBy.refl _ none) _)) | (go_at_call 75;exact Calls.quiet_of_same (uh cK _)) | (go_at_call 50;refine Calls.quiet_of_same (uh cE' _ ?_);exact (uh hL).on (gdw (World.grownBy.refl _ none) _)) | fail)
 exact uh HQ _ _ _ _ _ _ _ _ _ _ _ _ _ _ _ _ _ _ _ _ _ _ _ _ _ _ _ _ _ _ _ _ _ _ _ _ _ _ _ _ _ _ _ _ _ _ _ _ _ _ _ _ _ _ _ _ _ _ _ _ _ _ _ _ _ _ _ _ _ _ _ _ _ nq

set_option maxRecDepth 16000 in
set_option maxHeartbeats 12800000 in
theorem Sn.tests_max {w:World} {B D F gC gE gI cC cE cI k:Nat} {s g c:Nat→Int} {E I:Nat→Nat→Int} {st:Nat→Int} (h:Sn.Looks w B D F gC gE gI cC cE cI k s g c E I st) (hw:Gr.walkB (Gr.at 384 c (E k 3) (E k 4))=true) {f:Int} (hf:En.first (En.atQ E (E k 3) (E k 4)) k=f) (f0:¬f≥0) (m0:¬E k 5<1) (m1:¬E k 5 > E k 6) (m2:(E k 6 != st 6)=true):Sn.Tests w B D F k true:=by
 have hL:=hide h.lists
 have cA:=hide (fun z (hz:Gd.Lists z gC gE gI c E I)=>refAt_any z.heap.size (some ⟨gC,0,none⟩) 384 cC c (E k 3) (E k 4) z hz.vec h.cells)
 have cK:=hide (fun z=>refWalk_any (Gr.at 384 c (E k 3) (E k 4)) z)
 rw [hw] at cK
 obtain ⟨at_,hat⟩:∃a,Gr.at 384 c (E k 3) (E k 4)=a:=⟨_,rfl⟩
 rw [hat] at cA cK
 have b4:=h.box.eleven.2.2.2.2.1
 have cE':=hide (fun z (hz:Gd.Lists z gC gE gI c E I)=>entRefAt_same gE k cE E (E k 3) (E k 4) z (Sn.front hz.own.ents (by have:=h.row;omega)))
 rw [hf] at cE'
 have b5:=h.box.eleven.2.2.2.2.2.1
 have q7:(k:Int)≤(cE:Int):=by have:=h.cap;have:=h.row;omega
 have q8:¬(k:Int)<0:=by omega
 obtain ⟨-,-,-,d3,d4,d5,d6,-,-,-,-⟩:=Sn.row h.ent
 obtain ⟨-,-,-,-,-,-,z6,-,-,-,-⟩:=Sn.row h.fresh
 clear hw hat hf
 clear h
 unfold Sn.Tests
 intros
 rename_i hQ
 have HQ:=hide hQ
 clear hQ
 conv=>arg 2;whnf
 dsimp only [List.append]
 go_quiet (first | (go_at_call 45;refine Calls.quiet_of_same (uh cA _ ?_);exact (uh hL).on (gdw (World.grownBy.refl _ none) _)) | (go_at_call 75;exact Calls.quiet_of_same (uh cK _)) | (go_at_call 50;refine Calls.quiet_of_same (uh cE' _ ?_);exact (uh hL).on (gdw (World.grownBy.refl _ none) _)) | fail)
 exact uh HQ _ _ _ _ _ _ _ _ _ _ _ _ _ _ _ _ _ _ _ _ _ _ _ _ _ _ _ _ _ _ _ _ _ _ _ _ _ _ _ _ _ _ _ _ _ _ _ _ _ _ _ _ _ _ _ _ _ _ _ _ _ _ _ _ _ _ _ _ _ _ _ _ _ nq

set_option maxRecDepth 16000 in
set_option maxHeartbeats 12800000 in
theorem Sn.tests_atk {w:World} {B D F gC gE gI cC cE cI k:Nat} {s g c:Nat→Int} {E I:Nat→Nat→Int} {st:Nat→Int} (h:Sn.Looks w B D F gC gE gI cC cE cI k s g c E I st) (hw:Gr.walkB (Gr.at 384 c (E k 3) (E k 4))=true) {f:Int} (hf:En.first (En.atQ E (E k 3) (E k 4)) k=f) (f0:¬f≥0) (m0:¬E k 5<1) (m1:¬E k 5 > E k 6) (m2:(E k 6 != st 6)=false) (m3:(E k 7 != st 7)=true):Sn.Tests w B D F k true:=by
 have hL:=hide h.lists
 have cA:=hide (fun z (hz:Gd.Lists z gC gE gI c E I)=>refAt_any z.heap.size (some ⟨gC,0,none⟩) 384 cC c (E k 3) (E k 4) z hz.vec h.cells)
 have cK:=hide (fun z=>refWalk_any (Gr.at 384 c (E k 3) (E k 4)) z)
 rw [hw] at cK
 obtain ⟨at_,hat⟩:∃a,Gr.at 384 c (E k 3) (E k 4)=a:=⟨_,rfl⟩
 rw [hat] at cA cK
 have b4:=h.box.eleven.2.2.2.2.1
 have cE':=hide (fun z (hz:Gd.Lists z gC gE gI c E I)=>entRefAt_same gE k cE E (E k 3) (E k 4) z (Sn.front hz.own.ents (by have:=h.row;omega)))
 rw [hf] at cE'
 have b5:=h.box.eleven.2.2.2.2.2.1
 have q7:(k:Int)≤(cE:Int):=by have:=h.cap;have:=h.row;omega
 have q8:¬(k:Int)<0:=by omega
 obtain ⟨-,-,-,d3,d4,d5,d6,d7,-,-,-⟩:=Sn.row h.ent
 obtain ⟨-,-,-,-,-,-,z6,z7,-,-,-⟩:=Sn.row h.fresh
 clear hw hat hf
 clear h
 unfold Sn.Tests
 intros
 rename_i hQ
 have HQ:=hide hQ
 clear hQ
 conv=>arg 2;whnf
 dsimp only [List.append]
 go_quiet (first | (go_at_call 45;refine Calls.quiet_of_same (uh cA _ ?_);exact (uh hL).on (gdw (World.grownBy.refl _ none) _)) | (go_at_call 75;exact Calls.quiet_of_same (uh cK _)) | (go_at_call 50;refine Calls.quiet_of_same (uh cE' _ ?_);exact (uh hL).on (gdw (World.grownBy.refl _ none) _)) | fail)
 exact uh HQ _ _ _ _ _ _ _ _ _ _ _ _ _ _ _ _ _ _ _ _ _ _ _ _ _ _ _ _ _ _ _ _ _ _ _ _ _ _ _ _ _ _ _ _ _ _ _ _ _ _ _ _ _ _ _ _ _ _ _ _ _ _ _ _ _ _ _ _ _ _ _ _ _ nq


open Go.RowKit

set_option maxRecDepth 16000 in
set_option maxHeartbeats 12800000 in
theorem Sn.tests_def {w:World} {B D F gC gE gI cC cE cI k:Nat} {s g c:Nat→Int} {E I:Nat→Nat→Int} {st:Nat→Int} (h:Sn.Looks w B D F gC gE gI cC cE cI k s g c E I st) (hw:Gr.walkB (Gr.at 384 c (E k 3) (E k 4))=true) {f:Int} (hf:En.first (En.atQ E (E k 3) (E k 4)) k=f) (f0:¬f≥0) (m0:¬E k 5<1) (m1:¬E k 5 > E k 6) (m2:(E k 6 != st 6)=false) (m3:(E k 7 != st 7)=false) (m4:(E k 8 != st 8)=true):Sn.Tests w B D F k true:=by
 have hL:=hide h.lists
 have cA:=hide (fun z (hz:Gd.Lists z gC gE gI c E I)=>refAt_any z.heap.size (some ⟨gC,0,none⟩) 384 cC c (E k 3) (E k 4) z hz.vec h.cells)
 have cK:=hide (fun z=>refWalk_any (Gr.at 384 c (E k 3) (E k 4)) z)
 rw [hw] at cK
 obtain ⟨at_,hat⟩:∃a,Gr.at 384 c (E k 3) (E k 4)=a:=⟨_,rfl⟩
 rw [hat] at cA cK
 have b4:=h.box.eleven.2.2.2.2.1
 have cE':=hide (fun z (hz:Gd.Lists z gC gE gI c E I)=>entRefAt_same gE k cE E (E k 3) (E k 4) z (Sn.front hz.own.ents (by have:=h.row;omega)))
 rw [hf] at cE'
 have b5:=h.box.eleven.2.2.2.2.2.1
 have q7:(k:Int)≤(cE:Int):=by have:=h.cap;have:=h.row;omega
 have q8:¬(k:Int)<0:=by omega
 obtain ⟨-,-,-,d3,d4,d5,d6,d7,d8,-,-⟩:=Sn.row h.ent
 obtain ⟨-,-,-,-,-,-,z6,z7,z8,-,-⟩:=Sn.row h.fresh
 clear hw hat hf
 clear h
 unfold Sn.Tests
 intros
 rename_i hQ
 have HQ:=hide hQ
 clear hQ
 conv=>arg 2;whnf
 dsimp only [List.append]
 go_quiet (first | (go_at_call 45;refine Calls.quiet_of_same (uh cA _ ?_);exact (uh hL).on (gdw (World.grownBy.refl _ none) _)) | (go_at_call 75;exact Calls.quiet_of_same (uh cK _)) | (go_at_call 50;refine Calls.quiet_of_same (uh cE' _ ?_);exact (uh hL).on (gdw (World.grownBy.refl _ none) _)) | fail)
 exact uh HQ _ _ _ _ _ _ _ _ _ _ _ _ _ _ _ _ _ _ _ _ _ _ _ _ _ _ _ _ _ _ _ _ _ _ _ _ _ _ _ _ _ _ _ _ _ _ _ _ _ _ _ _ _ _ _ _ _ _ _ _ _ _ _ _ _ _ _ _ _ _ _ _ _ nq

set_option maxRecDepth 16000 in
set_option maxHeartbeats 12800000 in
theorem Sn.tests_po0 {w:World} {B D F gC gE gI cC cE cI k:Nat} {s g c:Nat→Int} {E I:Nat→Nat→Int} {st:Nat→Int} (h:Sn.Looks w B D F gC gE gI cC cE cI k s g c E I st) (hw:Gr.walkB (Gr.at 384 c (E k 3) (E k 4))=true) {f:Int} (hf:En.first (En.atQ E (E k 3) (E k 4)) k=f) (f0:¬f≥0) (m0:¬E k 5<1) (m1:¬E k 5 > E k 6) (m2:(E k 6 != st 6)=false) (m3:(E k 7 != st 7)=false) (m4:(E k 8 != st 8)=false) (m5:E k 9<0):Sn.Tests w B D F k true:=by
 have hL:=hide h.lists
 have cA:=hide (fun z (hz:Gd.Lists z gC gE gI c E I)=>refAt_any z.heap.size (some ⟨gC,0,none⟩) 384 cC c (E k 3) (E k 4) z hz.vec h.cells)
 have cK:=hide (fun z=>refWalk_any (Gr.at 384 c (E k 3) (E k 4)) z)
 rw [hw] at cK
 obtain ⟨at_,hat⟩:∃a,Gr.at 384 c (E k 3) (E k 4)=a:=⟨_,rfl⟩
 rw [hat] at cA cK
 have b4:=h.box.eleven.2.2.2.2.1
 have cE':=hide (fun z (hz:Gd.Lists z gC gE gI c E I)=>entRefAt_same gE k cE E (E k 3) (E k 4) z (Sn.front hz.own.ents (by have:=h.row;omega)))
 rw [hf] at cE'
 have b5:=h.box.eleven.2.2.2.2.2.1
 have q7:(k:Int)≤(cE:Int):=by have:=h.cap;have:=h.row;omega
 have q8:¬(k:Int)<0:=by omega
 obtain ⟨-,-,-,d3,d4,d5,d6,d7,d8,d9,-⟩:=Sn.row h.ent
 obtain ⟨-,-,-,-,-,-,z6,z7,z8,-,-⟩:=Sn.row h.fresh
 clear hw hat hf
 clear h
 unfold Sn.Tests
 intros
 rename_i hQ
 have HQ:=hide hQ
 clear hQ
 conv=>arg 2;whnf
 dsimp only [List.append]
 go_quiet (first | (go_at_call 45;refine Calls.quiet_of_same (uh cA _ ?_);exact (uh hL).on (gdw (World.grownBy.refl _ none) _)) | (go_at_call 75;exact Calls.quiet_of_same (uh cK _)) | (go_at_call 50;refine Calls.quiet_of_same (uh cE' _ ?_);exact (uh hL).on (gdw (World.grownBy.refl _ none) _)) | fail)
 exact uh HQ _ _ _ _ _ _ _ _ _ _ _ _ _ _ _ _ _ _ _ _ _ _ _ _ _ _ _ _ _ _ _ _ _ _ _ _ _ _ _ _ _ _ _ _ _ _ _ _ _ _ _ _ _ _ _ _ _ _ _ _ _ _ _ _ _ _ _ _ _ _ _ _ _ nq

set_option maxRecDepth 16000 in
set_option maxHeartbeats 12800000 in
theorem Sn.tests_po9 {w:World} {B D F gC gE gI cC cE cI k:Nat} {s g c:Nat→Int} {E I:Nat→Nat→Int} {st:Nat→Int} (h:Sn.Looks w B D F gC gE gI cC cE cI k s g c E I st) (hw:Gr.walkB (Gr.at 384 c (E k 3) (E k 4))=true) {f:Int} (hf:En.first (En.atQ E (E k 3) (E k 4)) k=f) (f0:¬f≥0) (m0:¬E k 5<1) (m1:¬E k 5 > E k 6) (m2:(E k 6 != st 6)=false) (m3:(E k 7 != st 7)=false) (m4:(E k 8 != st 8)=false) (m5:¬E k 9<0) (m6:E k 9 > 9):Sn.Tests w B D F k true:=by
 have hL:=hide h.lists
 have cA:=hide (fun z (hz:Gd.Lists z gC gE gI c E I)=>refAt_any z.heap.size (some ⟨gC,0,none⟩) 384 cC c (E k 3) (E k 4) z hz.vec h.cells)
 have cK:=hide (fun z=>refWalk_any (Gr.at 384 c (E k 3) (E k 4)) z)
 rw [hw] at cK
 obtain ⟨at_,hat⟩:∃a,Gr.at 384 c (E k 3) (E k 4)=a:=⟨_,rfl⟩
 rw [hat] at cA cK
 have b4:=h.box.eleven.2.2.2.2.1
 have cE':=hide (fun z (hz:Gd.Lists z gC gE gI c E I)=>entRefAt_same gE k cE E (E k 3) (E k 4) z (Sn.front hz.own.ents (by have:=h.row;omega)))
 rw [hf] at cE'
 have b5:=h.box.eleven.2.2.2.2.2.1
 have q7:(k:Int)≤(cE:Int):=by have:=h.cap;have:=h.row;omega
 have q8:¬(k:Int)<0:=by omega
 obtain ⟨-,-,-,d3,d4,d5,d6,d7,d8,d9,-⟩:=Sn.row h.ent
 obtain ⟨-,-,-,-,-,-,z6,z7,z8,-,-⟩:=Sn.row h.fresh
 clear hw hat hf
 clear h
 unfold Sn.Tests
 intros
 rename_i hQ
 have HQ:=hide hQ
 clear hQ
 conv=>arg 2;whnf
 dsimp only [List.append]
 go_quiet (first | (go_at_call 45;refine Calls.quiet_of_same (uh cA _ ?_);exact (uh hL).on (gdw (World.grownBy.refl _ none) _)) | (go_at_call 75;exact Calls.quiet_of_same (uh cK _)) | (go_at_call 50;refine Calls.quiet_of_same (uh cE' _ ?_);exact (uh hL).on (gdw (World.grownBy.refl _ none) _)) | fail)
 exact uh HQ _ _ _ _ _ _ _ _ _ _ _ _ _ _ _ _ _ _ _ _ _ _ _ _ _ _ _ _ _ _ _ _ _ _ _ _ _ _ _ _ _ _ _ _ _ _ _ _ _ _ _ _ _ _ _ _ _ _ _ _ _ _ _ _ _ _ _ _ _ _ _ _ _ nq

end Go.Proofs.YtldgbkjceildfaaGreat
