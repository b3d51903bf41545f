import Derived.Test.YtldgbkjceildfaaGreatBy30
namespace Go.Proofs.YtldgbkjceildfaaGreat
open Go.RowKit

set_option maxRecDepth 16000 in
set_option maxHeartbeats 12800000 in
theorem Sn.tests_st0 {w:World} {B D F gC gE gI cC cE cI k:Nat} {s g c:Nat→Int} {E I:Nat→Nat→Int} {st:Nat→Int} (h:Sn.Looks w B D F gC gE gI cC cE cI k s g c E I st) (hw:Gr.walkB (Gr.at 384 c (E k 3) (E k 4))=true) {f:Int} (hf:En.first (En.atQ E (E k 3) (E k 4)) k=f) (f0:¬f≥0) (m0:¬E k 5<1) (m1:¬E k 5 > E k 6) (m2:(E k 6 != st 6)=false) (m3:(E k 7 != st 7)=false) (m4:(E k 8 != st 8)=false) (m5:¬E k 9<0) (m6:¬E k 9 > 9) (m7:E k 10<0):Sn.Tests w B D F k true:=by
 have hL:=hide h.lists
 have cA:=hide (fun z (hz:Gd.Lists z gC gE gI c E I)=>refAt_any z.heap.size (some ⟨gC,0,none⟩) 384 cC c (E k 3) (E k 4) z hz.vec h.cells)
 have cK:=hide (fun z=>refWalk_any (Gr.at 384 c (E k 3) (E k 4)) z)
 rw [hw] at cK
 obtain ⟨at_,hat⟩:∃a,Gr.at 384 c (E k 3) (E k 4)=a:=⟨_,rfl⟩
 rw [hat] at cA cK
 have b4:=h.box.eleven.2.2.2.2.1
 have cE':=hide (fun z (hz:Gd.Lists z gC gE gI c E I)=>entRefAt_same gE k cE E (E k 3) (E k 4) z (Sn.front hz.own.ents (by have:=h.row;omega)))
 rw [hf] at cE'
 have b5:=h.box.eleven.2.2.2.2.2.1
 have q7:(k:Int)≤(cE:Int):=by have:=h.cap;have:=h.row;omega
 have q8:¬(k:Int)<0:=by omega
 obtain ⟨-,-,-,d3,d4,d5,d6,d7,d8,d9,d10⟩:=Sn.row h.ent
 obtain ⟨-,-,-,-,-,-,z6,z7,z8,-,-⟩:=Sn.row h.fresh
 clear hw hat hf
 clear h
 unfold Sn.Tests
 intros
 rename_i hQ
 have HQ:=hide hQ
 clear hQ
 conv=>arg 2;whnf
 dsimp only [List.append]
 go_quiet (first | (go_at_call 45;refine Calls.quiet_of_same (uh cA _ ?_);exact (uh hL).on (gdw (World.grownBy.refl _ none) _)) | (go_at_call 75;exact Calls.quiet_of_same (uh cK _)) | (go_at_call 50;refine Calls.quiet_of_same (uh cE' _ ?_);exact (uh hL).on (gdw (World.grownBy.refl _ none) _)) | fail)
 exact uh HQ _ _ _ _ _ _ _ _ _ _ _ _ _ _ _ _ _ _ _ _ _ _ _ _ _ _ _ _ _ _ _ _ _ _ _ _ _ _ _ _ _ _ _ _ _ _ _ _ _ _ _ _ _ _ _ _ _ _ _ _ _ _ _ _ _ _ _ _ _ _ _ _ _ nq

set_option maxRecDepth 16000 in
set_option maxHeartbeats 12800000 in
theorem Sn.tests_st9 {w:World} {B D F gC gE gI cC cE cI k:Nat} {s g c:Nat→Int} {E I:Nat→Nat→Int} {st:Nat→Int} (h:Sn.Looks w B D F gC gE gI cC cE cI k s g c E I st) (hw:Gr.walkB (Gr.at 384 c (E k 3) (E k 4))=true) {f:Int} (hf:En.first (En.atQ E (E k 3) (E k 4)) k=f) (f0:¬f≥0) (m0:¬E k 5<1) (m1:¬E k 5 > E k 6) (m2:(E k 6 != st 6)=false) (m3:(E k 7 != st 7)=false) (m4:(E k 8 != st 8)=false) (m5:¬E k 9<0) (m6:¬E k 9 > 9) (m7:¬E k 10<0) (m8:E k 10 > 9):Sn.Tests w B D F k true:=by
 have hL:=hide h.lists
 have cA:=hide (fun z (hz:Gd.Lists z gC gE gI c E I)=>refAt_any z.heap.size (some ⟨gC,0,none⟩) 384 cC c (E k 3) (E k 4) z hz.vec h.cells)
 have cK:=hide (fun z=>refWalk_any (Gr.at 384 c (E k 3) (E k 4)) z)
 rw [hw] at cK
 obtain ⟨at_,hat⟩:∃a,Gr.at 384 c (E k 3) (E k 4)=a:=⟨_,rfl⟩
 rw [hat] at cA cK
 have b4:=h.box.eleven.2.2.2.2.1
 have cE':=hide (fun z (hz:Gd.Lists z gC gE gI c E I)=>entRefAt_same gE k cE E (E k 3) (E k 4) z (Sn.front hz.own.ents (by have:=h.row;omega)))
 rw [hf] at cE'
 have b5:=h.box.eleven.2.2.2.2.2.1
 have q7:(k:Int)≤(cE:Int):=by have:=h.cap;have:=h.row;omega
 have q8:¬(k:Int)<0:=by omega
 obtain ⟨-,-,-,d3,d4,d5,d6,d7,d8,d9,d10⟩:=Sn.row h.ent
 obtain ⟨-,-,-,-,-,-,z6,z7,z8,-,-⟩:=Sn.row h.fresh
 clear hw hat hf
 clear h
 unfold Sn.Tests
 intros
 rename_i hQ
 have HQ:=hide hQ
 clear hQ
 conv=>arg 2;whnf
 dsimp only [List.append]
 go_quiet (first | (go_at_call 45;refine Calls.quiet_of_same (uh cA _ ?_);exact (uh hL).on (gdw (World.grownBy.refl _ none) _)) | (go_at_call 75;exact Calls.quiet_of_same (uh cK _)) | (go_at_call 50;refine Calls.quiet_of_same (uh cE' _ ?_);exact (uh hL).on (gdw (World.grownBy.refl _ none) _)) | fail)
 exact uh HQ _ _ _ _ _ _ _ _ _ _ _ _ _ _ _ _ _ _ _ _ _ _ _ _ _ _ _ _ _ _ _ _ _ _ _ _ _ _ _ _ _ _ _ _ _ _ _ _ _ _ _ _ _ _ _ _ _ _ _ _ _ _ _ _ _ _ _ _ _ _ _ _ _ nq

set_option maxRecDepth 16000 in
set_option maxHeartbeats 12800000 in
theorem Sn.tests_none {w:World} {B D F gC gE gI cC cE cI k:Nat} {s g c:Nat→Int} {E I:Nat→Nat→Int} {st:Nat→Int} (h:Sn.Looks w B D F gC gE gI cC cE cI k s g c E I st) (hw:Gr.walkB (Gr.at 384 c (E k 3) (E k 4))=true) {f:Int} (hf:En.first (En.atQ E (E k 3) (E k 4)) k=f) (f0:¬f≥0) (m0:¬E k 5<1) (m1:¬E k 5 > E k 6) (m2:(E k 6 != st 6)=false) (m3:(E k 7 != st 7)=false) (m4:(E k 8 != st 8)=false) (m5:¬E k 9<0) (m6:¬E k 9 > 9) (m7:¬E k 10<0) (m8:¬E k 10 > 9):Sn.Tests w B D F k false:=by
 have hL:=hide h.lists
 have cA:=hide (fun z (hz:Gd.Lists z gC gE gI c E I)=>refAt_any z.heap.size (some ⟨gC,0,none⟩) 384 cC c (E k 3) (E k 4) z hz.vec h.cells)
 have cK:=hide (fun z=>refWalk_any (Gr.at 384 c (E k 3) (E k 4)) z)
 rw [hw] at cK
 obtain ⟨at_,hat⟩:∃a,Gr.at 384 c (E k 3) (E k 4)=a:=⟨_,rfl⟩
 rw [hat] at cA cK
 have b4:=h.box.eleven.2.2.2.2.1
 have cE':=hide (fun z (hz:Gd.Lists z gC gE gI c E I)=>entRefAt_same gE k cE E (E k 3) (E k 4) z (Sn.front hz.own.ents (by have:=h.row;omega)))
 rw [hf] at cE'
 have b5:=h.box.eleven.2.2.2.2.2.1
 have q7:(k:Int)≤(cE:Int):=by have:=h.cap;have:=h.row;omega
 have q8:¬(k:Int)<0:=by omega
 obtain ⟨-,-,-,d3,d4,d5,d6,d7,d8,d9,d10⟩:=Sn.row h.ent
 obtain ⟨-,-,-,-,-,-,z6,z7,z8,-,-⟩:=Sn.row h.fresh
 clear hw hat hf
 clear h
 unfold Sn.Tests
 intros
 rename_i hQ
 have HQ:=hide hQ
 clear hQ
 conv=>arg 2;whnf
 dsimp only [List.append]
 go_quiet (first | (go_at_call 45;refine Calls.quiet_of_same (uh cA _ ?_);exact (uh hL).on (gdw (World.grownBy.refl _ none) _)) | (go_at_call 75;exact Calls.quiet_of_same (uh cK _)) | (go_at_call 50;refine Calls.quiet_of_same (uh cE' _ ?_);exact (uh hL).on (gdw (World.grownBy.refl _ none) _)) | fail)
 exact uh HQ _ _ _ _ _ _ _ _ _ _ _ _ _ _ _ _ _ _ _ _ _ _ _ _ _ _ _ _ _ _ _ _ _ _ _ _ _ _ _ _ _ _ _ _ _ _ _ _ _ _ _ _ _ _ _ _ _ _ _ _ _ _ _ _ _ _ _ _ _ _ _ _ _ nq


open Go.RowKit

set_option maxRecDepth 16000 in
set_option maxHeartbeats 12800000 in
theorem Sn.seated_low {w:World} {B D F gC gE gI cC cE cI k:Nat} {s g c:Nat→Int} {E I:Nat→Nat→Int} {st:Nat→Int} (h:Sn.Looks w B D F gC gE gI cC cE cI k s g c E I st) (k1:E k 0=1) (s1:E k 2<0):Sn.Seated w B D F k true:=by
 have hL:=hide h.lists
 obtain ⟨d0,-,d2,-,-,-,-,-,-,-,-⟩:=Sn.row h.ent
 have k1':(E k 0 == 1)=true:=by simp [k1]
 have k1'':(E k 0 != 1)=false:=by simp [k1]
 rw [k1] at d0
 clear k1
 clear h
 unfold Sn.Seated
 intros
 rename_i hQ
 have HQ:=hide hQ
 clear hQ
 conv=>arg 2;whnf
 dsimp only
 go_quiet (fail)
 exact uh HQ _ _ _ _ _ _ _ _ _ _ _ _ _ _ _ _ _ _ _ _ _ _ _ _ _ _ _ _ _ _ _ _ nq

set_option maxRecDepth 16000 in
set_option maxHeartbeats 12800000 in
theorem Sn.seated_high {w:World} {B D F gC gE gI cC cE cI k:Nat} {s g c:Nat→Int} {E I:Nat→Nat→Int} {st:Nat→Int} (h:Sn.Looks w B D F gC gE gI cC cE cI k s g c E I st) (k1:E k 0=1) (s1:¬E k 2<0) (s2:E k 2≥4):Sn.Seated w B D F k true:=by
 have hL:=hide h.lists
 obtain ⟨d0,-,d2,-,-,-,-,-,-,-,-⟩:=Sn.row h.ent
 have k1':(E k 0 == 1)=true:=by simp [k1]
 have k1'':(E k 0 != 1)=false:=by simp [k1]
 rw [k1] at d0
 clear k1
 clear h
 unfold Sn.Seated
 intros
 rename_i hQ
 have HQ:=hide hQ
 clear hQ
 conv=>arg 2;whnf
 dsimp only
 go_quiet (fail)
 exact uh HQ _ _ _ _ _ _ _ _ _ _ _ _ _ _ _ _ _ _ _ _ _ _ _ _ _ _ _ _ _ _ _ _ nq

set_option maxRecDepth 16000 in
set_option maxHeartbeats 12800000 in
theorem Sn.seated_two {w:World} {B D F gC gE gI cC cE cI k:Nat} {s g c:Nat→Int} {E I:Nat→Nat→Int} {st:Nat→Int} (h:Sn.Looks w B D F gC gE gI cC cE cI k s g c E I st) (k1:E k 0=1) (s1:¬E k 2<0) (s2:¬E k 2≥4) {f:Int} (hf:En.first (En.heroQ E (E k 2)) k=f) (f0:f≥0):Sn.Seated w B D F k true:=by
 have hL:=hide h.lists
 have cH:=hide (fun z (hz:Gd.Lists z gC gE gI c E I)=>refHero_still gE k cE E (E k 2) z (Sn.front hz.own.ents (by have:=h.row;omega)))
 rw [hf] at cH
 have b5:=h.box.eleven.2.2.2.2.2.1
 have q7:(k:Int)≤(cE:Int):=by have:=h.cap;have:=h.row;omega
 have q8:¬(k:Int)<0:=by omega
 clear hf
 obtain ⟨d0,-,d2,-,-,-,-,-,-,-,-⟩:=Sn.row h.ent
 have k1':(E k 0 == 1)=true:=by simp [k1]
 have k1'':(E k 0 != 1)=false:=by simp [k1]
 rw [k1] at d0
 clear k1
 clear h
 unfold Sn.Seated
 intros
 rename_i hQ
 have HQ:=hide hQ
 clear hQ
 conv=>arg 2;whnf
 dsimp only
 go_quiet (first | (go_at_call 39;refine Calls.quiet_of_same (uh cH _ ?_);exact (uh hL).on (gdw (World.grownBy.refl _ none) _)) | fail)
 exact uh HQ _ _ _ _ _ _ _ _ _ _ _ _ _ _ _ _ _ _ _ _ _ _ _ _ _ _ _ _ _ _ _ _ nq

set_option maxRecDepth 16000 in
set_option maxHeartbeats 12800000 in
theorem Sn.seated_hero {w:World} {B D F gC gE gI cC cE cI k:Nat} {s g c:Nat→Int} {E I:Nat→Nat→Int} {st:Nat→Int} (h:Sn.Looks w B D F gC gE gI cC cE cI k s g c E I st) (k1:E k 0=1) (s1:¬E k 2<0) (s2:¬E k 2≥4) {f:Int} (hf:En.first (En.heroQ E (E k 2)) k=f) (f0:¬f≥0):Sn.Seated w B D F k false:=by
 have hL:=hide h.lists
 have cH:=hide (fun z (hz:Gd.Lists z gC gE gI c E I)=>refHero_still gE k cE E (E k 2) z (Sn.front hz.own.ents (by have:=h.row;omega)))
 rw [hf] at cH
 have b5:=h.box.eleven.2.2.2.2.2.1
 have q7:(k:Int)≤(cE:Int):=by have:=h.cap;have:=h.row;omega
 have q8:¬(k:Int)<0:=by omega
 clear hf
 obtain ⟨d0,-,d2,-,-,-,-,-,-,-,-⟩:=Sn.row h.ent
 have k1':(E k 0 == 1)=true:=by simp [k1]
 have k1'':(E k 0 != 1)=false:=by simp [k1]
 rw [k1] at d0
 clear k1
 clear h
 unfold Sn.Seated
 intros
 rename_i hQ
 have HQ:=hide hQ
 clear hQ
 conv=>arg 2;whnf
 dsimp only
 go_quiet (first | (go_at_call 39;refine Calls.quiet_of_same (uh cH _ ?_);exact (uh hL).on (gdw (World.grownBy.refl _ none) _)) | fail)
 exact uh HQ _ _ _ _ _ _ _ _ _ _ _ _ _ _ _ _ _ _ _ _ _ _ _ _ _ _ _ _ _ _ _ _ nq

set_option maxRecDepth 16000 in
set_option maxHeartbeats 12800000 in
theorem Sn.seated_none {w:World} {B D F gC gE gI cC cE cI k:Nat} {s g c:Nat→Int} {E I:Nat→Nat→Int} {st:Nat→Int} (h:Sn.Looks w B D F gC gE gI cC cE cI k s g c E I st) (k0:¬E k 0=1) (s0:(E k 2 != 0)=false):Sn.Seated w B D F k false:=by
 have hL:=hide h.lists
 obtain ⟨d0,-,d2,-,-,-,-,-,-,-,-⟩:=Sn.row h.ent
 have k1':(E k 0 == 1)=false:=by simp [k0]
 have k1'':(E k 0 != 1)=true:=by simp [k0]
 clear k0
 clear h
 unfold Sn.Seated
 intros
 rename_i hQ
 have HQ:=hide hQ
 clear hQ
 conv=>arg 2;whnf
 dsimp only
 go_quiet (fail)
 exact uh HQ _ _ _ _ _ _ _ _ _ _ _ _ _ _ _ _ _ _ _ _ _ _ _ _ _ _ _ _ _ _ _ _ nq

set_option maxRecDepth 16000 in
set_option maxHeartbeats 12800000 in
theorem Sn.seated_some {w:World} {B D F gC gE gI cC cE cI k:Nat} {s g c:Nat→Int} {E I:Nat→Nat→Int} {st:Nat→Int} (h:Sn.Looks w B D F gC gE gI cC cE cI k s g c E I st) (k0:¬E k 0=1) (s0:(E k 2 != 0)=true):Sn.Seated w B D F k true:=by
 have hL:=hide h.lists
 obtain ⟨d0,-,d2,-,-,-,-,-,-,-,-⟩:=Sn.row h.ent
 have k1':(E k 0 == 1)=false:=by simp [k0]
 have k1'':(E k 0 != 1)=true:=by simp [k0]
 clear k0
 clear h
 unfold Sn.Seated
 intros
 rename_i hQ
 have HQ:=hide hQ
 clear hQ
 conv=>arg 2;whnf
 dsimp only
 go_quiet (fail)
 exact uh HQ _ _ _ _ _ _ _ _ _ _ _ _ _ _ _ _ _ _ _ _ _ _ _ _ _ _ _ _ _ _ _ _ nq

end Go.Proofs.YtldgbkjceildfaaGreat
