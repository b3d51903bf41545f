import Derived.Test.YtepppmepilffcaaGreatPw31
namespace Go.Proofs.YtepppmepilffcaaGreat
open Go.RowKit

theorem Sn.decode_back (s g c:Nat→Int) (E I:Nat→Nat→Int) (base:Nat) (v:Value) (w:World) (hG:Cr.Good ⟨s,g,c,E,I⟩) (a0:-9223372036854775808≤s 0∧s 0<9223372036854775808) (a1:0≤s 1) (a2:s 1<1073741824) (hB:Sn.Bytes w base v (Sn.bytes s g c E I)) :
  ∃G cap,v=.slice (some ⟨G,0,none⟩) 918 cap∧Calls Tryz.prog 17 #[.slice (some ⟨G,0,none⟩) 918 cap] w fun e w'=>∃u,e=.returned (.tuple #[u,.int .i64 0])∧Gd.Worlds w s g c E I (.returned u) w':=by
 obtain ⟨G,cap,rfl,h1,h2,hS⟩:=hB.src (Sn.bytes_len _ _ _ _ _) (Sn.bytes_byte s g c E I hG.sane.fit.cells)
 refine ⟨G,cap,rfl,?_⟩
 have hsm:=Sn.small hG.sane
 have f1:1≤s 2:=hG.f1
 have f3:s 2≤3:=hG.f3
 have s0:0≤s 3:=hG.s0
 have s2:s 3≤2:=hG.s2
 obtain ⟨q1,q2,q3,q4,q5⟩:=Sn.back (s:=s) (g:=g) (c:=c) (E:=E) (I:=I) a0 (by omega) (by omega) (by omega) (fun t ht=>by have:=hG.gold t ht;show 0≤g t∧g t<65536;have h:0≤g t∧g t≤999:=this;omega) hsm.1 hsm.2
 refine (decode_any G cap _ s g c E I w hS h1 h2 q1 q2 q3 q4 q5 hG.sane.fit.cells).mono ?_
 rintro e w' ⟨r,hr,⟨h0,_⟩ | ⟨_,u,rfl,hu⟩⟩
 ·exact absurd ((Sn.chk_good hG a1 a2).one hr) h0
 ·exact ⟨u,rfl,hu⟩

theorem Cr.IsNew.head {seed:Int} {T:Cr.W} (h:Cr.IsNew seed T):T.s 0=seed∧T.s 1=0:=by
 obtain ⟨c,es,is,_,rfl⟩:=h
 exact ⟨rfl,rfl⟩

set_option maxRecDepth 8000 in
set_option maxHeartbeats 6400000 in
theorem known11_any (w:World):Calls Tryz.prog 5 #[] w (Says w (.bool true)):=by
 have cn:=hide (refNew_any 1 w)
 go_enter Tryz.func5,Tryz.ntmps5
 go_wp2_with fail
 refine (uh cn).mono ?_
 rintro e w1 ⟨⟨s,g,c,E,I⟩,hN,gC,gE,gI,cC,cE,cI,rfl,hcE,l1,l2,l3,n1,n2,n3,hL,hg1⟩
 have hGo:=hide hN.good
 have hHd:=hide hN.head
 obtain ⟨w2,hw2⟩:∃w2,w2=w1.alloc (.cells (Gd.world s gC gE gI cC cE cI g) 31):=⟨_,rfl⟩
 have hg2:w1.grownBy w2 none:=by rw [hw2];exact World.grownBy_alloc _ _ _
 have hB:Hid (Lie w2 w1.heap.size 31 11 (Gd.box s gC gE gI cC cE cI g)):=by show Lie w2 _ _ _ _;rw [hw2];exact (Arr.world (heap_alloc_new w1 _)).lie
 have HG2:=hide (gtr hg1 hg2)
 have HL2:=hide (hL.on hg2)
 have ce:=hide (encode_any s g c E I gC gE gI cC cE cI w2 (uh HL2) (uh hGo).sane.fit.cells hcE)
 clear cn hcE l1 l2 l3 n1 n2 n3 hL hg1 hg2 hN
 unfold Gd.world at hw2 ce ⊢
 dsimp only
 go_upto_region 2 with fail
 rw [←hw2]
 clear hw2
 obtain ⟨B,hBe⟩:∃B,w1.heap.size=B:=⟨_,rfl⟩
 rw [hBe] at hB ⊢
 clear hBe w1
 obtain ⟨b0,b1,b2,b3,b4,b5,b6,b7,b8,b9,b10⟩:=(uh hB).eleven
 go_wp2_with fail
 refine (uh ce).mono ?_
 rintro e w3 ⟨v,r,rfl,hr,-,hown,hg3⟩
 obtain rfl:r=0:=(Sn.chk_good (uh hGo) (by have:s 1=0:=(uh hHd).2;omega) (by have:s 1=0:=(uh hHd).2;omega)).one hr
 obtain ⟨G,cap,rfl,cd⟩:=Sn.decode_back s g c E I _ v w3 (uh hGo) (by have:s 0=1:=(uh hHd).1;omega) (by have:s 1=0:=(uh hHd).2;omega) (by have:s 1=0:=(uh hHd).2;omega) (hown rfl)
 have cd':=hide cd
 have HG3:=hide (gtr (uh HG2) hg3)
 have HL3:=hide ((uh HL2).on hg3)
 have hB3:=hide ((uh hB).on hg3)
 clear hr hown hg3 cd ce HG2 HL2 hB b0 b1 b2 b3 b4 b5 b6 b7 b8 b9 b10 w2
 go_wp2_with fail
 refine (uh cd').mono ?_
 rintro e w4 ⟨u,rfl,jC,jE,jI,dC,dE,dI,hu,hdE,m1,m2,m3,p1,p2,p3,hM,hg4⟩
 obtain rfl:u=.agg (Gd.world s jC jE jI dC dE dI g):=by simpa using hu
 obtain ⟨w5,hw5⟩:∃w5,w5=w4.alloc (.cells (Gd.world s jC jE jI dC dE dI g) 31):=⟨_,rfl⟩
 have hg5:w4.grownBy w5 none:=by rw [hw5];exact World.grownBy_alloc _ _ _
 have hD:Hid (Lie w5 w4.heap.size 31 11 (Gd.box s jC jE jI dC dE dI g)):=by show Lie w5 _ _ _ _;rw [hw5];exact (Arr.world (heap_alloc_new w4 _)).lie
 have HG5:=hide (gtr (uh HG3) (gtr hg4 hg5))
 have hB5:=hide ((uh hB3).on (gtr hg4 hg5))
 have cs:=hide (same7_any s g c E I jC jE jI dC dE dI gC gE gI cC cE cI w5 (hM.on hg5) ((uh HL3).on (gtr hg4 hg5)))
 clear cd' hu hdE m1 m2 m3 p1 p2 p3 hM hg4 hg5 HG3 HL3 hB3
 unfold Gd.world at hw5 cs ⊢
 go_upto_region 4 with fail
 rw [←hw5]
 clear hw5
 obtain ⟨D,hDe⟩:∃D,w4.heap.size=D:=⟨_,rfl⟩
 rw [hDe] at hD ⊢
 clear hDe
 clear w3 w4
 obtain ⟨b0,b1,b2,b3,b4,b5,b6,b7,b8,b9,b10⟩:=(uh hB5).eleven
 obtain ⟨y0,y1,y2,y3,y4,y5,y6,y7,y8,y9,y10⟩:=(uh hD).eleven
 go_wp2_with fail
 refine (uh cs).mono ?_
 rintro e w6 ⟨rfl,hg6⟩
 have hgf:=hide (gtr (uh HG5) hg6)
 clear hg6 cs b0 b1 b2 b3 b4 b5 b6 b7 b8 b9 b10 y0 y1 y2 y3 y4 y5 y6 y7 y8 y9 y10 hB5 hD HG5
 go_wp2
 go_ret
 exact ⟨rfl,uh hgf⟩

end Go.Proofs.YtepppmepilffcaaGreat
