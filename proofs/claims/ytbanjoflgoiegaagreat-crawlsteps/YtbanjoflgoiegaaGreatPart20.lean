import Derived.Test.YtbanjoflgoiegaaGreatPart17
import Derived.Test.YtbanjoflgoiegaaGreatPart19
set_option maxHeartbeats 6400000
set_option maxRecDepth 8000
namespace Go.Proofs.YtbanjoflgoiegaaGreat
open Go.Proofs.Tryz
open Go.RowKit
def Nv.blTo(E:N2)(m:Nat):Nat->Nat->Bool
 | 0,_=>false
 | k+1,c=>if ¬E k 0=0/\Nv.bw (E k 3) (E k 4)=(c:Int)/\c≠m then true else Nv.blTo E m k c
theorem Nv.Gc(E:N2)(m c:Nat):∀k,Nv.blTo E m k c=true↔c≠m/\∃j,j<k/\¬E j 0=0/\Nv.bw (E j 3) (E j 4)=(c:Int)
  | 0=>⟨fun h=>by simp[Nv.blTo]at h,fun ⟨_,j,h,_⟩=>by omega⟩
  | k+1 => by
      have ih:=Nv.Gc E m c k
      unfold Nv.blTo
      by_cases e:¬E k 0=0/\Nv.bw (E k 3) (E k 4)=(c:Int)/\c≠m
      · rw[abP e]
        exact⟨fun _=>⟨e.2.2,k,by omega,e.1,e.2.1⟩,fun _=>rfl⟩
      · rw[abO e,ih]
        constructor
        · rintro⟨h1,j,hj,h2⟩
          exact⟨h1,j,by omega,h2⟩
        · rintro⟨h1,j,hj,h2,h3⟩
          refine⟨h1,j,?_,h2,h3⟩
          by_cases ej:j=k
          · subst ej;exact absurd ⟨h2,h3,h1⟩ e
          · omega
theorem Nv.Nr(E:N2)(n m c:Nat)(hc:c<384):Nv.blTo E m n c=Nv.Qv E n m c:=by
 have h:=Nv.Gc E m c n;have hs:Nv.st E n c=true↔∃j,j<n/\¬E j 0=0/\Nv.bw (E j 3) (E j 4)=(c:Int):=by
  unfold Nv.st;rw[decide_eq_true_eq];rcases En.aw (En.eM E ((c%24:Nat):Int) ((c/24:Nat):Int)) n with⟨h0,hno⟩|⟨k,hk,h0,hq,_⟩
  ·rw[h0];refine⟨fun h=>by omega,fun ⟨j,hj,h1,h2⟩=>?_⟩;obtain⟨e1,e2,_⟩:=Nv.lV h2;have:=hno j hj;simp[En.eM,h1,e1,e2]at this
  ·refine⟨fun _=>⟨k,hk,?_⟩,fun _=>by rw[h0];omega⟩;simp only[En.eM,Bool.and_eq_true,decide_eq_true_eq,Bool.not_eq_true',decide_eq_false_iff_not]at hq;rw[hq.2.1,hq.2.2];exact⟨hq.1,Nv.O8 hc⟩
 unfold Nv.Qv;by_cases e:c=m
 ·rw[abP e];have hn:¬Nv.blTo E m n c=true:=fun h'=>(h.1 h').1 e
  rwa [Bool.not_eq_true]at hn
 ·rw[abO e];by_cases aK:Nv.st E n c=true
  ·rw[aK];exact h.2 ⟨e,hs.1 aK⟩
  ·have hn:¬Nv.blTo E m n c=true:=fun h'=>aK (hs.2 (h.1 h').2);rw[Bool.not_eq_true]at aK hn;rw[aK,hn]
theorem Nv.zd{E:N2}{m k:Nat}(h:¬(¬E k 0=0/\Gr.iS (E k 3) (E k 4)=true/\Nv.bw (E k 3) (E k 4)≠(m:Int)))(j:Nat):Nv.blTo E m k j=Nv.blTo E m (k+1) j:=by
 show _=if _ then _ else _;rw[abO];rintro⟨h1,h2,h3⟩;obtain⟨e1,e2,e3⟩:=Nv.lV h2;refine h ⟨h1,?_,by rw[h2];omega⟩;rw[Gr.bz];omega
theorem Nv.Qu{E:N2}{m k p:Nat}(h0:¬E k 0=0)(hp:Nv.bw (E k 3) (E k 4)=(p:Int))(hm:p≠m)(j:Nat):(if j=p then Value.bool true else .bool (Nv.blTo E m k j))=.bool (Nv.blTo E m (k+1) j):=by
 show _=Value.bool (if ¬E k 0=0/\Nv.bw (E k 3) (E k 4)=(j:Int)/\j≠m then true else Nv.blTo E m k j);rw[hp];by_cases e:j=p
 ·rw[abP e,abP ⟨h0,by omega,by omega⟩]
 ·rw[abO e,abO (by rintro⟨_,h,_⟩;omega)]
theorem vW(a:Option Addr)(n c:Nat)(E:N2)(x y:Int)(m:Nat)(w:World)(hL:Nv.qM w a n c E)(hm:Nv.bw x y=(m:Int)):Calls prog 121 #[.slice a n c,.int .i64 x,.int .i64 y] w (Made w 4 384 (mc (Nv.Qv E n m))):=by
 have hn:=hL.1;have mr:=aa hL;have mf:=aa hm;obtain⟨i0,hi,dJ,dz,ed⟩:=info_parts vM;clear hL hm;go_enter func121,ntmps121;obtain⟨G,hG⟩:∃G,G=w.heap.size:=⟨_,rfl⟩;have kw:=aa hG;clear hG;go_wp2_with (at_make;refine wpList_make_full _ rfl _ _ 93 rfl G 4 i0 (.bool false) 1 underlying93 hi dJ dz .i64 .i64 _ _ 384 rfl rfl rfl rfl ?q3 ?q4 (Nat.le_of_eq (uh kw)) ?_)
 case q3=>rw[ed];omega
 case q4=>unfold maxLen;omega
 intro w2 aH az;rw[<-uh kw]at aH|-;have hA:=aa (ax.zero aH);have hB0:Below G w w2:=(Below.refl _ _).grown az (Nat.le_of_eq (uh kw)) (by intro k hk;cases hk);clear aH az hi dJ dz ed;go_wp2_with fail;go_loopw [8] (fun i wr=>∃k:Nat,k<=n/\i=.int .i64 (k:Int)/\ax wr G 4 384 (mc (Nv.blTo E m k))/\Below G w wr) (fun i _=>40-(intOf i).toNat)
 case atStart=>exact⟨0,Nat.zero_le _,rfl,uh hA,hB0⟩
 case round =>
  obtain⟨k,hk,rfl,dP,pQ⟩:=hrel;have dF:=aa dP;have pA:=aa pQ;clear dP hA hB0 pQ;by_cases hlt:k<n
  ·obtain⟨_,jP,h0|⟨b,rfl,hE⟩⟩:=uh mr
   ·omega
   have hgr:w.grownBy wr none:=dV (by rw[<-uh kw];exact uh pA);obtain⟨u0,u1,u2,u3,u4,u5,u6,u7,u8,u9,iO⟩:=(hE.on hgr).row hlt;have hlt':(k:Int)<(n:Int):=by omega
   have HL:=aa hlt;have dA:Hid (∀q,ax (wr.drewN q) G 4 384 (mc (Nv.blTo E m k))):=fun q=>(uh dF).grown (gdw (abF _ none) q) (by simp);have dB:Hid (∀q,Below G w (wr.drewN q)):=fun q=>below_drewN (uh pA) q;clear hE hgr hlt u1 u2 u5 u6 u7 u8 u9 iO;have cI:=fun wq=>bA (E k 3) (E k 4) wq;by_cases h0:E k 0=0
   ·have Gz:(E k 0 !=0)=false:=(by simp[h0]);have hs:Hid (∀j,Nv.blTo E m k j=Nv.blTo E m (k+1) j):=fun j=>Nv.zd (fun h=>h.1 h0) j;clear h0;go_wp2_with fail;go_quiet ((go_at_call 87;exact abU (cI _)));go_wp2;go_roundw
    case rel=>exact⟨k+1,by have:=uh HL;omega,by go_num,(uh dA _).congr fun j _=>by show Value.bool _=Value.bool _;rw[uh hs j],uh dB _⟩
    case measure=>have:=uh HL;simp[intOf];omega
   have Gz:(E k 0 !=0)=true:=by simp[h0]
   by_cases cU:Gr.iS (E k 3) (E k 4)=true
   ·rw[cU]at cI;obtain⟨b1,b2,b3,b4⟩:=(Gr.bz _ _).1 cU;obtain⟨p,YS⟩:∃p:Nat,(p:Int)=E k 4*24+E k 3:=⟨(E k 4*24+E k 3).toNat,by omega⟩;have UK:Nv.bw (E k 3) (E k 4)=(p:Int):=by unfold Nv.bw;rw[abP cU,YS]
    have hp:p<384:=(by omega);by_cases M0:p=m
    ·obtain⟨e1,e2,_⟩:=Nv.lV UK;obtain⟨f1,f2,_⟩:=Nv.lV (uh mf);have g1:(E k 3 !=x)=false:=by rw[bne_eq_false_iff_eq,e1,f1,M0]
     have g2:(E k 4 !=y)=false:=by rw[bne_eq_false_iff_eq,e2,f2,M0]
     have hs:Hid (∀j,Nv.blTo E m k j=Nv.blTo E m (k+1) j):=fun j=>Nv.zd (fun h=>h.2.2 (by rw[UK,M0])) j;clear h0 cU b1 b2 b3 b4 YS UK hp M0 e1 e2 f1 f2;go_wp2_with fail;go_quiet ((go_at_call 87;exact abU (cI _)));go_wp2;go_roundw
     case rel=>exact⟨k+1,by have:=uh HL;omega,by go_num,(uh dA _).congr fun j _=>by show Value.bool _=Value.bool _;rw[uh hs j],uh dB _⟩
     case measure=>have:=uh HL;simp[intOf];omega
    ·have hs:Hid (∀j,(if j=p then Value.bool true else .bool (Nv.blTo E m k j))=.bool (Nv.blTo E m (k+1) j)):=fun j=>Nv.Qu h0 UK M0 j;obtain⟨X,hX⟩:∃X:Nat,E k 3=(X:Int):=⟨(E k 3).toNat,by omega⟩;obtain⟨Y,hY⟩:∃Y:Nat,E k 4=(Y:Int):=⟨(E k 4).toNat,by omega⟩;obtain rfl:p=Y*24+X:=(by omega);rw[hX,hY]at cI;rw[hX]at u3;rw[hY]at u4;have xX:X<24:=(by omega);have MV:Y<16:=(by omega);by_cases hx:(X:Int)=x
     ·have hy:¬(Y:Int)=y:=fun hy=>M0 (by
       have:((Y*24+X:Nat):Int)=(m:Int):=by rw[<-UK,<-uh mf,hX,hY,hx,hy]
       omega)
      have g1:((X:Int) !=x)=false:=by rw[bne_eq_false_iff_eq];exact hx
      have g2:((Y:Int) !=y)=true:=by rw[bne_iff_ne];exact hy
      clear h0 cU UK M0 hx hy hX hY b1 b2 b3 b4 YS;go_wp2_with fail;go_quiet ((go_at_call 87;exact abU (cI _)));go_wp2_with fail;have fa:=aa (uh dA nq);have qF:=aa (uh dB nq);have v3:(wr.drewN nq).cell? ⟨b,k*11+3,none⟩=some (.int .i64 (X:Int)):=u3;have v4:(wr.drewN nq).cell? ⟨b,k*11+4,none⟩=some (.int .i64 (Y:Int)):=u4;generalize wr.drewN nq=wd at fa qF v3 v4|-;have ya:wd.cell? ⟨G,Y*24+X,none⟩=some (.bool (Nv.blTo E m k (Y*24+X))):=(uh fa).cell hp;have Jm:=(uh fa).free (Y*24+X);clear u0 u3 u4 dA dB g1 g2 cI Gz dF pA
      go_region
      all_goals
       go_wp2;go_roundw
       case rel=>exact⟨k+1,by have:=uh HL;omega,by go_num,((ax.store (uh fa) _ _).congr fun j _=>uh hs j).grown (gdw (abF _ none) _) (by simp),((uh qF).setCell (p:=⟨G,_,none⟩) (abL _) _).drew⟩
       case measure=>have:=uh HL;simp[intOf];omega
     ·have g1:((X:Int) !=x)=true:=by rw[bne_iff_ne];exact hx
      clear h0 cU UK M0 hx hX hY b1 b2 b3 b4 YS;go_wp2_with fail;go_quiet ((go_at_call 87;exact abU (cI _)));go_wp2_with fail;have fa:=aa (uh dA nq);have qF:=aa (uh dB nq);have v3:(wr.drewN nq).cell? ⟨b,k*11+3,none⟩=some (.int .i64 (X:Int)):=u3;have v4:(wr.drewN nq).cell? ⟨b,k*11+4,none⟩=some (.int .i64 (Y:Int)):=u4;generalize wr.drewN nq=wd at fa qF v3 v4|-;have ya:wd.cell? ⟨G,Y*24+X,none⟩=some (.bool (Nv.blTo E m k (Y*24+X))):=(uh fa).cell hp;have Jm:=(uh fa).free (Y*24+X);clear u0 u3 u4 dA dB g1 cI Gz dF pA
      go_region
      all_goals
       go_wp2;go_roundw
       case rel=>exact⟨k+1,by have:=uh HL;omega,by go_num,((ax.store (uh fa) _ _).congr fun j _=>uh hs j).grown (gdw (abF _ none) _) (by simp),((uh qF).setCell (p:=⟨G,_,none⟩) (abL _) _).drew⟩
       case measure=>have:=uh HL;simp[intOf];omega
   ·rw[Bool.not_eq_true]at cU;rw[cU]at cI;have hs:Hid (∀j,Nv.blTo E m k j=Nv.blTo E m (k+1) j):=fun j=>Nv.zd (fun h=>by rw[cU]at h;cases h.2.1) j;clear h0 cU;go_wp2_with fail;go_quiet ((go_at_call 87;exact abU (cI _)));go_wp2;go_roundw
    case rel=>exact⟨k+1,by have:=uh HL;omega,by go_num,(uh dA _).congr fun j _=>by show Value.bool _=Value.bool _;rw[uh hs j],uh dB _⟩
    case measure=>have:=uh HL;simp[intOf];omega
  ·have hge:¬(k:Int)<(n:Int):=by omega
   obtain rfl:k=n:=by omega
   have fa:=aa ((uh dF).congr (G:=mc (Nv.Qv E k m)) fun j hj=>by show Value.bool _=Value.bool _;rw[Nv.Nr E k m j hj]);clear dF hk hlt;go_wp2;go_ret;exact⟨G,rfl,Nat.le_of_eq (uh kw).symm,uh fa,by rw[<-uh kw];exact uh pA⟩
theorem qa(ca ta:Option Addr)(cc b n c cv tc:Nat)(f t:N1)(E:N2)(x y:Int)(w:World)(hc:il w.heap.size w ca 384 (aZ f))(hf:∀i,0<=f i/\f i<=255)(hE:fG w b n E)(jP:n<=c)(ht:il w.heap.size w ta cv (bB t))(K6:∀i,-9223372036854775808<=t i/\t i<=9223372036854775807):Calls prog 85 #[.slice ca 384 cc,.slice (some ⟨b,0,none⟩) n c,.int .i64 x,.int .i64 y,.slice ta cv tc] w (Nv.jV w f t cv E n x y):=by
 have fD:=aa hc;have fb:=aa hf;have iQ:=aa hE;have oA:=aa ht;have zQ:=aa K6;have mr:Hid (Nv.qM w (some ⟨b,0,none⟩) n c E):=⟨hE.1,jP,.inr ⟨b,rfl,hE⟩⟩;clear hc hf hE ht K6 jP;by_cases cU:Gr.iS x y=true
 case neg =>
  rw[Bool.not_eq_true]at cU;have he:Hid (Nv.aW f t cv E n x y 0):=.inl ⟨abO (by rw[cU];simp),rfl⟩;have cI:=aa (fun wq=>bA x y wq);rw[cU]at cI;clear cU;go_enter func85,ntmps85;go_wp2_with fail;refine(uh cI _).mono ?_;rintro e w1 ⟨rfl,rfl⟩;go_wp2;go_ret;exact⟨0,uh he,rfl,abF _ _⟩
 obtain⟨b1,b2,b3,b4⟩:=(Gr.bz _ _).1 cU;obtain⟨X,rfl⟩:∃X:Nat,x=(X:Int):=⟨x.toNat,by omega⟩;obtain⟨Y,rfl⟩:∃Y:Nat,y=(Y:Int):=⟨y.toNat,by omega⟩;have hX:X<24:=by omega
 have hY:Y<16:=by omega
 have zM:Nv.bw (X:Int) (Y:Int)=((Y*24+X:Nat):Int):=by unfold Nv.bw;rw[abP cU];omega
 have cI:=aa (fun wq=>bA (X:Int) (Y:Int) wq);rw[cU]at cI;have On:=aa zM;clear cU b1 b2 b3 b4 zM;go_enter func85,ntmps85;go_wp2_with fail;refine(uh cI _).mono ?_;rintro e w1 ⟨rfl,rfl⟩;go_wp2_with fail;refine(vW _ n c E _ _ (Y*24+X) _ (uh mr) (uh On)).mono ?_;rintro e w2 ⟨g,rfl,hg,hA,hB⟩;have cF:=aa (n8 ca (some ⟨g,0,none⟩) ta 384 cv cc 384 tc f t (Nv.Qv E n (Y*24+X)) w2 (((uh fD).kept hB).mono hB.size) (uh fb) (hA.lg _ hA.lt (by unfold maxLen;omega)) (((uh oA).kept hB).mono hB.size) (uh zQ));have eu:=aa hB;clear hA hB hg;go_wp2_with fail;refine(uh cF).mono ?_;rintro e w4 ⟨F,⟨g2,rfl,hg2,jN,GB⟩,hF⟩;have dm:Nv.aW f t cv E n X Y (Nv.step F (Nv.st E n) (Y*24+X)):=.inr ⟨_,F,uh On,hF,rfl⟩;have iR:w1.grownBy w4 none:=dV ((uh eu).trans (GB.mono (uh eu).size));have Q7:F (Y*24+X)<=400:=by
  by_cases h0:0<=F (Y*24+X)
  ·have:=pj hF (F (Y*24+X)).toNat (Y*24+X) (by omega) (by omega);omega
  ·omega
 have xl:=aa jN;have vz:=aa iR;have nk:=aa dm;have Zy:=aa ((uh iQ).on iR);have Yx:w4.cell? ⟨g2,Y*24+X,none⟩=some (.int .i64 (F (Y*24+X))):=jN.cell (by omega);obtain⟨V,hV⟩:∃V,V=F (Y*24+X):=⟨_,rfl⟩;rw[<-hV]at Yx Q7;have ZX:=aa hV;clear jN iR dm hg2 GB cF hF cI iQ mr fD oA eu hV;by_cases iC:V<1
 ·have hr:Hid (Nv.aW f t cv E n X Y 0):=by
   have h:=uh nk
   rwa [show Nv.step F (Nv.st E n) (Y*24+X)=0 from abP (by rw[<-uh ZX];exact iC)]at h
  go_wp2;go_ret;exact⟨0,uh hr,rfl,uh vz⟩
 have hr:Hid (Nv.aW f t cv E n X Y (Nv.wayFrom (Nv.IQ F (Nv.st E n) (Y*24+X)) 4 1)):=by
  have h:=uh nk
  rwa [show Nv.step F (Nv.st E n) (Y*24+X)=Nv.wayFrom (Nv.IQ F (Nv.st E n) (Y*24+X)) 4 1 from abO (by rw[<-uh ZX];exact iC)]at h
 clear nk;go_wp2_with fail;go_loopw [13] (fun i wr=>∃k:Nat,1<=k/\k<=5/\i=.int .i64 (k:Int)/\(∀j:Nat,1<=j->j<k->Nv.IQ F (Nv.st E n) (Y*24+X) j=false)/\w4.grownBy wr none) (fun i _=>5-(intOf i).toNat)
 case atStart=>exact⟨1,by omega,by omega,rfl,fun j h1 h2=>by omega,abF _ _⟩
 case round =>
  obtain⟨k,h1,h5,rfl,hno,hgr⟩:=hrel;have aT:=aa hno;have bV:=aa hgr;clear hno hgr Yx;by_cases hlt:k<=4
  ·have hlt':(k:Int)<=4:=by omega
   have HL:=aa hlt;have H1:=aa h1;have wb:=Fx.oa (k:Int);have gM:Nv.next (Y*24+X) k=Nv.bw ((X:Int)+(Fx.bh (k:Int)).1) ((Y:Int)+(Fx.bh (k:Int)).2):=by
    unfold Nv.next
    rw[show(Y*24+X)%24=X by omega,show(Y*24+X)/24=Y by omega]
   have cw:=aa (fun wq=>lY (k:Int) wq);have L0:Hid (Nv.IQ F (Nv.st E n) (Y*24+X) k=false->∀j:Nat,1<=j->j<k+1->Nv.IQ F (Nv.st E n) (Y*24+X) j=false):=fun h j h1 h2=>by
    by_cases e:j=k
    ·rw[e];exact h
    ·exact uh aT j h1 (by omega)
   generalize (Fx.bh (k:Int)).1=dx at *;generalize (Fx.bh (k:Int)).2=dy at *;obtain⟨d1,d2,d3,d4⟩:=wb;clear hlt h1 h5;by_cases cU:Gr.iS ((X:Int)+dx) ((Y:Int)+dy)=true
   ·obtain⟨b1,b2,b3,b4⟩:=(Gr.bz _ _).1 cU;obtain⟨PX,hPX⟩:∃PX:Nat,(X:Int)+dx=(PX:Int):=⟨((X:Int)+dx).toNat,by omega⟩;obtain⟨PY,hPY⟩:∃PY:Nat,(Y:Int)+dy=(PY:Int):=⟨((Y:Int)+dy).toNat,by omega⟩;have hn:Nv.next (Y*24+X) k=((PY*24+PX:Nat):Int):=by rw[gM];unfold Nv.bw;rw[abP cU,hPX,hPY];omega
    have lN:=Nv.OW (F:=F) (st:=Nv.st E n) hn;have hp:PY*24+PX<384:=(by omega);have QY:wr.cell? ⟨g2,PY*24+PX,none⟩=some (.int .i64 (F (PY*24+PX))):=((uh xl).grown (uh bV) (by simp)).cell hp;have aK:Nv.st E n (PY*24+PX)=decide (0<=En.first (En.eM E (PX:Int) (PY:Int)) n):=by
     unfold Nv.st;rw[show(PY*24+PX)%24=PX by omega,show(PY*24+PX)/24=PY by omega]
    have aba:PX<24:=(by omega);have abb:PY<16:=(by omega);have cI:=aa (fun wq=>bA ((X:Int)+dx) ((Y:Int)+dy) wq);rw[cU,hPX,hPY]at cI;clear cU b1 b2 b3 b4 gM hn;go_wp2_with fail;refine(uh cw _).mono ?_;rintro e wx ⟨rfl,rfl⟩;go_wp2_with fail;refine(uh cI _).mono ?_;rintro e wy ⟨rfl,rfl⟩;have hz:(PY:Int)*24+X+dx=((PY*24+PX:Nat):Int):=(by omega);have cA:=aa (zj b n c E (PX:Int) (PY:Int) wy ((uh Zy).on (uh bV)));clear cI cw;rw[aK,<-uh ZX]at lN;by_cases hq:F (PY*24+PX)=V-1
    ·have kp:(F (PY*24+PX)==V-1)=true:=by rw[beq_iff_eq];exact hq
     rw[abJ hq,Bool.true_and]at lN;generalize En.first (En.eM E (PX:Int) (PY:Int)) n=r at lN cA
     clear hq aK;by_cases hs:0<=r
     ·rw[abJ hs]at lN;have oW:=aa (uh L0 lN);have Xz:¬r<0:=(by omega);clear lN hs;go_wp2_with fail;refine aaR (uh cA) fun wz fM=>?_;have GQ:=aa (gtr (uh bV) fM);clear fM QY;go_wp2;go_roundw
      case rel=>exact⟨k+1,by have:=uh H1;omega,by have:=uh HL;omega,by go_num,uh oW,uh GQ⟩
      case measure=>have:=uh HL;simp[intOf];omega
     ·rw[abI hs]at lN;have pk:Hid (Nv.aW f t cv E n X Y (k:Int)):=by
       have h:=uh hr
       rwa [Nv.sd 4 k 1 (uh aT) lN (uh H1) (by have:=uh HL;omega)]at h
      have Xz:r<0:=(by omega);clear lN hs;go_wp2_with fail;refine aaR (uh cA) fun wz fM=>?_;have GQ:=aa (gtr (uh bV) fM);clear fM QY;go_wp2;go_ret;exact⟨_,uh pk,rfl,gtr (uh vz) (uh GQ)⟩
    ·have kp:(F (PY*24+PX)==V-1)=false:=by rw[beq_eq_false_iff_ne];exact hq
     rw[abI hq,Bool.false_and]at lN;have oW:=aa (uh L0 lN);clear hq lN cA aK;go_wp2;go_roundw
     case rel=>exact⟨k+1,by have:=uh H1;omega,by have:=uh HL;omega,by go_num,uh oW,uh bV⟩
     case measure=>have:=uh HL;simp[intOf];omega
   ·rw[Bool.not_eq_true]at cU;have oW:=aa (uh L0 (Nv.Le (gM.trans (abO (by rw[cU];simp)))));have cI:=aa (fun wq=>bA ((X:Int)+dx) ((Y:Int)+dy) wq);rw[cU]at cI;clear cU gM;go_wp2_with fail;refine(uh cw _).mono ?_;rintro e wx ⟨rfl,rfl⟩;go_wp2_with fail;refine(uh cI _).mono ?_;rintro e wx ⟨rfl,rfl⟩;go_wp2;go_roundw
    case rel=>exact⟨k+1,by have:=uh H1;omega,by have:=uh HL;omega,by go_num,uh oW,uh bV⟩
    case measure=>have:=uh HL;simp[intOf];omega
  ·have hge:¬(k:Int)<=4:=by omega
   have pk:Hid (Nv.aW f t cv E n X Y 0):=by
    have h:=uh hr
    rwa [Nv.ie 4 1 fun j h1 h2=>uh aT j h1 (by omega)]at h
   go_wp2;go_ret;exact⟨0,uh pk,rfl,gtr (uh vz) (uh bV)⟩
variable{B:Nat}{w x:World}
theorem ay.jl{ar n z:Nat}{T:TypeId}{v:Value}{F:Nat->Value}(h:w.ownsRow ar T z v n (Gd.fk (n*z) F))(hv:v≠.slice none 0 0):∃g aG,v=.slice (some ⟨g,0,none⟩) n aG/\ar<=g/\n<=aG/\ay w g T (n*z) F:=by
 rcases h.2 with⟨h',_⟩|⟨g,aG,cD,rfl,hb,hg,jP,tu,fp,ye⟩
 ·exact absurd h' hv
 ·refine⟨g,aG,rfl,hb,jP,cD.size,fun j=>cD[j]?.getD undef,ax.lit hg,by rw[fp];exact Nat.mul_le_mul_right z jP,fun c hc=>?_⟩;have e:=Gd.jH (F:=F) hc;rw[<-ye,List.getElem?_take,abP hc,Array.getElem?_toList]at e;show cD[c]?.getD undef=_;rw[e];rfl
theorem ay.PH{G:Nat}{T U:TypeId}{m n:Nat}{F K:Nat->Value}(h1:ay x B T m F)(h2:ay x G U n K)(h:T≠U):B≠G:=by
 rintro rfl;obtain⟨_,_,⟨c1,e1,_⟩,_⟩:=h1;obtain⟨_,_,⟨c2,e2,_⟩,_⟩:=h2;rw[e1]at e2;simp only[Option.some.injEq,Obj.cells.injEq]at e2;exact h e2.2.1
structure Gd.yT(w x:World)(B gC gE gI cC cE cI:Nat)(s g:N1):Prop where
 box:ay x B 30 11 (Gd.box s gC gE gI cC cE cI g)
 bl:ay x (B+1) 30 11 (fun j=>#[.int .i64 0,.int .i64 0,.int .i64 0,.int .i64 0,.slice none 0 0,.slice none 0 0,.slice none 0 0,.int .i64 0,.int .i64 0,.int .i64 0,Value.int .i64 0][j]?.getD undef)
 jo:w.heap.size=B
 jS:B+2<=x.heap.size
 grown:w.grownBy x none
theorem Gd.yT.on{y:World}{gC gE gI cC cE cI:Nat}{s g:N1}(h:Gd.yT w x B gC gE gI cC cE cI s g)(hg:x.grownBy y none):Gd.yT w y B gC gE gI cC cE cI s g :=
 ⟨h.box.on hg,h.bl.on hg,h.jo,abM h.jS hg.size,gtr h.grown hg⟩
theorem Gd.yT.set{gC gE gI cC cE cI:Nat}{s g:N1}(h:Gd.yT w x B gC gE gI cC cE cI s g)(i:Nat)(v:Value)(gC' gE' gI' cC' cE' cI':Nat)(he:∀j,j<11->(if j=i then v else Gd.box s gC gE gI cC cE cI g j)=Gd.box s gC' gE' gI' cC' cE' cI' g j):Gd.yT w (x.setCell ⟨B,i,none⟩ v) B gC' gE' gI' cC' cE' cI' s g:=by
 have hB:=h.jo;have r:=gs0 x B i v;exact⟨(h.box.store i v).congr he,h.bl.grown r (by simp),h.jo,by simpa using h.jS,gsr h.grown ⟨B,i,none⟩ (by show w.heap.size<=B;omega) v⟩
theorem Gd.VY(s g:N1)(gC gE gI cC cE cI g1 c1:Nat):∀j,j<11->(if j=4 then Value.slice (some ⟨g1,0,none⟩) 384 c1 else Gd.box s gC gE gI cC cE cI g j)=Gd.box s g1 gE gI c1 cE cI g j:=by
 intro j hj;rcases(show j=0\/j=1\/j=2\/j=3\/j=4\/j=5\/j=6\/j=7\/j=8\/j=9\/j=10 by omega)with rfl|rfl|rfl|rfl|rfl|rfl|rfl|rfl|rfl|rfl|rfl <;> rfl
theorem Gd.Ge(s g:N1)(gC gE gI cC cE cI g1 c1:Nat):∀j,j<11->(if j=5 then Value.slice (some ⟨g1,0,none⟩) 32 c1 else Gd.box s gC gE gI cC cE cI g j)=Gd.box s gC g1 gI cC c1 cI g j:=by
 intro j hj;rcases(show j=0\/j=1\/j=2\/j=3\/j=4\/j=5\/j=6\/j=7\/j=8\/j=9\/j=10 by omega)with rfl|rfl|rfl|rfl|rfl|rfl|rfl|rfl|rfl|rfl|rfl <;> rfl
theorem Gd.Ns(s g:N1)(gC gE gI cC cE cI g1 c1:Nat):∀j,j<11->(if j=6 then Value.slice (some ⟨g1,0,none⟩) 40 c1 else Gd.box s gC gE gI cC cE cI g j)=Gd.box s gC gE g1 cC cE c1 g j:=by
 intro j hj;rcases(show j=0\/j=1\/j=2\/j=3\/j=4\/j=5\/j=6\/j=7\/j=8\/j=9\/j=10 by omega)with rfl|rfl|rfl|rfl|rfl|rfl|rfl|rfl|rfl|rfl|rfl <;> rfl
theorem du(s g c:N1)(E I:N2)(gC gE gI cC cE cI:Nat)(w:World)(hL:Gd.av w gC gE gI c E I):Calls prog 18 #[.agg (Gd.world s gC gE gI cC cE cI g)] w (Gd.cL w s g c E I):=by
 obtain⟨w0,aD,aF,aM,aN,eC⟩:=Gd.kr w gC gE gI cC cE cI s g;obtain⟨B,hB⟩:=abV w.heap.size;rw[hB]at aF aM eC;have hP0:Hid (Gd.yT w w0 B gC gE gI cC cE cI s g):=⟨aF,aM,hB,by omega,aN⟩;have mr:=aa hL;have lC:=aa hL.cells.lt;have lE:=aa hL.ai.lt;have lI:=aa hL.aj.lt;obtain⟨iB,hiB,aaC,aaD,aaE⟩:=info_parts kX;obtain⟨iE,hiE,aaF,aaG,aaH⟩:=info_parts gl;obtain⟨iI,YJ,Rm,Rn,Ro⟩:=info_parts jh;have eu:=aa hB;clear hL aF aM aN eC;unfold Gd.world at aD|-;clear hB;go_enter func18,ntmps18;go_upto_region 1 with fail;rw[<-aD,uh eu];clear aD;have q4:=(uh hP0).box.ae.2.2.2.2.1;have fB:=(uh hP0).box.free;have lB:=(uh hP0).box.lt;go_upto_region 1 with fail;go_cut [] from 3 (fun wx=>∃g1 c1,Hid (Gd.yT w wx B g1 gE gI c1 cE cI s g)/\Hid (ay wx g1 5 384 (aZ c)/\B+2<=g1))
 case first =>
  go_wp2_with (at_builtin;refine wpList_append_own _ rfl _ _ 25 rfl w0.heap.size 5 iB (.int .u8 0) 1 1 underlying25 hiB aaC aaD aaE rfl (by decide) _ 0 [] rfl (World.ownsRow_made _ _ _ (abL _) (by decide) (by simp)) ⟨gC,0,none⟩ 384 cC (Gd.fk 384 (aZ c)) rfl (Gd.aX _ _) (Gd.fw fun q hq=>(gce (gtr (uh hP0).grown (abE _ _ _)) gC q (uh lC) (by simp)).trans ((uh mr).read.1 q hq)) (Gd.dK fun _=>rfl) ?c4 ?c5 ?c6 ?_)
  case c4=>unfold maxLen;omega
  case c5=>omega
  case c6=>simp
  intro v' w1 aH az ni;obtain⟨g9,c9,rfl,iC,jP,oV⟩:=ay.jl (n:=384) (z:=1) (F:=(aZ c)) aH (by simpa using ni);have ur:=gow (abE w0 _ none) az (fun k e=>by cases e;exact abL _);have NS:=aa ((uh hP0).on ur);have y4:=(uh NS).box.ae.2.2.2.2.1;have fB9:=(uh NS).box.free;have Xa:=aa oV;have Ol:=aa iC;have UH:=aa jP;have N9:=aa ur;clear aH az ni oV iC jP ur q4 fB lB;go_wp2_with fail;go_meet;have wU:=(uh hP0).jS;have iC:=uh Ol;exact⟨g9,c9,(uh NS).set 4 _ _ _ _ _ _ _ (Gd.VY s g gC gE gI cC cE cI g9 c9),(uh Xa).aP (by omega) _ _,by omega⟩
 case rest =>
  obtain⟨g1,c1,hP1,hL1⟩:=hcut;clear q4 fB lB hP0;have q5:=(uh hP1).box.ae.2.2.2.2.2.1;have fB:=(uh hP1).box.free;have lB:=(uh hP1).box.lt;go_upto_region 2 with fail;go_cut [] from 8 (fun wx=>∃g2 c2,Hid (Gd.yT w wx B g1 g2 gI c1 c2 cI s g)/\Hid (ay wx g1 5 384 (aZ c)/\B+2<=g1/\ay wx g2 54 352 (En.aL E)/\B+2<=g2/\32<=c2))
  case first =>
   go_wp2_with (at_builtin;refine wpList_append_own _ rfl _ _ 26 rfl wc.heap.size 54 iE (.agg #[.int .i64 0,.int .i64 0,.int .i64 0,.int .i64 0,.int .i64 0,.int .i64 0,.int .i64 0,.int .i64 0,.int .i64 0,.int .i64 0,.int .i64 0]) 11 88 underlying26 hiE aaF aaG aaH rfl (by decide) _ 0 [] rfl (World.ownsRow_made _ _ _ (abL _) (by decide) (by simp)) ⟨gE,0,none⟩ 32 cE (Gd.fk 352 (En.aL E)) rfl (Gd.aX _ _) (Gd.fw fun q hq=>(gce (gtr (uh hP1).grown (abE _ _ _)) gE q (uh lE) (by simp)).trans ((uh mr).read.2.1 q hq)) (Gd.dK fun _=>rfl) ?c4 ?c5 ?c6 ?_)
   case c4=>unfold maxLen;omega
   case c5=>omega
   case c6=>simp
   intro v' w1 aH az ni;obtain⟨g9,c9,rfl,iC,jP,oV⟩:=ay.jl (n:=32) (z:=11) (F:=(En.aL E)) aH (by simpa using ni);have ur:=gow (abE wc _ none) az (fun k e=>by cases e;exact abL _);have NS:=aa ((uh hP1).on ur);have y5:=(uh NS).box.ae.2.2.2.2.2.1;have fB9:=(uh NS).box.free;have Xa:=aa oV;have Ol:=aa iC;have UH:=aa jP;have N9:=aa ur;clear aH az ni oV iC jP ur q5 fB lB;go_wp2_with fail;go_meet;have wU:=(uh hP1).jS;have iC:=uh Ol;obtain⟨k1,k2⟩:=uh hL1;exact⟨g9,c9,(uh NS).set 5 _ _ _ _ _ _ _ (Gd.Ge s g g1 gE gI c1 cE cI g9 c9),(k1.on (uh N9)).aP (by omega) _ _,k2,(uh Xa).aP (by omega) _ _,by omega,uh UH⟩
  case rest =>
   obtain⟨g2,c2,hP2,hL2⟩:=hcut;clear q5 fB lB hP1 hL1;have q6:=(uh hP2).box.ae.2.2.2.2.2.2.1;have fB:=(uh hP2).box.free;have lB:=(uh hP2).box.lt;go_upto_region 3 with fail;go_cut [] from 13 (fun wx=>∃g3 c3,Hid (Gd.au w wx B g1 g2 g3 c1 c2 c3 s g c E I))
   case first =>
    go_wp2_with (at_builtin;refine wpList_append_own _ rfl _ _ 27 rfl wc.heap.size 62 iI (.agg #[.int .i64 0,.int .i64 0,.int .i64 0,.int .i64 0]) 4 32 underlying27 YJ Rm Rn Ro rfl (by decide) _ 0 [] rfl (World.ownsRow_made _ _ _ (abL _) (by decide) (by simp)) ⟨gI,0,none⟩ 40 cI (Gd.fk 160 (Gd.aL I)) rfl (Gd.aX _ _) (Gd.fw fun q hq=>(gce (gtr (uh hP2).grown (abE _ _ _)) gI q (uh lI) (by simp)).trans ((uh mr).read.2.2 q hq)) (Gd.dK fun _=>rfl) ?c4 ?c5 ?c6 ?_)
    case c4=>unfold maxLen;omega
    case c5=>omega
    case c6=>simp
    intro v' w1 aH az ni;obtain⟨g9,c9,rfl,iC,jP,oV⟩:=ay.jl (n:=40) (z:=4) (F:=(Gd.aL I)) aH (by simpa using ni);have ur:=gow (abE wc _ none) az (fun k e=>by cases e;exact abL _);have NS:=aa ((uh hP2).on ur);have y6:=(uh NS).box.ae.2.2.2.2.2.2.1;have fB9:=(uh NS).box.free;have Xa:=aa oV;have Ol:=aa iC;have UH:=aa jP;have N9:=aa ur;clear aH az ni oV iC jP ur q6 fB lB;go_wp2_with fail;go_meet;have wU:=(uh hP2).jS;have iC:=uh Ol;obtain⟨k1,k2,k3,k4,k5⟩:=uh hL2;have Sx:=(uh NS).set 6 _ _ _ _ _ _ _ (Gd.Ns s g g1 g2 gI c1 c2 cI g9 c9);have m1:=(k1.on (uh N9)).aP (p:=B) (by omega) 6 (.slice (some ⟨g9,0,none⟩) 40 c9);have m2:=(k3.on (uh N9)).aP (p:=B) (by omega) 6 (.slice (some ⟨g9,0,none⟩) 40 c9);have m3:=(uh Xa).aP (p:=B) (by omega) 6 (.slice (some ⟨g9,0,none⟩) 40 c9);exact⟨g9,c9,⟨Sx.box,⟨m1,m2,m3⟩,by omega,by omega,by omega,m1.PH m2 (by decide),m1.PH m3 (by decide),m2.PH m3 (by decide)⟩,Sx.jo,k2,k4,by omega,k5,Sx.bl,Sx.grown⟩
   case rest =>
    obtain⟨g3,c3,hX⟩:=hcut;clear q6 fB lB hP2 hL2;obtain⟨b0,b1,b2,b3,b4,b5,b6,b7,b8,b9,b10⟩:=(uh hX).af.box.ae;have fz:=(uh hX).bl.free;obtain⟨z0,z1,z2,z3,z4,z5,z6,z7,z8,z9,bO⟩:=Gd.aq (uh hX).bl;have ah:=aa (fun vs=>(uh hX).bN vs);go_wp2;refine abN (v:=.agg (Gd.world s g1 g2 g3 c1 c2 c3 g)) (by simp[results,results18,go_sem,Gd.world,z0,z1,z2,z3,z4,z5,z6,z7,z8,z9,bO]) rfl ?_;exact uh ah [_,_,_,_,_,_,_,_,_,_,_]
theorem Nv.TM(x0 x1 d:Int)(h3:-9223372036854775808<=x1)(h4:x1<=9223372036854775807)(d1:-1<=d)(d2:d<=1):(x1==wrap64 (x0+d))=decide (d=wrap64 (x1-x0)):=by
 have key:x1=wrap64 (x0+d)↔d=wrap64 (x1-x0):=by unfold wrap64;omega
 by_cases h:d=wrap64 (x1-x0)
 ·rw[abJ h,beq_iff_eq];exact key.2 h
 ·rw[abI h,beq_eq_false_iff_ne];exact fun e=>h (key.1 e)
theorem xv(x0 y0 x1 y1:Int)(w:World)(a3:-9223372036854775808<=x1)(a4:x1<=9223372036854775807)(b3:-9223372036854775808<=y1)(b4:y1<=9223372036854775807):Calls prog 91 #[.int .i64 x0,.int .i64 y0,.int .i64 x1,.int .i64 y1] w fun e w'=>e=.returned (.int .i64 (Nv.ez (wrap64 (x1-x0)) (wrap64 (y1-y0))))/\w'=w:=by
 obtain⟨DX,hx⟩:∃D,D=wrap64 (x1-x0):=⟨_,rfl⟩;obtain⟨DY,hy⟩:∃D,D=wrap64 (y1-y0):=⟨_,rfl⟩;have gx:Hid (∀d,-1<=d->d<=1->(x1==wrap64 (x0+d))=decide (d=DX)):=fun d h1 h2=>by rw[hx];exact Nv.TM x0 x1 d a3 a4 h1 h2
 have gy:Hid (∀d,-1<=d->d<=1->(y1==wrap64 (y0+d))=decide (d=DY)):=fun d h1 h2=>by rw[hy];exact Nv.TM y0 y1 d b3 b4 h1 h2
 rw[<-hx,<-hy];clear hx hy a3 a4 b3 b4;go_enter func91,ntmps91;go_wp2_with fail;go_loop [9] (fun i=>∃k:Nat,1<=k/\k<=5/\i=.int .i64 (k:Int)/\∀j:Nat,1<=j->j<k->¬((Fx.bh (j:Int)).1=DX/\(Fx.bh (j:Int)).2=DY)) (fun i=>5-(intOf i).toNat)
 case atStart=>exact⟨1,by omega,by omega,rfl,fun j h1 h2=>by omega⟩
 case round =>
  obtain⟨k,h1,h5,rfl,hno⟩:=hrel;have aT:=aa hno;clear hno;by_cases hlt:k<=4
  ·have hlt':(k:Int)<=4:=by omega
   have HL:=aa hlt;have H1:=aa h1;clear hlt h1 h5;have tA:=Fx.oa (k:Int);have k1:=uh gx _ tA.1 tA.2.1;have k2:=uh gy _ tA.2.2.1 tA.2.2.2;have cw:=aa (lY (k:Int) w);have LW:Hid (∀p:Prop,((Fx.bh (k:Int)).1=DX/\(Fx.bh (k:Int)).2=DY->p)->((Fx.bh (k:Int)).1=DX->¬(Fx.bh (k:Int)).2=DY->p)->(¬(Fx.bh (k:Int)).1=DX->p)->p):=fun p hp hq hr=>by
    by_cases u:(Fx.bh (k:Int)).1=DX
    ·by_cases v:(Fx.bh (k:Int)).2=DY
     ·exact hp ⟨u,v⟩
     ·exact hq u v
    ·exact hr u
   have hh:Hid ((Fx.bh (k:Int)).1=DX/\(Fx.bh (k:Int)).2=DY->Nv.ez DX DY=(k:Int)):=fun h=>Nv.mZ 4 k 1 (uh aT) h (uh H1) (by have:=uh HL;omega);have hm:Hid (¬((Fx.bh (k:Int)).1=DX/\(Fx.bh (k:Int)).2=DY)->∀j:Nat,1<=j->j<k+1->¬((Fx.bh (j:Int)).1=DX/\(Fx.bh (j:Int)).2=DY)):=fun h j h1 h2=>by
    by_cases e:j=k
    ·rw[e];exact h
    ·exact uh aT j h1 (by omega)
   generalize (Fx.bh (k:Int)).1=u at *;generalize (Fx.bh (k:Int)).2=v at *;have bu:=tA.1;have Za:=tA.2.1;have bv:=tA.2.2.1;have Zb:=tA.2.2.2;clear tA;refine uh LW _ ?_ ?_ ?_
   ·intro hq;rw[abJ hq.1]at k1;rw[abJ hq.2]at k2;have he:=aa (uh hh hq);clear hq LW hm hh bu Za bv Zb;go_wp2_with fail;refine(uh cw).mono ?_;rintro e w1 ⟨rfl,rfl⟩;go_wp2;go_ret;exact⟨rti (uh he).symm,rfl⟩
   ·intro hu hv;rw[abJ hu]at k1;rw[abI hv]at k2;have he:=aa (uh hm (fun h=>hv h.2));clear hu hv LW hm hh bu Za bv Zb;go_wp2_with fail;refine(uh cw).mono ?_;rintro e w1 ⟨rfl,rfl⟩;go_wp2
    go_round
    case rel=>exact⟨k+1,by have:=uh H1;omega,by have:=uh HL;omega,by go_num,uh he⟩
    case measure=>have:=uh HL;simp[intOf];omega
   ·intro hu;rw[abI hu]at k1;have he:=aa (uh hm (fun h=>hu h.1));clear hu LW hm hh k2 bu Za bv Zb;go_wp2_with fail;refine(uh cw).mono ?_;rintro e w1 ⟨rfl,rfl⟩;go_wp2
    go_round
    case rel=>exact⟨k+1,by have:=uh H1;omega,by have:=uh HL;omega,by go_num,uh he⟩
    case measure=>have:=uh HL;simp[intOf];omega
  ·have hge:¬(k:Int)<=4:=by omega
   have he:Hid (Nv.ez DX DY=0):=Nv.kV 4 1 fun j h1 h2=>uh aT j h1 (by omega);go_wp2;go_ret;exact⟨rti (uh he).symm,rfl⟩
structure Nv.iy(c:N1):Prop where
 ku:∀i,0<=c i/\c i<=5
 some:∃i,i<384/\c i≠0
 Z1:∀P,Gn.fc c P->∀k,k<384->c k≠0->P k->∀i,i<384->c i≠0->P i
 Vh:∃u v,u<384/\v<384/\(∀i,c i=3↔i=u)/\(∀i,c i=4↔i=v)
theorem Nv.X2{d:Gn.aY}(hd:Gn.gL d){c F:N1}{far:Nat}(h:Gn.uE d c F far){P:Nat->Prop}(hC:Gn.fc c P):∀(n k:Nat),k<384->c k≠0->P k->F k=(n:Int)->P (Gn.up d):=by
 intro n
 induction n with
 | zero =>
  intro k hk _ hP e;rw[<-(h.qZ.zero k hk).1 e];exact hP
 | succ n ih =>
  intro k hk WN hP e;obtain⟨_,j,dd,hj,hdd,hn,rfl,he⟩:=h.qZ.back k hk (by omega);obtain⟨b1,b2⟩:=Gr.RE hj hdd hn;have WM:c j≠0:=(h.Pn hd j hj).1 (by omega);refine ih j hj WM ?_ (by omega);have:=hC (Gr.gA j dd) (Gr.opp dd) hk (Gr.Vb hdd) hP b1 (by rw[b2];exact WM)
  rwa [b2]at this
theorem Nv.NI{d:Gn.aY}(hd:Gn.gL d){c F:N1}(h:Gn.fH d c F):Nv.iy c:=by
 obtain⟨far,hf⟩:=h.Kz hd;refine⟨hf.ku,⟨far,hf.Wb,by have:=(hf.is4 far).2 rfl;omega⟩,fun P hC k hk WN hP i hi VD=>?_,⟨Gn.up d,far,hf.Y0,hf.Wb,hf.is3,hf.is4⟩⟩;have h0:=(hf.Pn hd k hk).2 WN;have L0:=Nv.X2 hd hf hC (F k).toNat k hk WN hP (by omega);exact Gn.SC hd (fun j _=>hf.nz j) hC L0 i hi VD
theorem vT(n c:Nat)(hc:c<n*4):(madeCells (Value.agg #[.int .i64 0,.int .i64 0,.int .i64 0,.int .i64 0]).cells (n*4))[c]?=some (.int .i64 0):=by
 have hm:c%4<4:=by omega
 obtain⟨m,zN⟩:∃m,m=c%4:=⟨_,rfl⟩;unfold madeCells;simp[hc,Value.cells];rw[<-zN]at hm|-;rcases(show m=0\/m=1\/m=2\/m=3 by omega)with rfl|rfl|rfl|rfl <;> rfl
theorem OU:∃Z:Array Value,(∀w:World,(Instr.makeSlice 27 (.int .i64 40) (.int .i64 40)).run prog w=.ok (.slice (some ⟨w.heap.size,0,none⟩) 40 40) (w.alloc (.cells Z 62))) /\
  ∀w:World,ay (w.alloc (.cells Z 62)) w.heap.size 62 160 (Gd.aL (fun _ _=>0)):=by
 obtain⟨i0,hi,dJ,dz,ed⟩:=info_parts jh;refine⟨madeCells (Value.agg #[.int .i64 0,.int .i64 0,.int .i64 0,.int .i64 0]).cells (40*4),fun w=>?_,fun w=>?_⟩
 ·have hr:=run_make (P:=prog) w 27 62 i0 _ underlying27 hi dJ .i64 .i64 (40:Nat) (40:Nat) (by omega) (by omega) (by rw[ed];decide) (by decide);rw[dz]at hr;exact hr
 ·refine⟨_,_,ax.lit (abH w _),by rw[size_madeCells];omega,fun c hc=>?_⟩;show(madeCells _ _)[c]?.getD undef=_;rw[vT 40 c hc];rfl
theorem ay.ao{x:World}{B G:Nat}{T U:TypeId}{m n:Nat}{F K:Nat->Value}(h1:ay x B T m F)(h2:ay x G U n K)(h:T≠U):B≠G:=by
 rintro rfl;obtain⟨_,_,⟨c1,e1,_⟩,_⟩:=h1;obtain⟨_,_,⟨c2,e2,_⟩,_⟩:=h2;rw[e1]at e2;simp only[Option.some.injEq,Obj.cells.injEq]at e2;exact h e2.2.1
variable{M:N2}
def Gd.na(J:N2):Nat->Bool:=fun i=>Gd.pd (J i 0) (J i 1) (J i 2) (J i 3)
def Gd.lay(I M:N2):Nat->Nat->Nat->Int
 | 0=>I
 | m+1=>if 0<=En.first (Gd.na (Gd.lay I M m)) 40 then En.put (Gd.lay I M m) (En.first (Gd.na (Gd.lay I M m)) 40).toNat (Gd.row (M m 0) (M m 1) (M m 2) (M m 3))else Gd.lay I M m
theorem Gd.Hi{I:N2}{m:Nat}(h:∀j,j<40->Gd.na (Gd.lay I M m) j=false):Gd.lay I M (m+1)=Gd.lay I M m:=by
 show(if _ then _ else _)=_;rw[En.bt h,abO (by omega)]
theorem Gd.Hj{I:N2}{m r:Nat}(hno:∀j,j<r->Gd.na (Gd.lay I M m) j=false)(hr:Gd.na (Gd.lay I M m) r=true)(Zo:r<40):Gd.lay I M (m+1)=En.put (Gd.lay I M m) r (Gd.row (M m 0) (M m 1) (M m 2) (M m 3)):=by
 show(if _ then _ else _)=_;rw[En.cG hno hr Zo,abP (by omega),abG]
theorem Gd.yn{I M:N2}{m:Nat}(h:∀j,j<40->Gd.na (Gd.lay I M m) j=false):∀d,Gd.lay I M (m+d)=Gd.lay I M m
  | 0=>rfl
  | d+1 => by
      have ih:=Gd.yn h d
      have h':∀j,j<40->Gd.na (Gd.lay I M (m+d)) j=false:=by rw[ih];exact h
      rw[<-Nat.add_assoc,Gd.Hi h',ih]
def Gd.qP(w:World)(a:Option Addr)(n:Nat)(M:N2):Prop:=n<=100/\(n=0\/∃b o,a=some ⟨b,o,none⟩/\wN w b o n M)
theorem Gd.qP.on{w w':World}{a:Option Addr}{n:Nat}(h:Gd.qP w a n M)(hg:w.grownBy w' none):Gd.qP w' a n M:=by
 obtain⟨h1,h0|⟨b,o,h2,h3⟩⟩:=h
 ·exact⟨h1,.inl h0⟩
 ·exact⟨h1,.inr ⟨b,o,h2,h3.on hg⟩⟩
theorem Gd.qP.row{w:World}{a:Option Addr}{n:Nat}(h:Gd.qP w a n M){k:Nat}(hk:k<n):∃b o,a=some ⟨b,o,none⟩/\b<w.heap.size/\w.cell? ⟨b,o+k*4,none⟩=some (.int .i64 (M k 0))/\w.cell? ⟨b,o+k*4+1,none⟩=some (.int .i64 (M k 1))/\w.cell? ⟨b,o+k*4+2,none⟩=some (.int .i64 (M k 2))/\w.cell? ⟨b,o+k*4+3,none⟩=some (.int .i64 (M k 3)):=by
 obtain⟨_,h0|⟨b,o,h2,h3⟩⟩:=h
 ·omega
 ·exact⟨b,o,h2,h3.2.1,h3.2.2 k 0 hk (by omega),h3.2.2 k 1 hk (by omega),h3.2.2 k 2 hk (by omega),h3.2.2 k 3 hk (by omega)⟩
def Gd.nG(w:World)(J:N2)(e:Ending)(w':World):Prop :=
 ∃g aG,e=.returned (.slice (some ⟨g,0,none⟩) 40 aG)/\w.heap.size<=g/\ay w' g 62 160 (Gd.aL J)/\w.grownBy w' none
variable{E:N2}{b n:Nat}{w:World}
theorem fG.aL(h:fG w b n E){c:Nat}(hc:c<n*11):w.cell? ⟨b,c,none⟩=some (En.aL E c):=by
 have:=h.2.2 (c/11) (c%11) (by omega) (by omega)
 rwa [show c/11*11+c%11=c by omega]at this
theorem fG.set(h:fG w b n E){p i:Nat}(hp:p≠b)(u:Value):fG (w.setCell ⟨p,i,none⟩ u) b n E :=
 ⟨h.1,by simpa using h.2.1,fun i' j hi hj=>(World.cell?_of_block (a:=⟨b,i'*11+j,none⟩) (heap_setCell_other w ⟨p,i,none⟩ b u hp.symm)).trans (h.2.2 i' j hi hj)⟩
def En.fk(n:Nat)(E:N2):List Value:=(List.range (n*11)).map (En.aL E)
theorem En.aX(n:Nat)(E:N2):(En.fk n E).length=n*11:=by simp[En.fk]
theorem En.jH{c:Nat}(hc:c<n*11):(En.fk n E)[c]?=some (En.aL E c):=by
 unfold En.fk;rw[List.getElem?_map,List.getElem?_range hc];rfl
theorem En.dK:∀v∈En.fk n E,v.oneCell'=true:=by
 intro v hv;unfold En.fk at hv;obtain⟨c,_,rfl⟩:=List.mem_map.1 hv;rfl
theorem fG.src(h:fG w b n E):∀j v,(En.fk n E)[j]?=some v->w.cell? ((⟨b,0,none⟩:Addr).add j)=some v:=by
 intro j v hj;have hlt:j<n*11:=by
  have:=(List.getElem?_eq_some_iff.1 hj).1
  rwa [En.aX]at this
 rw[En.jH hlt]at hj;rw[show(⟨b,0,none⟩:Addr).add j=⟨b,j,none⟩ by rw[Go.WideShapes.add_plain,Nat.zero_add],h.aL hlt];exact hj
theorem fg.Va{g:Nat}(hn:n<=32)(h:w.heap[g]?=some (.cells (En.fk n E).toArray 54 (0,0))):fg w g n E:=by
 refine⟨hn,_,_,ax.lit h,by simp[En.aX],fun c hc=>?_⟩;show(En.fk n E).toArray[c]?.getD undef=_;rw[List.getElem?_toArray,En.jH hc];rfl
theorem PG(b n c:Nat)(E:N2)(w:World)(hE:fG w b n E):Calls prog 146 #[.slice (some ⟨b,0,none⟩) n c] w (av w n E):=by
 have hn:=hE.1;have iQ:=aa hE;obtain⟨i0,hi,dJ,dz,ed⟩:=info_parts gl;have eC:(prog.info? 54).map (·.size)=some 11:=by rw[hi];simp[dz]
 clear hE;go_enter func146,ntmps146;go_wp2_with (at_make;refine wpList_make_full _ rfl _ _ 26 rfl w.heap.size 54 i0 (.agg #[.int .i64 0,.int .i64 0,.int .i64 0,.int .i64 0,.int .i64 0,.int .i64 0,.int .i64 0,.int .i64 0,.int .i64 0,.int .i64 0,.int .i64 0]) 11 underlying26 hi dJ dz .i64 .i64 _ _ n rfl rfl rfl rfl ?q3 ?q4 ?q5 ?_)
 any_goals (first| (rw[ed];omega)|(unfold maxLen;omega)|exact abL _)
 intro w1 aH az;obtain⟨cD,hg,fp⟩:∃cD,w1.heap[w.heap.size]?=some (.cells cD 54 (0,0))/\cD.size=n*11:=by
  rcases aH.2 with⟨h',_⟩|⟨g',oN,cD,h',_,hg,_,_,fp,_⟩
  ·simp at h'
  ·simp only[Value.slice.injEq,Option.some.injEq,Addr.mk.injEq,and_true,true_and]at h';obtain⟨rfl,rfl⟩:=h';exact⟨cD,hg,fp⟩
 have nQ:=aa hg;have dk:=aa az;have nd:=aa fp;clear aH hg az fp hi dJ dz ed;obtain⟨w2,nS,bZ,gu⟩:=cX 26 26 3 54 underlying26 11 eC w.heap.size n n ⟨b,0,none⟩ c cD _ (uh nQ) (En.fk n E) (En.aX n E) ((uh iQ).on (uh dk)).src ((En.aX n E).trans (uh nd).symm) En.dK;have ah:=aa (show fg w2 w.heap.size n E from fg.Va hn bZ);have YF:=aa (gow (uh dk) gu (fun m e=>by cases e;exact abL _));clear bZ gu nQ dk nd;go_wp2;go_ret;exact⟨w.heap.size,n,rfl,abL _,abL _,by unfold maxLen;omega,uh ah,uh YF⟩
theorem IA(b n c k:Nat)(E:N2)(e:N1)(w:World)(hE:fG w b n E)(hk:k<n):Calls prog 143 #[.slice (some ⟨b,0,none⟩) n c,.int .i64 (k:Int),.agg (En.cells e)] w (av w n (En.put E k e)):=by
 have hn:=hE.1;have jy:(k:Int)<(n:Int):=by omega
 have ct:=aa (PG b n c E (w.alloc (.cells (En.cells e) 54)) (hE.on (abE _ _ _)));have aF:=aa (ax.lit (abH w (.cells (En.cells e) 54)));have aK:Hid (∀(x:World)(g:Nat),fg x g n E->fg (x.setCells g (k*11) (En.cells e).toList) g n (En.put E k e)):=fun x g h=>h.store k e;have MZ:Hid (∀(x:World)(g:Nat),w.grownBy x none->w.heap.size<=g->w.grownBy (x.setCells g (k*11) (En.cells e).toList) none):=fun x g h hg=>aA hg _ _ x h;have Xx:Hid (∀(x:World)(g:Nat),fG x g n E->_):=fun x g h=>h.row hk;clear hE;unfold En.cells at ct aF aK MZ|-;go_enter func143,ntmps143;go_wp2_with fail;refine(uh ct).mono ?_;rintro _ w1 ⟨g,aG,rfl,iC,jP,tu,aH,hgr⟩;obtain⟨u0,u1,u2,u3,u4,u5,u6,u7,u8,u9,iO⟩:=uh Xx w1 g aH.ai;have f:=fun i=>aH.free i;have z:=fun j (hj:j<11)=>((uh aF).grown hgr (by simp)).cell (i:=j) hj;have z0:=z 0 (by omega);have z1:=z 1 (by omega);have z2:=z 2 (by omega);have z3:=z 3 (by omega);have z4:=z 4 (by omega);have z5:=z 5 (by omega);have z6:=z 6 (by omega);have z7:=z 7 (by omega);have z8:=z 8 (by omega);have z9:=z 9 (by omega);have bO:=z 10 (by omega);simp only[List.getElem?_toArray,List.getElem?_cons_zero,List.getElem?_cons_succ,Option.getD_some]at z0 z1 z2 z3 z4 z5 z6 z7 z8 z9 bO;have ev:=aa aH;have bV:=aa (gtr (abE w _ none) hgr);have qy:Hid (w.heap.size<=g):=by
  have:w.heap.size<=(w.alloc (.cells #[.int .i64 (e 0),.int .i64 (e 1),.int .i64 (e 2),.int .i64 (e 3),.int .i64 (e 4),.int .i64 (e 5),.int .i64 (e 6),.int .i64 (e 7),.int .i64 (e 8),.int .i64 (e 9),.int .i64 (e 10)] 54)).heap.size:=(abE w _ none).size;exact abM this iC
 have ap:=aa (And.intro jP tu);clear aH hgr iC jP tu z ct;go_wp2;go_ret;exact⟨g,aG,rfl,uh qy,(uh ap).1,(uh ap).2,uh aK _ _ (uh ev),uh MZ _ _ (uh bV) (uh qy)⟩
theorem pS(b n c:Nat)(E:N2)(w:World)(hE:fG w b n E):Calls prog 110 #[.slice (some ⟨b,0,none⟩) n c,.func (.func 142) #[] #[]] w (aJ w (.int .i64 (En.first (En.gS E) n))):=by
 have hn:=hE.1;have iQ:=aa hE;clear hE;go_enter func110,ntmps110;go_wp2_with fail;go_loopw [8] (fun i wr=>∃k:Nat,k<=n/\i=.int .i64 (k:Int)/\(∀j,j<k->En.gS E j=false)/\w.grownBy wr none) (fun i _=>40-(intOf i).toNat)
 case atStart=>exact⟨0,by omega,rfl,fun j hj=>by omega,abF _ _⟩
 case round =>
  obtain⟨k,hk,rfl,hno,hgr⟩:=hrel;have aT:=aa hno;have bV:=aa hgr;clear hno hgr;by_cases hlt:k<n
  ·obtain⟨u0,u1,u2,u3,u4,u5,u6,u7,u8,u9,iO⟩:=((uh iQ).on (uh bV)).row hlt;have hlt':(k:Int)<(n:Int):=by omega
   have HL:=aa hlt;clear hlt;go_wp2_with fail;refine aaR (nU (E k) _) fun w1 aN=>?_;have sM:=aa (gtr (uh bV) aN);clear u0 u1 u2 u3 u4 u5 u6 u7 u8 u9 iO aN;obtain⟨r,hr⟩:∃r:Bool,r=decide (E k 0=0):=⟨_,rfl⟩;have hq:Hid (En.gS E k=r):=hr.symm;rw[<-hr];clear hr;cases r
   ·go_wp2;go_roundw
    case rel=>exact⟨k+1,by have:=uh HL;omega,by go_num,fun j hj=>by
     by_cases e:j=k
     ·rw[e];exact uh hq
     ·exact uh aT j (by omega),uh sM⟩
    case measure=>simp[intOf];omega
   ·have he:=aa (En.cG (uh aT) (uh hq) (uh HL));go_wp2;go_ret;exact⟨rti (uh he).symm,uh sM⟩
  ·have hge:¬(k:Int)<(n:Int):=by omega
   have he:=aa (En.bt (n:=n) (fun j hj=>uh aT j (by omega)));go_wp2;go_ret;exact⟨rti (uh he).symm,uh bV⟩
def En.nN(e:N1)(g:Int):Nat->Int:=fun j=>if j=1 then g else e j
def yW(w:World)(n:Nat)(E:N2)(k:Nat)(e:Ending)(w':World):Prop :=
 ∃g aG,e=.returned (.tuple #[.slice (some ⟨g,0,none⟩) n aG,.int .i64 (k:Int),.int .i64 0])/\w.heap.size<=g/\n<=aG/\aG<=maxLen/\fg w' g n E/\w.grownBy w' none
theorem J8(b n c:Nat)(E:N2)(e:N1)(w:World)(hE:fG w b n E)(hc:n<=c)(hk:1<=e 0/\e 0<=4)(hf:En.first (En.gS E) n=-1):Calls prog 103 #[.slice (some ⟨b,0,none⟩) n c,.agg (En.cells e)] w (aJ w (.tuple #[.slice none 0 0,.int .i64 0,.int .i64 5])):=by
 have hn:=hE.1;obtain⟨s,hs,wT⟩:∃s,s=En.stats (e 0)/\¬s 0=0:=⟨_,rfl,by show¬(if 1<=e 0/\e 0<=4 then e 0 else 0)=0;rw[abP hk];omega⟩;have cs:Hid (∀x:World,Calls prog 80 #[.int .i64 (e 0)] x (aJ x (.agg (En.cells s)))):=fun x=>by rw[hs];exact kL (e 0) x
 have ci:Hid (∀x:World,w.grownBy x none->Calls prog 110 #[.slice (some ⟨b,0,none⟩) n c,.func (.func 142) #[] #[]] x (aJ x (.int .i64 (-1)))):=fun x hg=>by
  have:=pS b n c E x (hE.on hg)
  rwa [hf]at this
 clear hk hs hE hf;unfold En.cells at cs|-;go_enter func103,ntmps103;go_wp2_with fail;refine aaR (uh cs _) fun w1 hg=>?_;have hg1:=aa (gtr (abE _ _ _) hg);clear hg;go_wp2_with (go_at_call 141;refine abW (nu _ _ _ _ hn hc) ?_);refine aaR (uh ci _ (uh hg1)) fun w2 hg=>?_;have hg2:=aa (gtr (uh hg1) hg);clear hg;go_wp2
 go_ret3
 exact⟨rfl,uh hg2⟩
theorem J9(b n c k:Nat)(E:N2)(e:N1)(w:World)(hE:fG w b n E)(hc:n<=c)(hk:1<=e 0/\e 0<=4)(hf:En.first (En.gS E) n=(k:Int))(KU:k<n)(hG:En.sn n E):Calls prog 103 #[.slice (some ⟨b,0,none⟩) n c,.agg (En.cells e)] w (yW w n (En.put E k (En.nN e ((E k 1+1)%256))) k):=by
 have hn:=hE.1;obtain⟨s,hs,wT⟩:∃s,s=En.stats (e 0)/\¬s 0=0:=⟨_,rfl,by show¬(if 1<=e 0/\e 0<=4 then e 0 else 0)=0;rw[abP hk];omega⟩;have cs:Hid (∀x:World,Calls prog 80 #[.int .i64 (e 0)] x (aJ x (.agg (En.cells s)))):=fun x=>by rw[hs];exact kL (e 0) x
 have ci:Hid (∀x:World,w.grownBy x none->Calls prog 110 #[.slice (some ⟨b,0,none⟩) n c,.func (.func 142) #[] #[]] x (aJ x (.int .i64 (k:Int)))):=fun x hg=>by
  have:=pS b n c E x (hE.on hg)
  rwa [hf]at this
 obtain⟨g0,g1⟩:=hG k KU;have abl:(k:Int)<(n:Int):=by omega
 have iQ:=aa hE;have HK:=aa KU;have KR:=aa hE.2.1;have aF:=aa (ax.lit (abH w (.cells (En.cells e) 54)));have cw:Hid (∀x:World,fG x b n E->Calls prog 143 #[.slice (some ⟨b,0,none⟩) n c,.int .i64 (k:Int),.agg (En.cells (En.nN e ((E k 1+1)%256)))] x (av x n (En.put E k (En.nN e ((E k 1+1)%256))))):=fun x h=>IA b n c k E _ x h KU;obtain⟨F,hF⟩:∃F,F=En.put E k (En.nN e ((E k 1+1)%256)):=⟨_,rfl⟩;rw[<-hF]at cw|-;clear hk hs hE hf hG KU hF;unfold En.cells at cs aF cw|-;go_enter func103,ntmps103;go_wp2_with fail;refine aaR (uh cs _) fun w1 hg=>?_;have hg1:=aa (gtr (abE _ _ _) hg);have xZ:=aa ((uh aF).grown hg (by simp));clear hg aF;go_wp2_with (go_at_call 141;refine abW (nu _ _ _ _ hn hc) ?_);refine aaR (uh ci _ (uh hg1)) fun w2 hg=>?_;have hg2:=aa (gtr (uh hg1) hg);have rD:=aa ((uh xZ).grown hg (by simp));have z:=fun j (hj:j<11)=>(uh rD).cell (i:=j) hj;have z0:=z 0 (by omega);have z1:=z 1 (by omega);have z2:=z 2 (by omega);have z3:=z 3 (by omega);have z4:=z 4 (by omega);have z5:=z 5 (by omega);have z6:=z 6 (by omega);have z7:=z 7 (by omega);have z8:=z 8 (by omega);have z9:=z 9 (by omega);have bO:=z 10 (by omega);simp only[List.getElem?_toArray,List.getElem?_cons_zero,List.getElem?_cons_succ,Option.getD_some]at z0 z1 z2 z3 z4 z5 z6 z7 z8 z9 bO;have zf:=(uh rD).free 1;have u1:w2.cell? ⟨b,k*11+1,none⟩=some (.int .i64 (E k 1)):=((uh iQ).on (uh hg2)).2.2 k 1 (uh HK) (by omega);have ow:Hid (w.heap.size≠b):=by have:=uh KR;exact(show w.heap.size≠b by omega)
 have GD:Hid (∀u,fG (w2.setCell ⟨w.heap.size,1,none⟩ u) b n E):=fun u=>((uh iQ).on (uh hg2)).set (uh ow) u;have dl:Hid (∀u,w.grownBy (w2.setCell ⟨w.heap.size,1,none⟩ u) none):=fun u=>gsr (uh hg2) ⟨w.heap.size,1,none⟩ (abL _) u;clear hg z hg1 xZ ci cs;go_wp2_with fail;refine(uh cw _ (uh GD _)).mono ?_;rintro _ w3 ⟨g,aG,rfl,iC,jP,tu,aH,hgr⟩;have ah:=aa (show w.heap.size<=g/\n<=aG/\aG<=maxLen/\fg w3 g n F/\w.grownBy w3 none from⟨abM (uh dl _).size iC,jP,tu,aH,gtr (uh dl _) hgr⟩);clear iC jP tu aH hgr z0 z1 z2 z3 z4 z5 z6 z7 z8 z9 bO zf u1;go_wp2
 go_ret3
 exact⟨g,aG,rfl,uh ah⟩
