import Derived.Test.YtbanjoflgoiegaaGreatPart04
set_option maxHeartbeats 16000000
set_option maxRecDepth 8000
namespace Go.Proofs.YtbanjoflgoiegaaGreat
open Go.Proofs.Tryz
open Go.RowKit
variable{F f t:N1}{k:Nat}{row:List Nat}
structure Gr.mh(f t:N1)(k:Nat)(F:N1):Prop where
 jS:∀i,i<384->F i=0\/F i=-1
 zero:∀i,i<384->(F i=0↔Gr.aS (f i)=true/\∃j,j<k/\t j=(i:Int))
theorem Gr.mh.none(f t:N1):Gr.mh f t 0 (fun _=>-1):=by
 refine⟨fun _ _=>.inr rfl,fun i hi=>?_⟩;constructor
 ·intro h;cases h
 ·rintro⟨_,j,hj,_⟩;omega
theorem Gr.mh.ue(h:Gr.mh f t k F)(hs:∀c:Nat,c<384->t k=(c:Int)->Gr.aS (f c)=false):Gr.mh f t (k+1) F:=by
 refine⟨h.jS,fun i hi=>?_⟩;rw[h.zero i hi];constructor
 ·rintro⟨hw,j,hj,he⟩;exact⟨hw,j,by omega,he⟩
 ·rintro⟨hw,j,hj,he⟩;by_cases pG:j=k
  ·subst pG;have h0:=hs i hi he;rw[h0]at hw;cases hw
  ·exact⟨hw,j,by omega,he⟩
theorem Gr.mh.ps{c:Nat}(h:Gr.mh f t k F)(ht:t k=(c:Int))(hs:Gr.aS (f c)=false):Gr.mh f t (k+1) F:=by
 refine h.ue fun c' _ h'=>?_;obtain rfl:c'=c:=by omega
 exact hs
theorem Gr.mh.set{c:Nat}(h:Gr.mh f t k F)(ht:t k=(c:Int))(hw:Gr.aS (f c)=true):Gr.mh f t (k+1) (Gr.dj F c 0):=by
 refine⟨fun i hi=>?_,fun i hi=>?_⟩
 ·by_cases e:i=c
  ·rw[e,Gr.fV];exact .inl rfl
  ·rw[Gr.ic F _ e];exact h.jS i hi
 ·by_cases e:i=c
  ·subst e;rw[Gr.fV];exact⟨fun _=>⟨hw,k,by omega,ht⟩,fun _=>rfl⟩
  ·rw[Gr.ic F _ e,h.zero i hi];constructor
   ·rintro⟨hw,j,hj,he⟩;exact⟨hw,j,by omega,he⟩
   ·rintro⟨hw,j,hj,he⟩;exact⟨hw,j,by by_cases pG:j=k;(subst pG;omega);omega,he⟩
structure Gr.oc(F:N1)(k:Nat)(row:List Nat):Prop where
 mem:∀i,i∈row↔i<k/\0<=F i
 cnt:row.length=Gr.cnt F k
theorem Gr.oc.none(F:N1):Gr.oc F 0 []:=⟨fun i=>by simp,rfl⟩
theorem Gr.oc.add(h:Gr.oc F k row)(hk:0<=F k):Gr.oc F (k+1) (row++[k]):=by
 refine⟨fun i=>?_,?_⟩
 ·rw[List.mem_append,h.mem i,List.mem_singleton];constructor
  ·rintro(⟨a,b⟩|rfl)
   ·exact⟨by omega,b⟩
   ·exact⟨by omega,hk⟩
  ·rintro⟨a,b⟩;by_cases e:i=k
   ·exact .inr e
   ·exact .inl ⟨by omega,b⟩
 ·unfold Gr.cnt;rw[abP hk,List.length_append,h.cnt];rfl
theorem Gr.oc.ue(h:Gr.oc F k row)(hk:¬0<=F k):Gr.oc F (k+1) row:=by
 refine⟨fun i=>?_,?_⟩
 ·rw[h.mem i];constructor
  ·rintro⟨a,b⟩;exact⟨by omega,b⟩
  ·rintro⟨a,b⟩;exact⟨by by_cases e:i=k;(subst e;exact absurd b hk);omega,b⟩
 ·unfold Gr.cnt;rw[abO hk,h.cnt];rfl
theorem Gr.oc.inv{op:Nat->Prop}{cv:Nat}(h:Gr.oc F 384 row)(hm:Gr.mh f t cv F):Gr.nH op (Gr.FJ f t cv) F row 0 0 :=
 Gr.nH.start hm.jS hm.zero (fun i hi=>by rw[h.mem];exact⟨fun a=>⟨hi,a⟩,fun a=>a.2⟩) (fun i hi=>((h.mem i).1 hi).1) h.cnt
theorem Gr.Qr(f:N1)(c:Nat)(h:c<384):Gr.at 384 f ((c:Int)%24) ((c:Int)/24)=f c:=by
 rw[Gr.zX 384 f c (by omega),Gr.Lc f c h]
theorem n8(ca ba ta:Option Addr)(blen cv cc bc tc:Nat)(f t:N1)(g:Nat->Bool)(w:World)(hc:il w.heap.size w ca 384 (aZ f))(hf:∀i,0<=f i/\f i<=255)(hb:il w.heap.size w ba blen (mc g))(ht:il w.heap.size w ta cv (bB t))(K6:∀i,-9223372036854775808<=t i/\t i<=9223372036854775807):Calls prog 62 #[.slice ca 384 cc,.slice ba blen bc,.slice ta cv tc] w (xB w (fun i=>Gr.dt f blen g i=true) (Gr.FJ f t cv)):=by
 have hm:cv<=9223372036854775807:=ht.1;have YQ:blen<=9223372036854775807:=hb.1;have fD:=aa hc;have fb:=aa hf;have pF:=aa hb;have oA:=aa ht;have zQ:=aa K6;obtain⟨i0,hi,dJ,dz,ed⟩:=info_parts gX;clear hc hf hb ht K6;obtain⟨G,hG⟩:∃G,G=w.heap.size:=⟨_,rfl⟩;rw[<-hG]at fD pF oA;have kw:=aa hG;clear hG;go_enter func62,ntmps62;go_wp2_with (at_make;refine wpList_make_full _ rfl _ _ 38 rfl G 3 i0 (.int .i64 0) 1 underlying38 hi dJ dz .i64 .i64 _ _ 384 rfl rfl rfl rfl ?q3 ?q4 (Nat.le_of_eq (uh kw)) ?_)
 case q3=>rw[ed];omega
 case q4=>unfold maxLen;omega
 intro w2 aH az;rw[<-uh kw]at aH|-;have hA:=aa (ax.zero aH);have hB0:Below G w w2:=(Below.refl _ _).grown az (Nat.le_of_eq (uh kw)) (by intro k hk;cases hk);clear aH az;go_wp2_with fail;go_loopw [8] (fun i wr=>∃k:Nat,k<=384/\i=.int .i64 k/\ax wr G 3 384 (fun j=>.int .i64 (if j<k then -1 else 0))/\Below G w wr) (fun i _=>384-(intOf i).toNat)
 case atStart=>exact⟨0,Nat.zero_le _,rfl,(uh hA).congr fun j _=>by rw[abO (Nat.not_lt_zero _)],hB0⟩
 case round =>
  obtain⟨k,hk,rfl,dP,pQ⟩:=hrel;have dF:=aa dP;clear dP hA hB0;by_cases hlt:k<384
  ·have ya:=(uh dF).cell hlt;have Jm:=(uh dF).free k;have hlt':(k:Int)<384:=by omega
   have HL:=aa hlt;clear hlt hk;go_wp2;go_roundw
   case rel=>exact⟨k+1,by have:=uh HL;omega,by go_num,((uh dF).store k _).congr fun j _=>mX (g:=fun _=>-1) rfl j,pQ.setCell (abL _) _⟩
   case measure=>have:=uh HL;simp[intOf];omega
  ·have hge:¬(k:Int)<384:=by omega
   have hA:=aa ((uh dF).congr (G:=bB fun _=>-1) fun j hj=>by rw[abP (by omega)];rfl);clear dF hk hlt;go_wp2_with fail;clear hge;go_loopw [9] (fun i wr=>∃(k:Nat)(F:N1),k<=cv/\i=.int .i64 k/\ax wr G 3 384 (bB F)/\Gr.mh f t k F/\Below G w wr) (fun i _=>cv-(intOf i).toNat)
   case atStart=>exact⟨0,_,Nat.zero_le _,rfl,uh hA,Gr.mh.none f t,pQ⟩
   case round =>
    clear hA pQ;obtain⟨k,F,hk,rfl,hA,hM,hB⟩:=hrel;have qG:=aa hM;have dP:=aa hA;clear hM hA;by_cases hlt:k<cv
    ·have sK:=aa ((uh fD).kept hB);obtain⟨b,off,rfl,_,hcell⟩:=((uh oA).kept hB).at hlt;have hlt':(k:Int)<(cv:Int):=(by omega);obtain⟨tb1,tb2⟩:=(uh zQ) k;obtain⟨z,hz⟩:∃z,z=t k:=⟨_,rfl⟩;have vv:wr.cell? ⟨b,off+k,none⟩=some (.int .i64 z):=by rw[hz];exact hcell
     rw[<-hz]at tb1 tb2;have kW:=aa hz;clear hcell hz;by_cases aaA:0<=z
     ·by_cases aaB:z<384
      ·obtain⟨c,nM⟩:∃c:Nat,z=(c:Int):=⟨z.toNat,by omega⟩;subst nM;have mw:c<384:=(by omega);have iG:=Gr.Qr f c mw;have WJ:wr.cell? ⟨G,c,none⟩=some (.int .i64 (F c)):=(uh dP).cell mw;have Um:=(uh dP).free c;by_cases sk:Gr.aS (f c)=true
       ·have ou:=aa ((uh qG).set (uh kW).symm sk);go_wp2_with (first| (go_at_call 87;refine abW (bA _ _ _) ?_)|(go_at_call 40;refine abW (bM G _ _ _ f _ _ _ (uh sK) (uh fb)) ?_)|(go_at_call 46;refine abW (cT _ _) ?_));go_roundw
        case rel=>exact⟨k+1,_,by omega,by go_num,(uh dP).dj 0,uh ou,hB.setCell (abL _) _⟩
        case measure=>simp[intOf];omega
       ·have L5:Gr.aS (f c)=false:=by simpa using sk
        have ou:=aa ((uh qG).ps (uh kW).symm L5);clear sk;go_wp2_with (first| (go_at_call 87;refine abW (bA _ _ _) ?_)|(go_at_call 40;refine abW (bM G _ _ _ f _ _ _ (uh sK) (uh fb)) ?_)|(go_at_call 46;refine abW (cT _ _) ?_));go_roundw
        case rel=>exact⟨k+1,F,by omega,by go_num,uh dP,uh ou,hB⟩
        case measure=>simp[intOf];omega
      ·have ou:=aa ((uh qG).ue (fun c hc h=>absurd aaB (by have:=uh kW;omega)));go_wp2_with (first| (go_at_call 87;refine abW (bA _ _ _) ?_)|(go_at_call 40;refine abW (bM G _ _ _ f _ _ _ (uh sK) (uh fb)) ?_)|(go_at_call 46;refine abW (cT _ _) ?_));go_roundw
       case rel=>exact⟨k+1,F,by omega,by go_num,uh dP,uh ou,hB⟩
       case measure=>simp[intOf];omega
     ·have ou:=aa ((uh qG).ue (fun c hc h=>absurd aaA (by have:=uh kW;omega)));go_wp2_with (first| (go_at_call 87;refine abW (bA _ _ _) ?_)|(go_at_call 40;refine abW (bM G _ _ _ f _ _ _ (uh sK) (uh fb)) ?_)|(go_at_call 46;refine abW (cT _ _) ?_));go_roundw
      case rel=>exact⟨k+1,F,by omega,by go_num,uh dP,uh ou,hB⟩
      case measure=>simp[intOf];omega
    ·have hge:¬(k:Int)<(cv:Int):=(by omega);have hkt:k=cv:=(by omega);subst k;go_wp2_with fail;clear hge hlt hk;have KJ:G<wr.heap.size:=(uh dP).lt;go_loopw [11,12] (fun v i ws=>∃(j:Nat)(row:List Nat),j<=384/\i=.int .i64 j/\ws.ownsRow (G+1) 3 1 v row.length ((dD row).map (Value.int .i64))/\ax ws G 3 384 (bB F)/\Gr.oc F j row/\Below G w ws) (fun _ i _=>384-(intOf i).toNat)
     case atStart=>exact⟨0,[],Nat.zero_le _,rfl,World.ownsRow_nil _ _ _ _,uh dP,Gr.oc.none F,hB⟩
     case round =>
      clear dP hB KJ;obtain⟨j,row,hj,rfl,aH,hA,hR,hB⟩:=hrel;have MU:=aa hR;have dP:=aa hA;have aR:=aa aH;have Vw:G<wr.heap.size:=hA.lt;have UP:row.length<=384:=by have h:=Gr.I3 F j;rw[<-hR.cnt]at h;omega
      clear hR hA aH;by_cases hlt:j<384
      ·have ya:wr.cell? ⟨G,j,none⟩=some (.int .i64 (F j)):=(uh dP).cell hlt;have hlt':(j:Int)<384:=(by omega);have NK:=(uh qG).jS j hlt;have HL:=aa hlt;clear hlt hj;by_cases hz:F j=0
       ·have kW:(F j==0)=true:=by simpa using hz
        have zv:=aa ((uh MU).add (by omega));clear hz NK;go_wp2_with (at_builtin;refine wpList_append_own _ rfl _ _ 38 rfl (G+1) 3 i0 (.int .i64 0) 1 8 underlying38 hi dJ dz ed rfl (by decide) _ _ _ rfl ((uh aR).alloc _) ⟨wr.heap.size,0,none⟩ 1 1 [.int .i64 (j:Int)] rfl rfl ?c1 ?c2 ?c3 ?c4 ?c5 ?_)
        case c1=>exact eS _ _ _ _ rfl
        case c2=>intro u hu;simp at hu;subst hu;rfl
        case c3=>unfold maxLen;omega
        case c4=>omega
        case c5=>simp;omega
        intro v' w1 ev az _;rw[fS]at ev;have gj:Hid (w1.ownsRow (G+1) 3 1 v' (row++[j]).length ((dD (row++[j])).map (Value.int .i64))):=by rw[List.length_append];exact ev
        have dF:=aa (((uh dP).alloc _).grown az (fun e=>by have:=((uh aR).lt _ e).1;omega));have pA:Below G w w1:=(hB.alloc (by omega) _).grown az (by simp;omega) (fun m hm=>by have:=((uh aR).lt m hm).1;omega);clear ev az aR dP MU ya;go_wp2;go_roundw
        case rel=>exact⟨j+1,row++[j],by have:=uh HL;omega,by go_num,uh gj,uh dF,uh zv,pA⟩
        case measure=>have:=uh HL;simp[intOf];omega
       ·have kW:(F j==0)=false:=by simpa using hz
        have zv:=aa ((uh MU).ue (by rcases NK with h|h <;> omega));clear hz NK;go_wp2;go_roundw
        case rel=>exact⟨j+1,row,by have:=uh HL;omega,by go_num,uh aR,uh dP,uh zv,hB⟩
        case measure=>have:=uh HL;simp[intOf];omega
      ·have hge:¬(j:Int)<384:=(by omega);obtain rfl:j=384:=(by omega);have hI:=aa ((uh MU).inv (op:=fun i=>Gr.dt f blen g i=true) (uh qG));clear hlt hj MU;go_wp2_with fail;clear hge qG;go_loopw [11,13] (fun v i ws=>∃(k:Nat)(row:List Nat)(F:N1),k<=row.length/\i=.int .i64 k/\ws.ownsRow (G+1) 3 1 v row.length ((dD row).map (Value.int .i64))/\ax ws G 3 384 (bB F)/\Gr.nH (fun i=>Gr.dt f blen g i=true) (Gr.FJ f t cv) F row k 0/\Below G w ws) (fun _ i _=>384-(intOf i).toNat)
       case atStart=>exact⟨0,row,F,Nat.zero_le _,rfl,uh aR,uh dP,uh hI,hB⟩
       case round =>
        clear dP hB hI aR Vw UP;obtain⟨k,row,F,hk,rfl,aH,hA,hI,hB⟩:=hrel;have oy:=aa hI;have dP:=aa hA;have aR:=aa aH;have Vw:G<wr.heap.size:=hA.lt;have UP:row.length<=384:=hI.len;obtain⟨ra,RP,hra,yg⟩:=Fs (G:=G) aH (by omega) (by unfold maxLen;omega);subst hra;clear hI hA aH;by_cases hlt:k<row.length
        ·obtain⟨b,off,rfl,hcell⟩:=yg.at (abF _ _) hlt;obtain⟨c,vu⟩:∃c,c=row[k]?.getD 0:=⟨_,rfl⟩;have vv:wr.cell? ⟨b,off+k,none⟩=some (.int .i64 (c:Int)):=by rw[vu];exact hcell
         have mw:c<384:=by rw[vu];exact((uh oy).lt hlt).1
         have hlt':(k:Int)<(row.length:Int):=(by omega);have aaV:k<384:=(by omega);have nc:=aa vu;clear hcell vu yg;go_wp2_with fail;clear vv;have aK:Gr.nH (fun i=>Gr.dt f blen g i=true) (Gr.FJ f t cv) F ([]++row++[]) (([]:List Nat).length+k) 0:=by simpa using uh oy
         go_loopw [11,15] (fun v i ws=>∃(d:Nat)(ny:List Nat)(F:N1),d<=4/\i=.int .i64 d/\ws.ownsRow (G+1) 3 1 v (row++ny).length ((dD (row++ny)).map (Value.int .i64))/\ax ws G 3 384 (bB F)/\Gr.nH (fun i=>Gr.dt f blen g i=true) (Gr.FJ f t cv) F ([]++row++ny) (([]:List Nat).length+k) d/\Below G w ws) (fun _ i _=>4-(intOf i).toNat)
         case atStart=>exact⟨0,[],F,by omega,rfl,by rw[List.append_nil];exact uh aR,uh dP,aK,hB⟩
         case round =>
          clear aK oy dP aR hB Vw UP;obtain⟨d,ny,F,hd4,rfl,aH,hA,hI,hB⟩:=hrel;have oy:=aa hI;have dP:=aa hA;have aR:=aa aH;have Vw:G<wr.heap.size:=hA.lt;have sK:=aa ((uh fD).kept hB);have Jg:=aa ((uh pF).kept hB);obtain⟨f1,f2,_⟩:=OH hI hlt (uh nc);have f3:(row++ny).length<=384:=by have h:=hI.len;simpa using h
          have IJ:wr.cell? ⟨G,c,none⟩=some (.int .i64 (F c)):=hA.cell mw;have oS:(c:Int)<384:=(by omega);clear hI hA aH;by_cases hd:d<4
          ·have jL:(d:Int)<4:=(by omega);have zJ:=Gr.OF c d (Gr.dxOf d) (Gr.dyOf d) rfl rfl;by_cases cU:Gr.iK c d
           ·have ua:=zJ.2 cU;obtain⟨bb,KR⟩:∃bb,bb=Gr.gA c d:=⟨_,rfl⟩;have NX:bb<384:=by rw[KR];exact Gr.yr cU
            have PZ:((c:Int)/24+Gr.dyOf d)*24+((c:Int)%24+Gr.dxOf d)=(bb:Int):=by
             have:=Gr.tI cU;rw[<-KR]at this;omega
            have iG:=Gr.Nl (f:=f) ua PZ;have zB:=aa KR;have LS:=aa cU;have Uj:wr.cell? ⟨G,bb,none⟩=some (.int .i64 (F bb)):=(uh dP).cell NX;have Um:wr.frozen? ⟨G,bb,none⟩=false:=(uh dP).free bb;have jf:(bb:Int)<384:=(by omega);clear KR cU zJ;by_cases dH:F bb<0
            ·by_cases sk:Gr.aS (f bb)=true
             ·by_cases Ug:bb<blen
              ·have Z4:(bb:Int)<(blen:Int):=(by omega);obtain⟨qb,qo,rfl,_,MY⟩:=(uh Jg).at Ug;have abj:wr.cell? ⟨qb,qo+bb,none⟩=some (.bool (g bb)):=MY;clear MY;by_cases tZ:g bb=true
               ·have ho:Gr.dt f blen g bb=false:=by rw[Gr.Fp sk Ug,tZ];rfl
                have LZ:=aa (kj (uh oy) hlt (uh nc) hd (fun _ h=>absurd h (by rw[<-uh zB,ho];simp)));clear ho;rcases(show d=0\/d=1\/d=2\/d=3 by omega)with rfl|rfl|rfl|rfl
                all_goals
                 simp only[Gr.dxOf,Gr.dyOf,Int.add_zero,Int.add_neg_eq_sub]at ua PZ iG;go_wp2_with (first| (go_at_call 87;refine abW (bA _ _ _) ?_)|(go_at_call 40;refine abW (bM G _ _ _ f _ _ _ (uh sK) (uh fb)) ?_)|(go_at_call 46;refine abW (cT _ _) ?_));go_roundw
                 case rel=>exact⟨_,ny,F,by omega,by go_num,uh aR,uh dP,uh LZ,hB⟩
                 case measure=>simp[intOf]
               ·have aah:g bb=false:=by simpa using tZ
                have ho:Gr.dt f blen g bb=true:=by rw[Gr.Fp sk Ug,aah];rfl
                clear tZ;have Xf:=aa (sX (uh oy) hlt (uh nc) hd (uh LS) (uh zB) ho dH);clear ho;rcases(show d=0\/d=1\/d=2\/d=3 by omega)with rfl|rfl|rfl|rfl
                all_goals
                 simp only[Gr.dxOf,Gr.dyOf,Int.add_zero,Int.add_neg_eq_sub]at ua PZ iG;go_wp2_with (first| (go_at_call 87;refine abW (bA _ _ _) ?_)|(go_at_call 40;refine abW (bM G _ _ _ f _ _ _ (uh sK) (uh fb)) ?_)|(go_at_call 46;refine abW (cT _ _) ?_)|(at_builtin;refine wpList_append_own _ rfl _ _ 38 rfl (G+1) 3 i0 (.int .i64 0) 1 8 underlying38 hi dJ dz ed rfl (by decide) _ _ _ rfl ((ownsRow_setCell_below (uh aR) (Nat.lt_succ_self G) _).alloc _) ⟨wr.heap.size,0,none⟩ 1 1 [.int .i64 (bb:Int)] rfl rfl ?_ ?_ ?_ ?_ ?_ ?_))
                 ·exact eS _ _ _ _ (by simp)
                 ·intro u hu;simp at hu;subst hu;rfl
                 ·unfold maxLen;omega
                 ·omega
                 ·simp;omega
                 intro v' w1 ev az _;rw[fS,List.append_assoc]at ev;have gj:Hid (w1.ownsRow (G+1) 3 1 v' (row++(ny++[bb])).length ((dD (row++(ny++[bb]))).map (Value.int .i64))):=by rw[show(row++(ny++[bb])).length=row.length+ny.length+1 by simp;omega];exact ev
                 have dF:=aa ((((uh dP).dj (F c+1)).alloc _).grown az (fun e=>by have:=((uh aR).lt _ e).1;omega));have pA:Below G w w1:=((hB.setCell (abL _) _).alloc (by simp;omega) _).grown az (by simp;omega) (fun m hm=>by have:=((uh aR).lt m hm).1;omega);clear ev az aR dP oy Uj Um IJ sK Jg;go_wp2;go_roundw
                 case rel=>exact⟨_,ny++[bb],_,by omega,by go_num,uh gj,uh dF,uh Xf,pA⟩
                 case measure=>simp[intOf]
              ·have Z4:(blen:Int)<=(bb:Int):=(by omega);have ho:Gr.dt f blen g bb=true:=Gr.sZ sk Ug;have Xf:=aa (sX (uh oy) hlt (uh nc) hd (uh LS) (uh zB) ho dH);clear ho;rcases(show d=0\/d=1\/d=2\/d=3 by omega)with rfl|rfl|rfl|rfl
               all_goals
                simp only[Gr.dxOf,Gr.dyOf,Int.add_zero,Int.add_neg_eq_sub]at ua PZ iG;go_wp2_with (first| (go_at_call 87;refine abW (bA _ _ _) ?_)|(go_at_call 40;refine abW (bM G _ _ _ f _ _ _ (uh sK) (uh fb)) ?_)|(go_at_call 46;refine abW (cT _ _) ?_)|(at_builtin;refine wpList_append_own _ rfl _ _ 38 rfl (G+1) 3 i0 (.int .i64 0) 1 8 underlying38 hi dJ dz ed rfl (by decide) _ _ _ rfl ((ownsRow_setCell_below (uh aR) (Nat.lt_succ_self G) _).alloc _) ⟨wr.heap.size,0,none⟩ 1 1 [.int .i64 (bb:Int)] rfl rfl ?_ ?_ ?_ ?_ ?_ ?_))
                ·exact eS _ _ _ _ (by simp)
                ·intro u hu;simp at hu;subst hu;rfl
                ·unfold maxLen;omega
                ·omega
                ·simp;omega
                intro v' w1 ev az _;rw[fS,List.append_assoc]at ev;have gj:Hid (w1.ownsRow (G+1) 3 1 v' (row++(ny++[bb])).length ((dD (row++(ny++[bb]))).map (Value.int .i64))):=by rw[show(row++(ny++[bb])).length=row.length+ny.length+1 by simp;omega];exact ev
                have dF:=aa ((((uh dP).dj (F c+1)).alloc _).grown az (fun e=>by have:=((uh aR).lt _ e).1;omega));have pA:Below G w w1:=((hB.setCell (abL _) _).alloc (by simp;omega) _).grown az (by simp;omega) (fun m hm=>by have:=((uh aR).lt m hm).1;omega);clear ev az aR dP oy Uj Um IJ sK Jg;go_wp2;go_roundw
                case rel=>exact⟨_,ny++[bb],_,by omega,by go_num,uh gj,uh dF,uh Xf,pA⟩
                case measure=>simp[intOf]
             ·have L5:Gr.aS (f bb)=false:=by simpa using sk
              have ho:Gr.dt f blen g bb=false:=Gr.Fq L5;have LZ:=aa (kj (uh oy) hlt (uh nc) hd (fun _ h=>absurd h (by rw[<-uh zB,ho];simp)));clear ho sk;rcases(show d=0\/d=1\/d=2\/d=3 by omega)with rfl|rfl|rfl|rfl
              all_goals
               simp only[Gr.dxOf,Gr.dyOf,Int.add_zero,Int.add_neg_eq_sub]at ua PZ iG;go_wp2_with (first| (go_at_call 87;refine abW (bA _ _ _) ?_)|(go_at_call 40;refine abW (bM G _ _ _ f _ _ _ (uh sK) (uh fb)) ?_)|(go_at_call 46;refine abW (cT _ _) ?_));go_roundw
               case rel=>exact⟨_,ny,F,by omega,by go_num,uh aR,uh dP,uh LZ,hB⟩
               case measure=>simp[intOf]
            ·have LZ:=aa (kj (uh oy) hlt (uh nc) hd (fun _ _=>by rw[<-uh zB];omega));rcases(show d=0\/d=1\/d=2\/d=3 by omega)with rfl|rfl|rfl|rfl
             all_goals
              simp only[Gr.dxOf,Gr.dyOf,Int.add_zero,Int.add_neg_eq_sub]at ua PZ iG;go_wp2_with (first| (go_at_call 87;refine abW (bA _ _ _) ?_)|(go_at_call 40;refine abW (bM G _ _ _ f _ _ _ (uh sK) (uh fb)) ?_)|(go_at_call 46;refine abW (cT _ _) ?_));go_roundw
              case rel=>exact⟨_,ny,F,by omega,by go_num,uh aR,uh dP,uh LZ,hB⟩
              case measure=>simp[intOf]
           ·have ua:Gr.iS ((c:Int)%24+Gr.dxOf d) ((c:Int)/24+Gr.dyOf d)=false:=by
             cases hh:Gr.iS ((c:Int)%24+Gr.dxOf d) ((c:Int)/24+Gr.dyOf d)with
             | false=>rfl
             | true=>exact absurd (zJ.1 hh) cU
            have LZ:=aa (kj (uh oy) hlt (uh nc) hd (fun h _=>absurd h cU));clear cU zJ;have iG:True:=trivial;have PZ:True:=trivial;rcases(show d=0\/d=1\/d=2\/d=3 by omega)with rfl|rfl|rfl|rfl
            all_goals
             simp only[Gr.dxOf,Gr.dyOf,Int.add_zero,Int.add_neg_eq_sub]at ua PZ iG;go_wp2_with (first| (go_at_call 87;refine abW (bA _ _ _) ?_)|(go_at_call 40;refine abW (bM G _ _ _ f _ _ _ (uh sK) (uh fb)) ?_)|(go_at_call 46;refine abW (cT _ _) ?_));go_roundw
             case rel=>exact⟨_,ny,F,by omega,by go_num,uh aR,uh dP,uh LZ,hB⟩
             case measure=>simp[intOf]
          ·have jL:¬(d:Int)<4:=(by omega);obtain rfl:d=4:=(by omega);have gM:Hid (Gr.nH (fun i=>Gr.dt f blen g i=true) (Gr.FJ f t cv) F (row++ny) (k+1) 0):=by
            have h:=(uh oy).next
            rw[List.nil_append,List.length_nil,Nat.zero_add]at h;exact h
           clear oy;go_wp2;go_roundw
           case rel=>exact⟨k+1,row++ny,F,by simp;omega,by go_num,uh aR,uh dP,uh gM,hB⟩
           case measure=>simp[intOf];omega
        ·have hge:¬(k:Int)<(row.length:Int):=(by omega);have ah:=aa ((uh oy).done (by omega));clear yg;go_wp2;go_ret;exact⟨F,⟨G,rfl,Nat.le_of_eq (uh kw).symm,uh dP,by rw[<-uh kw];exact hB⟩,uh ah⟩
