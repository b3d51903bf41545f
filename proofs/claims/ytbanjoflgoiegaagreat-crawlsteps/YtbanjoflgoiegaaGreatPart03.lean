import Derived.Test.YtbanjoflgoiegaaGreatPart02
import Derived.Deep.RegionLaw
import Derived.Lib.SliceRun
set_option maxHeartbeats 4000000
set_option maxRecDepth 8000
namespace Go.Proofs.YtbanjoflgoiegaaGreat
open Go.Proofs.Tryz
open Go.RowKit
theorem qM.zm{w:World}{ar:Nat}{v:Value}{l:List Nat}(h:qM w ar v l):(v=.slice none 0 0/\l=[])\/∃g aG F,v=.slice (some ⟨g,0,none⟩) l.length aG/\ar<=g/\ax w g 3 aG F/\l.length<=aG/\aG<=maxLen/\∀i,i<l.length->F i=.int .i64 ((l[i]?.getD 0:Nat):Int):=by
 rcases h.2 with⟨rfl,h0⟩|⟨g,aG,cD,rfl,hb,hg,hn,hm,hs,ht⟩
 ·exact .inl ⟨rfl,List.eq_nil_of_length_eq_zero h0⟩
 ·refine .inr ⟨g,aG,fun i=>cD[i]?.getD undef,rfl,hb,⟨cD,hg,by omega,fun i hi=>?_⟩,hn,hm,fun i hi=>?_⟩
  ·show cD[i]?=some (cD[i]?.getD undef);rw[Array.getElem?_eq_getElem (by omega)];rfl
  ·show cD[i]?.getD undef=_;have e:(cD.toList.take (l.length*1))[i]?=((dD l).map (Value.int .i64))[i]?:=by rw[ht]
   rw[List.getElem?_take,abP (by omega),Array.getElem?_toList,List.getElem?_map]at e;rw[e,<-qB,abQ (by rw[mA];exact hi)];rfl
theorem qM.back{w:World}{ar g aG:Nat}{l:List Nat}{F:Nat->Value}(hb:ar<=g)(hA:ax w g 3 aG F)(hn:l.length<=aG)(hm:aG<=maxLen)(hF:∀i,i<l.length->F i=.int .i64 ((l[i]?.getD 0:Nat):Int)):qM w ar (.slice (some ⟨g,0,none⟩) l.length aG) l:=by
 obtain⟨cD,hg,hs,hc⟩:=hA;refine⟨by simp[dD],.inr ⟨g,aG,cD,rfl,hb,hg,hn,hm,by omega,?_⟩⟩;apply List.ext_getElem?;intro i;rw[List.getElem?_take,List.getElem?_map,Array.getElem?_toList];by_cases hi:i<l.length
 ·rw[abP (by omega),hc i (by omega),hF i hi,<-qB,abQ (by rw[mA];exact hi)];rfl
 ·rw[abO (by omega),List.getElem?_eq_none (by rw[mA];omega)];rfl
theorem ax.kl{g n:Nat}{T:TypeId}:∀(vs:List Value)(o:Nat)(w:World)(F:Nat->Value),ax w g T n F->ax (w.setCells g o vs) g T n (fun j=>if o<=j/\j<o+vs.length then vs[j-o]?.getD undef else F j)
  | [],o,w,F,h => h.congr fun j _ => by
      show F j=if o<=j/\j<o+0 then _ else F j
      rw[abO (by omega)]
  | v :: vs,o,w,F,h => by
      have h1:=ax.kl vs (o+1) (w.setCell ⟨g,o,none⟩ v) _ (h.store o v)
      refine ax.congr h1 fun j _=>?_
      show(if o+1<=j/\j<o+1+vs.length then vs[j-(o+1)]?.getD undef else if j=o then v else F j)=if o<=j/\j<o+(vs.length+1)then(v :: vs)[j-o]?.getD undef else F j
      by_cases e:j=o
      · rw[abO (by omega),abP e,abP (by omega),e,Nat.sub_self]
        rfl
      · by_cases e2:o+1<=j/\j<o+1+vs.length
        · rw[abP e2,abP (by omega),show j-o=(j-(o+1))+1 by omega]
          rfl
        · rw[abO e2,abO e,abO (by omega)]
theorem gss{a:World}{g:Nat}:∀(vs:List Value)(o:Nat)(b:World),a.grownBy b (some g)->a.grownBy (b.setCells g o vs) (some g)
 | [],_,_,h=>h
 | v :: vs,o,b,h=>gss vs (o+1) (b.setCell ⟨g,o,none⟩ v) (gst h o v)
def Gn.eB(F:N1)(c:Nat):Bool:=!(decide (F c<4))
theorem Ku(F:N1)(gF Bx c:Nat)(w:World)(hx:w.cell? ⟨Bx,0,none⟩=some (.slice (some ⟨gF,0,none⟩) 384 384))(hF:ax w gF 3 384 (bB F))(hc:c<384):Calls prog 136 #[.int .i64 (c:Int),.pointer (some ⟨Bx,0,none⟩)] w fun e w'=>e=.returned (.bool (decide (F c<4)))/\w'=w:=by
 have q:w.cell? ⟨gF,c,none⟩=some (.int .i64 (F c)):=hF.cell hc;have fD:(c:Int)<384:=by omega
 clear hF;go_enter func136,ntmps136;go_wp2;go_ret;exact⟨rfl,rfl⟩
theorem pT(F:N1)(gF Bx g aG:Nat)(l:List Nat)(w:World)(H:Nat->Value)(hx:w.cell? ⟨Bx,0,none⟩=some (.slice (some ⟨gF,0,none⟩) 384 384))(hF:ax w gF 3 384 (bB F))(hA:ax w g 3 aG H)(hl:l.length<=aG)(hn:l.length<=384)(hH:∀i,i<l.length->H i=.int .i64 ((l[i]?.getD 0:Nat):Int))(hc:∀i,i<l.length->l[i]?.getD 0<384)(r:Int)(hr:(r=-1/\∀i,i<l.length->Gn.eB F (l[i]?.getD 0)=true)\/∃m:Nat,r=(m:Int)/\m<l.length/\Gn.eB F (l[m]?.getD 0)=false/\∀i,i<m->Gn.eB F (l[i]?.getD 0)=true):Calls prog 164 #[.slice (some ⟨g,0,none⟩) l.length aG,.func (.func 136) #[] #[.pointer (some ⟨Bx,0,none⟩)]] w fun e w'=>e=.returned (.int .i64 r)/\w'=w:=by
 have cd:Hid (∀c:Nat,c<384->Calls prog 136 #[.int .i64 (c:Int),.pointer (some ⟨Bx,0,none⟩)] w fun e w'=>e=.returned (.bool (decide (F c<4)))/\w'=w):=fun c h=>Ku F gF Bx c w hx hF h;have jr:=aa hA;have hH':=aa hH;have fD:=aa hc;have hr':=aa hr;obtain⟨n,KY⟩:∃n,n=l.length:=⟨_,rfl⟩;rw[<-KY]at hl hn|-;have ju:=aa KY;clear hA hH hc hx hF KY hr;go_enter func164,ntmps164;go_wp2_with fail;go_loop [8] (fun i=>∃k:Nat,k<=n/\i=.int .i64 (k:Int)/\∀j,j<k->Gn.eB F (l[j]?.getD 0)=true) (fun i=>400-(intOf i).toNat)
 case atStart=>exact⟨0,by omega,rfl,fun j hj=>by omega⟩
 case round =>
  obtain⟨k,hk,rfl,hno⟩:=hrel;have aT:=aa hno;clear hno;by_cases hlt:k<n
  ·have LU:k<l.length:=by have:=uh ju;omega
   obtain⟨c,vu⟩:∃c,c=l[k]?.getD 0:=⟨_,rfl⟩;have q:w.cell? ⟨g,k,none⟩=some (.int .i64 (c:Int)):=by rw[(uh jr).cell (by omega),uh hH' k LU,vu]
   have mw:c<384:=by rw[vu];exact uh fD k LU
   have hlt':(k:Int)<(n:Int):=by omega
   have nc:=aa vu;have HL:=aa hlt;have HK:=aa LU;clear vu hlt LU;go_wp2_with fail;refine abW (uh cd c mw) ?_;by_cases KI:F c<4
   ·have he:Hid (r=(k:Int)):=by
     have ha:Gn.eB F (l[k]?.getD 0)=false:=by rw[<-uh nc];simp[Gn.eB,KI]
     rcases uh hr' with⟨_,h⟩|⟨m,hm,Xg,UA,VK⟩
     ·have:=h k (uh HK);rw[ha]at this;cases this
     ·rcases Nat.lt_trichotomy k m with g|g|g
      ·have:=VK k g;rw[ha]at this;cases this
      ·show r=_;rw[hm,g]
      ·have:=uh aT m g;rw[UA]at this;cases this
    go_wp2;go_ret;exact⟨rti (uh he).symm,rfl⟩
   ·have ha:Hid (Gn.eB F (l[k]?.getD 0)=true):=by show Gn.eB F (l[k]?.getD 0)=true;rw[<-uh nc];simp[Gn.eB];omega
    go_wp2
    go_round
    case rel =>
     refine⟨k+1,by have:=uh HL;omega,by go_num,fun j hj=>?_⟩;by_cases pG:j=k
     ·subst pG;exact uh ha
     ·exact uh aT j (by omega)
    case measure=>simp[intOf];omega
  ·have hge:¬(k:Int)<(n:Int):=by omega
   have KU:k=l.length:=by have:=uh ju;omega
   have he:Hid (r=-1):=by
    rcases uh hr' with⟨h,_⟩|⟨m,hm,Xg,UA,VK⟩
    ·exact h
    ·have:=uh aT m (by omega);rw[UA]at this;cases this
   clear KU;go_wp2;go_ret;exact⟨rti (uh he).symm,rfl⟩
variable{F:N1}{j:Nat}{l:List Nat}
theorem xr(fv:Value)(w:World):Calls prog 164 #[.slice none 0 0,fv] w fun e w'=>e=.returned (.int .i64 (-1))/\w'=w:=by
 go_enter func164,ntmps164;go_wp2_with fail;refine wp_loop_rounds 1 ?_;rw[rounds_succ];go_wp2;go_ret;exact⟨rfl,rfl⟩
def Gn.kept(F:N1)(l:List Nat)(j:Nat):List Nat:=(l.take j).filter (Gn.eB F)
theorem Gn.OL(F:N1)(l:List Nat)(j:Nat):(Gn.kept F l j).length<=j:=by
 have h:=List.length_filter_le (Gn.eB F) (l.take j);rw[List.length_take]at h;unfold Gn.kept;omega
theorem Gn.yG(l:List Nat)(j:Nat)(h:j<l.length):l.take (j+1)=l.take j++[l[j]?.getD 0]:=by
 rw[List.take_add_one,abQ h];rfl
theorem Gn.He(h:j<l.length)(ha:Gn.eB F (l[j]?.getD 0)=true):Gn.kept F l (j+1)=Gn.kept F l j++[l[j]?.getD 0]:=by
 unfold Gn.kept;rw[Gn.yG l j h,List.filter_append,List.filter_cons_of_pos ha,List.filter_nil]
theorem Gn.zV(h:j<l.length)(ha:Gn.eB F (l[j]?.getD 0)=false):Gn.kept F l (j+1)=Gn.kept F l j:=by
 unfold Gn.kept;rw[Gn.yG l j h,List.filter_append,List.filter_cons_of_neg (by simp[ha]),List.filter_nil,List.append_nil]
theorem Gn.Hd{m:Nat}(hm:m<=l.length)(ha:∀i,i<m->Gn.eB F (l[i]?.getD 0)=true):Gn.kept F l m=l.take m:=by
 unfold Gn.kept;rw[List.filter_eq_self];intro a aal;obtain⟨i,hi,rfl⟩:=List.getElem_of_mem aal;rw[List.length_take]at hi;have:=ha i (by omega);rw[abQ (by omega)]at this;rw[List.getElem_take];exact this
theorem Gn.NG(F:N1)(l:List Nat):(∀i,i<l.length->Gn.eB F (l[i]?.getD 0)=true)\/∃m,m<l.length/\Gn.eB F (l[m]?.getD 0)=false/\∀i,i<m->Gn.eB F (l[i]?.getD 0)=true:=by
 by_cases h:∃m,m<l.length/\Gn.eB F (l[m]?.getD 0)=false
 ·obtain⟨m0,h0⟩:=h;right
  induction m0 using Nat.strongRecOn with
  | _ m ih =>
   by_cases hc:∃i,i<m/\Gn.eB F (l[i]?.getD 0)=false
   ·obtain⟨i,hi,hf⟩:=hc;exact ih i hi ⟨by omega,hf⟩
   ·refine⟨m,h0.1,h0.2,fun i hi=>?_⟩;cases hh:Gn.eB F (l[i]?.getD 0)with
    | true=>rfl
    | false=>exact absurd ⟨i,hi,hh⟩ hc
 ·left;intro i hi;cases hh:Gn.eB F (l[i]?.getD 0)with
  | true=>rfl
  | false=>exact absurd ⟨i,hi,hh⟩ h
theorem IC:∀w,(zeroValue 3).run prog w=.ok (.int .i64 0) w:=by
 intro w
 kernel_rfl
structure mg(w:World)(ar g aG gF Bx:Nat)(F:N1)(l:List Nat)(j:Nat)(wr:World)(H:Nat->Value):Prop where
 row:ax wr g 3 aG H
 box:wr.cell? ⟨Bx,0,none⟩=some (.slice (some ⟨gF,0,none⟩) 384 384)
 qZ:ax wr gF 3 384 (bB F)
 Qg:∀x,x<(Gn.kept F l j).length->H x=.int .i64 (((Gn.kept F l j)[x]?.getD 0:Nat):Int)
 Oc:∀x,j<=x->x<l.length->H x=.int .i64 ((l[x]?.getD 0:Nat):Int)
 below:Below ar w wr
theorem mg.dc{w:World}{ar g aG gF Bx:Nat}{wr:World}{H:Nat->Value}(h:mg w ar g aG gF Bx F l j wr H)(hb:ar<=g)(h1:gF<ar)(h2:Bx<ar)(hj:j<l.length)(ha:Gn.eB F (l[j]?.getD 0)=true):mg w ar g aG gF Bx F l (j+1) (wr.setCell ⟨g,(Gn.kept F l j).length,none⟩ (.int .i64 ((l[j]?.getD 0:Nat):Int))) (fun x=>if x=(Gn.kept F l j).length then .int .i64 ((l[j]?.getD 0:Nat):Int)else H x):=by
 have hl:=Gn.OL F l j;refine⟨h.row.store _ _,?_,h.qZ.grown (gst (abF _ _) _ _) (by simp;omega),fun x hx=>?_,fun x hx Rl=>?_,h.below.setCell hb _⟩
 ·rw[World.cell?_setCell_other _ _ _ _ (by intro e;have h3:g=Bx:=congrArg Addr.block e;omega)];exact h.box
 ·rw[Gn.He hj ha]at hx|-;rw[List.length_append]at hx;have K8:x<(Gn.kept F l j).length+1:=hx;show(if x=(Gn.kept F l j).length then Value.int .i64 ((l[j]?.getD 0:Nat):Int)else H x)=_;by_cases e:x=(Gn.kept F l j).length
  ·rw[abP e,e];simp
  ·rw[abO e,List.getElem?_append_left (by omega)];exact h.Qg x (by omega)
 ·show(if x=(Gn.kept F l j).length then Value.int .i64 ((l[j]?.getD 0:Nat):Int)else H x)=_;rw[abO (by omega)];exact h.Oc x (by omega) Rl
theorem mg.ue{w:World}{ar g aG gF Bx:Nat}{wr:World}{H:Nat->Value}(h:mg w ar g aG gF Bx F l j wr H)(hj:j<l.length)(ha:Gn.eB F (l[j]?.getD 0)=false):mg w ar g aG gF Bx F l (j+1) wr H:=by
 refine⟨h.row,h.box,h.qZ,fun x hx=>?_,fun x hx Rl=>h.Oc x (by omega) Rl,h.below⟩;rw[Gn.zV hj ha]at hx|-;exact h.Qg x hx
theorem uT(F:N1)(gF Bx ar:Nat)(v:Value)(l:List Nat)(w:World)(hx:w.cell? ⟨Bx,0,none⟩=some (.slice (some ⟨gF,0,none⟩) 384 384))(hF:ax w gF 3 384 (bB F))(hL:qM w ar v l)(h1:gF<ar)(h2:Bx<ar)(hn:l.length<=384)(hc:∀i,i<l.length->l[i]?.getD 0<384):Calls prog 135 #[v,.func (.func 136) #[] #[.pointer (some ⟨Bx,0,none⟩)]] w
   fun e w'=>∃v',e=.returned v'/\qM w' ar v' (l.filter (Gn.eB F))/\Below ar w w':=by
 rcases hL.zm with⟨rfl,rfl⟩|⟨g,aG,H,rfl,hb,hA,P3,hm,hH⟩
 ·have mr:=aa hL;clear hL hc hx hF;go_enter func135,ntmps135;go_wp2_with fail;refine(xr _ _).mono ?_;rintro e w' ⟨rfl,rfl⟩;go_wp2;go_ret;exact⟨_,rfl,uh mr,Below.refl _ _⟩
 ·rcases Gn.NG F l with pD|⟨m,Xg,UA,VK⟩
  ·have GS:=aa (pT F gF Bx g aG l w H hx hF hA P3 hn hH hc (-1) (.inl ⟨rfl,pD⟩));have qH:Hid (l.filter (Gn.eB F)=l):=by
    have h:=Gn.Hd (F:=F) (abL l.length) pD;unfold Gn.kept at h;rw[List.take_length]at h;exact h
   have mr:=aa hL;clear hL hc hx hF hA hH pD;go_enter func135,ntmps135;go_wp2_with fail;refine(uh GS).mono ?_;rintro e w' ⟨rfl,rfl⟩;go_wp2;go_ret;exact⟨_,rfl,by rw[uh qH];exact uh mr,Below.refl _ _⟩
  ·have GS:=aa (pT F gF Bx g aG l w H hx hF hA P3 hn hH hc (m:Int) (.inr ⟨m,rfl,Xg,UA,VK⟩));have gv:Gn.kept F l (m+1)=l.take m:=by rw[Gn.zV Xg UA,Gn.Hd (by omega) VK]
   have Ux:(Gn.kept F l (m+1)).length=m:=by rw[gv,List.length_take];omega
   have wO:Hid (mg w ar g aG gF Bx F l (m+1) w H):=by
    refine⟨hA,hx,hF,fun x Rl=>?_,fun x _ Rl=>hH x Rl,Below.refl _ _⟩;rw[Ux]at Rl;rw[hH x (by omega),gv,List.getElem?_take,abP Rl]
   have fD:=aa hc;have W8:=aa Ux;have abo:=aa Xg;obtain⟨n,KY⟩:∃n,n=l.length:=⟨_,rfl⟩;rw[<-KY]at GS P3 hn|-;have ju:=aa KY;have hmn:(m:Int)+1<=(n:Int):=by omega
   have ow:((m:Int)==-1)=false:=by rw[beq_eq_false_iff_ne];omega
   have mf:aG<=9223372036854775807:=hm;clear hL hc hx hF hA hH gv Ux UA VK KY hm;go_enter func135,ntmps135;go_wp2_with fail;refine abW (uh GS) ?_;go_wp2_with fail;go_loopw [5,6] (fun vi vj wr=>∃(i j:Nat)(H:Nat->Value),j<=n/\m+1<=j/\i<j/\vi=.int .i64 (i:Int)/\vj=.int .i64 (j:Int)/\i=(Gn.kept F l j).length/\mg w ar g aG gF Bx F l j wr H) (fun _ vj _=>400-(intOf vj).toNat)
   case atStart=>exact⟨m,m+1,H,by omega,by omega,by omega,rfl,by go_num,(uh W8).symm,uh wO⟩
   case round =>
    obtain⟨i,j,H,hj,hmj,rH,rfl,rfl,hi,hD⟩:=hrel;have KH:=aa hD;have GR:=aa hi;clear hD hi wO W8 GS;by_cases hlt:j<n
    ·have YL:j<l.length:=by have:=uh ju;omega
     obtain⟨c,vu⟩:∃c,c=l[j]?.getD 0:=⟨_,rfl⟩;have q:wr.cell? ⟨g,j,none⟩=some (.int .i64 (c:Int)):=by rw[(uh KH).row.cell (by omega),(uh KH).Oc j (abL _) YL,vu]
     have mw:c<384:=by rw[vu];exact uh fD j YL
     have hlt':(j:Int)<(n:Int):=(by omega);have nc:=aa vu;have HJ:=aa YL;have cU:(i:Int)<(n:Int):=(by omega);have q2:=(uh KH).row.cell (i:=i) (by omega);have q3:=(uh KH).row.free i;have qw:=aa (Ku F gF Bx c wr (uh KH).box (uh KH).qZ mw);clear vu YL;go_wp2_with fail;refine abW (uh qw) ?_;by_cases KI:F c<4
     ·have ha:Gn.eB F (l[j]?.getD 0)=false:=by rw[<-uh nc];simp[Gn.eB,KI]
      have IG:=aa ((uh KH).ue (uh HJ) ha);have hi2:Hid (i=(Gn.kept F l (j+1)).length):=by show i=_;rw[Gn.zV (uh HJ) ha];exact uh GR
      clear ha qw;go_wp2;go_roundw
      case rel=>exact⟨i,j+1,H,by omega,by omega,by omega,rfl,by go_num,uh hi2,uh IG⟩
      case measure=>simp[intOf];omega
     ·have ha:Gn.eB F (l[j]?.getD 0)=true:=by rw[<-uh nc];simp[Gn.eB];omega
      have IG:=(uh KH).dc hb h1 h2 (uh HJ) ha;rw[<-uh nc,<-uh GR]at IG;have hD3:=aa IG;have hi2:Hid (i+1=(Gn.kept F l (j+1)).length):=by show i+1=_;rw[Gn.He (uh HJ) ha,List.length_append,<-uh GR];rfl
      have abh:decide (F c<4)=false:=by simpa using KI
      clear ha qw IG KI;go_wp2;go_roundw
      case rel=>exact⟨i+1,j+1,_,by omega,by omega,by omega,by go_num,by go_num,uh hi2,uh hD3⟩
      case measure=>simp[intOf];omega
    ·have hge:¬(j:Int)<(n:Int):=(by omega);have VI:j=l.length:=by have:=uh ju;omega
     have LU:Gn.kept F l l.length=l.filter (Gn.eB F):=by unfold Gn.kept;rw[List.take_length]
     have hil:i=(l.filter (Gn.eB F)).length:=by rw[<-LU,<-VI];exact uh GR
     have cU:(i:Int)<(n:Int):=(by omega);have ah:Hid (qM (wr.setCells g i (List.replicate (n-i) (.int .i64 0))) ar (.slice (some ⟨g,0,none⟩) i aG) (l.filter (Gn.eB F))):=by
      have dF:=ax.kl (List.replicate (n-i) (Value.int .i64 0)) i wr H (uh KH).row
      have h:=qM.back (l:=l.filter (Gn.eB F)) hb dF (by omega) mf (fun x hx=>by
       show(if i<=x/\x < _ then _ else H x)=_
       rw[abO (by omega),(uh KH).Qg x (by rw[VI,LU];exact hx),VI,LU])
      rw[<-hil]at h;exact h
     have nb:Hid (Below ar w (wr.setCells g i (List.replicate (n-i) (.int .i64 0)))):=by
      have hgr:=gss (List.replicate (n-i) (Value.int .i64 0)) i wr (abF wr (some g));exact(uh KH).below.grown hgr (by have:=(uh KH).row.lt;omega) (fun k hk=>by cases hk;omega)
     have iu:∀ty,(Builtin.clear_ #[38] ty #[.slice (some ⟨g,i,none⟩) (n-i) (aG-i)]).run prog wr=.ok (.tuple #[]) (wr.setCells g i (List.replicate (n-i) (.int .i64 0))) :=
      fun ty=>Lib.run_clear_slice wr _ _ ty _ underlying38 IC rfl rfl g i _ _ (by omega) (fun t ht=>by rw[(uh KH).row.cell (by omega)];rfl) (fun t ht=>(uh KH).row.free _)
     have aaU:i≠aG:=(by omega);clear VI LU hil;go_wp2;go_ret;exact⟨_,rfl,uh ah,uh nb⟩
theorem Gn.NF(l:List Nat)(i x:Nat):(l.eraseIdx i)[x]?.getD 0=if x<i then l[x]?.getD 0 else l[x+1]?.getD 0:=by
 rw[List.getElem?_eraseIdx];split <;> rfl
theorem qk(ar i j:Nat)(v:Value)(l:List Nat)(w:World)(hL:qM w ar v l)(hn:l.length<=384)(hi:i<l.length)(hj:j=i+1):Calls prog 139 #[v,.int .i64 (i:Int),.int .i64 (j:Int)] w
   fun e w'=>∃v',e=.returned v'/\qM w' ar v' (l.eraseIdx i)/\v'.ownBlock=v.ownBlock/\w.grownBy w' v.ownBlock:=by
 rcases hL.zm with⟨rfl,rfl⟩|⟨g,aG,H,rfl,hb,hA,P3,hm,hH⟩
 ·simp at hi
 ·obtain⟨i0,hi0,dJ,dz,ed⟩:=info_parts gX;have mf:aG<=9223372036854775807:=hm;obtain⟨n,KY⟩:∃n,n=l.length:=⟨_,rfl⟩;obtain⟨news,KX⟩:∃news:List Value,news=(List.range (n-j)).map (fun t=>H (j+t)):=⟨_,rfl⟩;have hlen:news.length=n-j:=by rw[KX];simp
  have Ur:∀t,t<n-j->news[t]?=some (H (j+t)):=by
   intro t ht;rw[KX,List.getElem?_map,List.getElem?_range ht];rfl
  obtain⟨A,Yk,Ow⟩:∃A:Addr,(if aG=j then some (⟨g,0,none⟩:Addr)else some ⟨g,j,none⟩)=some A/\Hid (∀t u,news[t]?=some u->w.drew.cell? (A.add t)=some u):=by
   by_cases h:aG=j
   ·refine⟨⟨g,0,none⟩,by simp[h],fun t u hu=>?_⟩;have h0:news.length=0:=by rw[hlen];omega
    rw[List.length_eq_zero_iff.1 h0]at hu;simp at hu
   ·refine⟨⟨g,j,none⟩,by simp[h],fun t u hu=>?_⟩;have ht:t<n-j:=by
     have:=(List.getElem?_eq_some_iff.1 hu).1
     rwa [hlen]at this
    rw[Ur t ht]at hu;rw[Addr.add_lit];exact(hA.cell (i:=j+t) (by omega)).trans hu
  have s1:Hid (news.length=(n-j)*1):=by rw[Nat.mul_one];exact hlen
  have s2:Hid (∀u∈news,u.oneCell'=true):=by
   intro u hu;rw[KX]at hu;obtain⟨x,hx,rfl⟩:=List.mem_map.1 hu;have Rl:=List.mem_range.1 hx;rw[hH (j+x) (by omega)];rfl
  have s3:Hid (∀t,t<news.length->(w.drew.cell? ⟨g,0+i*1+t,none⟩).isSome=true/\w.drew.frozen? ⟨g,0+i*1+t,none⟩=false):=by
   intro t ht;rw[hlen]at ht;rw[Nat.mul_one,Nat.zero_add];exact⟨by show(w.cell? _).isSome=true;rw[hA.cell (i:=i+t) (by omega)];rfl,hA.free (i+t)⟩
  obtain⟨W1,Yq⟩:∃W1,W1=w.drew.setCells g (0+i*1) news:=⟨_,rfl⟩;have Wg:ax w.drew g 3 aG H:=hA.grown (gd1 (abF w none)) (by simp);have dP:ax W1 g 3 aG (fun x=>if i<=x/\x<i+news.length then news[x-i]?.getD undef else H x):=by
   have h:=ax.kl news (0+i*1) w.drew H Wg;rw[<-Yq,Nat.zero_add,Nat.mul_one]at h;exact h
  have SD:w.grownBy W1 (some g):=by
   rw[Yq];exact gss news (0+i*1) w.drew (gd1 (abF w (some g)))
  have iu:∀ty,(Builtin.clear_ #[38] ty #[.slice (some ⟨g,i+(n-j),none⟩) (n-(i+(n-j))) (aG-(i+(n-j)))]).run prog W1=.ok (.tuple #[]) (W1.setCells g (i+(n-j)) (List.replicate (n-(i+(n-j))) (.int .i64 0))) :=
   fun ty=>Lib.run_clear_slice W1 _ _ ty _ underlying38 IC rfl rfl g (i+(n-j)) _ _ (by omega) (fun t ht=>by rw[dP.cell (by omega)];rfl) (fun t ht=>dP.free _)
  have hel:(l.eraseIdx i).length=i+(n-j):=by rw[List.length_eraseIdx,abP hi];omega
  have ah:Hid (qM (W1.setCells g (i+(n-j)) (List.replicate (n-(i+(n-j))) (.int .i64 0))) ar (.slice (some ⟨g,0,none⟩) (i+(n-j)) aG) (l.eraseIdx i)):=by
   have dF:=ax.kl (List.replicate (n-(i+(n-j))) (Value.int .i64 0)) (i+(n-j)) W1 _ dP
   have h:=qM.back (l:=l.eraseIdx i) hb dF (by omega) hm (fun x hx=>by
    show(if i+(n-j)<=x/\x < _ then _ else if i<=x/\x<i+news.length then news[x-i]?.getD undef else H x)=_;rw[hel]at hx;rw[abO (by omega),Gn.NF l i x];by_cases hxi:x<i
    ·rw[abO (by omega),abP hxi];exact hH x (by omega)
    ·rw[abP (by omega),abO hxi,Ur (x-i) (by omega),show j+(x-i)=x+1 by omega,hH (x+1) (by omega)]
     rfl)
   rw[hel]at h;exact h
  have nb:Hid (w.grownBy (W1.setCells g (i+(n-j)) (List.replicate (n-(i+(n-j))) (.int .i64 0))) (some g)) :=
   gss (List.replicate (n-(i+(n-j))) (Value.int .i64 0)) (i+(n-j)) W1 SD
  have hW:Hid (W1=w.drew.setCells g (0+i*1) news):=Yq;have hic:i<=aG:=by omega
  have hjc:j<=aG:=by omega
  have rH:i<j:=by omega
  have VI:j<=n:=by omega
  have jP:n<=aG:=by omega
  have UE:n<=384:=by omega
  rw[<-KY];clear hL hA hH hj KX hlen Ur Yq Wg dP SD hel P3 hi hn KY;go_enter func139,ntmps139;go_wp2_with fail
  go_region_law (refine step_append_room rfl (.tmp 22) (.tmp 25) 38 rfl 3 i0 1 underlying38 hi0 dz g 0 i aG (by simp[Act.eval,Act.put]) A (n-j) (aG-j) news (by simp[Act.eval,Act.put]) s1.out Ow.out s2.out (by omega) s3.out ?_;rw[<-hW.out])
  go_wp2;go_ret;exact⟨_,rfl,uh ah,rfl,uh nb⟩
