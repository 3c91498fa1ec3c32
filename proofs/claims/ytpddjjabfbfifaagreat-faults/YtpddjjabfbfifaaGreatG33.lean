import Derived.Test.YtpddjjabfbfifaaGreatG32
namespace Go.Proofs.YtpddjjabfbfifaaGreat
open Go.RowKit
set_option maxHeartbeats 40000000
def kD(PS:List (jD×Hd))(t:Nat):jD×Hd:=PS.getD t (⟨[],0,⟨#[]⟩,0,0⟩,⟨none,0⟩)
theorem xv(PS:List (jD×Hd))(t:Nat)(h:t<PS.length):PS[t]?=some (kD PS t):=by
 unfold kD;rw[List.getD_eq_getElem?_getD,List.getElem?_eq_getElem h];rfl
inductive Reach (PS:List (jD×Hd)) (RS:List jL) (a:Nat):Nat->Prop
 | self:Reach PS RS a a
 | step {t k i:Nat}:Reach PS RS a t->fk RS t=true->i<(kD PS t).1.st.length->(bG (kD PS t).1.st i).ref=(k:Int)->Reach PS RS a k
def sO(PS:List (jD×Hd))(RS:List jL)(inn:List Bool)(t:Nat):Prop:=inn.getD t false=true->fk RS t=true->∀i,i<(kD PS t).1.st.length->∀k:Nat,(bG (kD PS t).1.st i).ref=(k:Int)->inn.getD k false=true
structure sQ(PS:List (jD×Hd))(RS:List jL)(a:Nat)(inn:List Bool):Prop where
 len:inn.length=a+1
 self:inn.getD a false=true
 sub:∀k,inn.getD k false=true->Reach PS RS a k
theorem xb(inn:List Bool)(k:Nat)(h:k<inn.length):inn[k]?=some (inn.getD k false):=by
 rw[List.getD_eq_getElem?_getD,List.getElem?_eq_getElem h];rfl
theorem JI(inn:List Bool)(k q:Nat)(h:inn.getD q false=true):(inn.set k true).getD q false=true:=by
 rw[List.getD_eq_getElem?_getD]at h ⊢;rw[List.getElem?_set]
 by_cases e:k=q
 ·rw[if_pos e]
  split
  ·rfl
  ·next hl=>rw[List.getElem?_eq_none (by omega)]at h;cases h
 ·rw[if_neg e];exact h
theorem CY(inn:List Bool)(k q:Nat)(h:(inn.set k true).getD q false=true):q=k∨inn.getD q false=true:=by
 by_cases e:k=q
 ·exact Or.inl e.symm
 ·right
  rw[List.getD_eq_getElem?_getD,List.getElem?_set,if_neg e,<-List.getD_eq_getElem?_getD]at h;exact h
theorem sQ.set{PS:List (jD×Hd)}{RS:List jL}{a:Nat}{inn:List Bool}(h:sQ PS RS a inn){k:Nat}(hk:Reach PS RS a k):sQ PS RS a (inn.set k true) :=
 ⟨by rw[List.length_set];exact h.len,JI inn k a h.self,fun q hq=>by
  rcases CY inn k q hq with e | e
  ·rw[e];exact hk
  ·exact h.sub q e⟩
theorem sQ.all{PS:List (jD×Hd)}{RS:List jL}{a:Nat}{inn:List Bool}(h:sQ PS RS a inn)(hc:∀t,t<=a->sO PS RS inn t)(k:Nat):inn.getD k false=true ↔ Reach PS RS a k:=by
 refine⟨h.sub k,fun hr=>?_⟩
 induction hr with
 | self=>exact h.self
 | @step t k i hr hs hi he ih =>
  have ht:t<=a:=by
   have hl:=h.len
   by_cases e:t<inn.length
   ·omega
   ·rw[List.getD_eq_getElem?_getD,List.getElem?_eq_none (by omega)]at ih;cases ih
  exact hc t ht ih hs i hi k he
def LF(S:List Sm)(inn:List Bool)(t:Nat):Bool:=inn.getD t false&&((au S t).k.toList == [36,97])
def Lj(S:List Sm)(RS:List jL)(inn:List Bool)(t:Nat):Bool:=inn.getD t false&&(((au S t).k.toList == [36,112]) && !fk RS t)
def Ix(T:List Tk)(S:List Sm)(inn:List Bool)(n:Nat):List ByteArray:=((List.range n).filter (LF S inn)).map (fun t=>cd T (au S t))
def Am(T:List Tk)(S:List Sm)(RS:List jL)(inn:List Bool)(n:Nat):List ByteArray:=((List.range n).filter (Lj S RS inn)).map (fun t=>cd T (au S t))
theorem FK(T:List Tk)(S:List Sm)(inn:List Bool)(n:Nat):Ix T S inn (n+1)=Ix T S inn n++(if LF S inn n=true then [cd T (au S n)] else []):=by
 unfold Ix;rw[fK,List.map_append]
 split <;> rfl
theorem FP(T:List Tk)(S:List Sm)(RS:List jL)(inn:List Bool)(n:Nat):Am T S RS inn (n+1)=Am T S RS inn n++(if Lj S RS inn n=true then [cd T (au S n)] else []):=by
 unfold Am;rw[fK,List.map_append]
 split <;> rfl
def Kd(T:List Tk)(S:List Sm)(PS:List (jD×Hd))(RS:List jL)(a:Nat)(w:World)(e:Ending)(w':World):Prop :=
 ∃(inn:List Bool) (h1 h2:Hd),(∀k,inn.getD k false=true ↔ Reach PS RS a k)/\e=.returned (.tuple #[.slice h1.ao (Ix T S inn (a+1)).length h1.cap,.slice h2.ao (Am T S RS inn (a+1)).length h2.cap])/\ir w w' h1 (aD (Ix T S inn (a+1)))/\ir w w' h2 (aD (Am T S RS inn (a+1)))
theorem ir.two{w wr w':World}{h1 h1' h2:Hd}{r1 r1' r2:dK}(a:ir w wr h1 r1)(b:ir w wr h2 r2)(ap:∀k,h1.blk=some k->h2.blk≠some k)(g:bh wr w' h1 h1')(o:aA w' h1' r1'):ir w w' h1' r1'/\ir w w' h2 r2/\∀k,h1'.blk=some k->h2.blk≠some k:=by
 have n1:=a.grew g o;refine⟨n1,⟨g.beside b.own (fun k hk hq=>ap k hq hk),b.far,n1.kept⟩,fun k hk hq=>?_⟩
 rcases g.blk with e | ⟨q,e,hl⟩
 ·exact ap k (by rw[<-e];exact hk) hq
 ·have:=b.own.lt hq
  rw[hk]at e
  cases e
  omega
theorem iu.out{W:World}{g:Nat}{sn:List Bool}(h:iu W g sn):g<W.heap.size:=ae h
theorem CJ(k:List UInt8)(h:(k == [36,97])=true):(k == [36,112])=false:=by
 have:=eq_of_beq h;rw[this];rfl
set_option maxRecDepth 100000 in
theorem zr(v b a:Nat)(T:List Tk)(aoT:Option Addr)(cT:Nat)(S:List Sm)(aoS:Option Addr)(cS:Nat)(x0 x1:Value)(PS:List (jD×Hd))(aoP:Option Addr)(cP:Nat)(RS:List jL)(aoR:Option Addr)(cR:Nat)(w:World)(hD:eW w b T aoT cT S aoS cS)(hJ:JU w v b x0 x1 PS aoP cP RS aoR cR)(haP:a<PS.length)(haR:a<RS.length)(haS:a<S.length)(ha:a<=10000)(hA:∀j,j<=a->(au S j).a<T.length)(hRf:∀t,t<=a->(kD PS t).1.st.length<=100000000/\∀i,i<(kD PS t).1.st.length->(bG (kD PS t).1.st i).ref<=(a:Int)) :
  Calls Tryz.prog 67 #[.pointer (some ⟨v,0,none⟩),.int .i64 a] w fun e w'=>Kd T S PS RS a w e w':=by
 obtain⟨i1,hi1,hy0,hy1,hy2⟩:=info_parts Gu;obtain⟨iS,hiS,hzS0,hzS1,hzS2⟩:=info_parts jI;have m2:=fun w=>dn (P:=Tryz.prog) w 134 4 i1 _ Tryz.underlying134 hi1 hy0 (a+1) 1 hy1 (by rw[hy2];omega) (by omega)
 obtain⟨mc,Hmc⟩:∃mc,Hid (madeCells (Value.bool false).cells ((a+1)*1)=mc):=⟨_,rfl⟩
 have HMC:Hid (mc=((List.replicate (a+1) false).map Value.bool).toArray):=by show _=_;rw[<-Hmc.out,t8]
 rw[Hmc.out]at m2;have hca:((a+1:Nat):Int)=(a:Int)+1:=by omega
 have m3:=m2 w;rw[hca]at m3;obtain⟨W,HW⟩:∃W,Hid (w.alloc (.cells (mc.setIfInBounds a (.bool true)) 4)=W):=⟨_,rfl⟩
 have SN0:iu (w.alloc (.cells mc 4)) w.heap.size (List.replicate (a+1) false):=by
  unfold iu;rw[HMC.out];exact heap_alloc_new _ _
 have SN1:Hid (iu W w.heap.size ((List.replicate (a+1) false).set a true)):=by
  show iu _ _ _
  unfold iu;rw[<-HW.out,HMC.out];refine(heap_alloc_new _ _).trans ?_
  congr 2
  rw[List.setIfInBounds_toArray,List.map_set]
 have HKW:Hid (ab [] w W):=by show ab [] w W;rw[<-HW.out];exact(ab.refl [] _).alloc _
 have IN0:Hid (sQ PS RS a ((List.replicate (a+1) false).set a true)):=by
  refine⟨by simp,by rw[List.getD_eq_getElem?_getD,List.getElem?_set_self (by simp)];rfl,fun k hk=>?_⟩
  rcases CY _ a k hk with e | e
  ·rw[e];exact Reach.self
  ·rw[List.getD_eq_getElem?_getD,List.getElem?_replicate]at e
   split at e <;> cases e
 have c0:(w.alloc (.cells mc 4)).cell? ⟨w.heap.size,a,none⟩=some (.bool false):=SN0.cell a false (by rw[List.getElem?_replicate,if_pos (by omega)]);have f0:=ak SN0 a;have z0:=ae SN0;have hai:(a:Int)<(a:Int)+1:=by omega
 have HD:=(show Hid _ from hD);have HJ:=(show Hid _ from hJ);have HA:=(show Hid _ from hA);have HRF:=(show Hid _ from hRf);have HSD:Hid (∀t,t<=a->∀wx,ab [] w wx->Calls Tryz.prog 66 #[.pointer (some ⟨v,0,none⟩),.int .i64 t] wx fun e w'=>e=.returned (.bool (fk RS t))/\w'=wx):=fun t ht wx kx=>EY v b t x0 x1 PS aoP cP RS aoR cR wx (hJ.still kx) (by omega)
 clear hD hJ hA hRf SN0 m2;go_enter Tryz.func67,Tryz.ntmps67
 go_upto_region 3 with fail
 rw[HW.out];clear c0 f0 z0 m3;go_wp2;obtain⟨inn0,HI0⟩:∃inn0,Hid ((List.replicate (a+1) false).set a true=inn0):=⟨_,rfl⟩
 rw[HI0.out]at SN1 IN0
 go_loopg [7] (2*aO inn0+1) (fun g ag wr=>∃(again:Bool) (inn:List Bool),ag=.bool again/\g=2*aO inn+(if again=true then 1 else 0)/\Hid (sQ PS RS a inn)/\Hid (again=false->∀t,t<=a->sO PS RS inn t)/\Hid (iu wr w.heap.size inn)/\Hid (ab [] w wr))
 case atStart=>exact⟨true,inn0,rfl,rfl,IN0,(fun h=>by cases h),SN1,HKW⟩
 case round =>
  obtain⟨again,inn,rfl,hg,HIN,HCL,HSN,HK⟩:=hrel
  cases again
  ·have HAL:=(show Hid _ from sQ.all HIN.out (HCL.out rfl))
   have HL:=(show Hid _ from HIN.out.len);obtain⟨w1,Hw1⟩:∃w1,Hid (wr=w1):=⟨_,rfl⟩
   rw[Hw1.out];rw[Hw1.out]at HSN HK;clear Hw1 HCL hg;have HN1:Hid (ir w1 w1 ⟨none,0⟩ (aD [])):=⟨World.ownsRow_nil _ _ _ _,(by intro k hk;cases hk),ab.refl _ _⟩;have HA0:Hid (([]:List ByteArray)=Ix T S inn 0):=rfl;have HB0:Hid (([]:List ByteArray)=Am T S RS inn 0):=rfl;go_wp2
   go_loopg [12,13,14] (a+1) (fun g ax bd tv wr=>∃(t:Nat) (h1 h2:Hd) (A B:List ByteArray),t<=a+1/\g=a+1-t/\ax=.slice h1.ao A.length h1.cap/\bd=.slice h2.ao B.length h2.cap/\tv=.int .i64 t/\(A.length<=t/\B.length<=t)/\Hid (A=Ix T S inn t)/\Hid (B=Am T S RS inn t)/\Hid (ir w1 wr h1 (aD A))/\Hid (ir w1 wr h2 (aD B))/\Hid (∀k,h1.blk=some k->h2.blk≠some k))
   case atStart=>exact⟨0,⟨none,0⟩,⟨none,0⟩,[],[],by omega,rfl,rfl,rfl,rfl,⟨Nat.le_refl _,Nat.le_refl _⟩,HA0,HB0,HN1,HN1,(by intro k hk;cases hk)⟩
   case round =>
    obtain⟨t,h1,h2,A,B,ht,hg2,rfl,rfl,rfl,⟨hAl,hBl⟩,HAx,HBx,HW1,HW2,HAP⟩:=hrel
    by_cases hlt:t<=a
    ·have hti:(t:Int)<=(a:Int):=by omega
     have hts:t<S.length:=by omega
     have HKr:=(show Hid _ from HK.out.trans HW1.out.kept)
     have HLB:Hid (Calls Tryz.prog 87 #[.pointer (some ⟨b,0,none⟩),.int .i64 t] wr fun e w'=>e=.returned (.string (cd T (au S t)))/\ab [] wr w'):=by
      have:=oc b t T aoT cT S aoS cS wr (eW.still HD.out HKr.out) hts (by rw[bC S t hts];exact HA.out t hlt);rw[bC S t hts]at this;exact this
     have HSC:Hid (∀w':World,ab [] w1 w'->w'.cell? ⟨w.heap.size,t,none⟩=some (.bool (inn.getD t false))/\w.heap.size<w'.heap.size/\w'.cell? ⟨v,2,none⟩=some (.pointer (some ⟨b,0,none⟩))/\v<w'.heap.size/\∃gs,aoS=some ⟨gs,0,none⟩/\gs<w'.heap.size/\w'.cell? ⟨b,1,none⟩=some (.slice aoS S.length cS)/\b<w'.heap.size/\w'.cell? ⟨gs,t*4+3,none⟩=some (.string (au S t).k)):=fun w' kw=>by
      have hs:=iu.kept HSN.out kw (by simp);have hd:=eW.still HD.out (HK.out.trans kw);have hj:=JU.still HJ.out (HK.out.trans kw);obtain⟨-,s0,hb⟩:=hd.cells;obtain⟨gs,e3,hgs,-,-,-,q3⟩:=hd.s.2 t S[t] (List.getElem?_eq_getElem hts);rw[bC S t hts]at q3;exact⟨hs.cell t _ (xb inn t (by rw[HL.out];omega)),hs.out,by rw[aa hj.d];rfl,ae hj.d,gs,e3,hgs,s0,hb,q3⟩
     have HSD1:=(show Hid _ from HSD.out t hlt);have HNa:=(show Hid _ from FK T S inn t);have HNb:=(show Hid _ from FP T S RS inn t);rw[<-HAx.out]at HNa;rw[<-HBx.out]at HNb;have HPa:Hid (LF S inn t=(inn.getD t false&&((au S t).k.toList == [36,97]))):=rfl;have HPb:Hid (Lj S RS inn t=(inn.getD t false&&(((au S t).k.toList == [36,112]) && !fk RS t))):=rfl;obtain⟨sd,Hsd⟩:∃sd,Hid (fk RS t=sd):=⟨_,rfl⟩
     rw[Hsd.out]at HSD1 HPb;obtain⟨x,Hx⟩:∃x,Hid (cd T (au S t)=x):=⟨_,rfl⟩
     rw[Hx.out]at HLB HNa HNb;generalize (au S t).k=sk at *;generalize inn.getD t false=ib at *;obtain⟨-,-,v2,hvz,-⟩:=HSC.out wr HW1.out.kept
     go_upto_region 23 with (go_at_call 87;refine Calls.mono HLB.out ?_;rintro e w2 ⟨rfl,k2⟩)
     have HK2:=(show Hid _ from k2);clear k2 v2 hvz;have HSD2:=(show Hid _ from HSD1.out w2 (HKr.out.trans HK2.out))
     go_upto_region 24 with (go_at_call 66;refine Calls.mono HSD2.out ?_;rintro e w3 ⟨rfl,hw3⟩;rw[hw3];clear hw3)
     have HV1:=(show Hid _ from HW1.out.still HK2.out);have HV2:=(show Hid _ from HW2.out.still HK2.out);obtain⟨y0,y1,y2,y3,gs,rfl,hgs,s0,hbz,q3⟩:=HSC.out w2 HV1.out.kept;have htS:(t:Int)<(S.length:Int):=by omega
     have htA:(t:Int)<(a:Int)+1:=by omega
     have ht0:(0:Int)<=(t:Int):=by omega
     cases ib
     ·have HMa:Hid (A=Ix T S inn (t+1)):=by show _=_;rw[HNa.out,HPa.out];simp
      have HMb:Hid (B=Am T S RS inn (t+1)):=by show _=_;rw[HNb.out,HPb.out];simp
      go_wp2
      go_roundg (a+1-(t+1))
      case measure=>omega
      case rel=>exact⟨t+1,h1,h2,A,B,by omega,rfl,rfl,rfl,by go_num,⟨by omega,by omega⟩,HMa,HMb,HV1,HV2,HAP⟩
     ·cases hka:(sk.toList == [36,97])
      ·have HMa:Hid (A=Ix T S inn (t+1)):=by show _=_;rw[HNa.out,HPa.out,hka];simp
       cases hkp:(sk.toList == [36,112])
       ·have HMb:Hid (B=Am T S RS inn (t+1)):=by show _=_;rw[HNb.out,HPb.out,hkp];simp
        go_wp2
        go_roundg (a+1-(t+1))
        case measure=>omega
        case rel=>exact⟨t+1,h1,h2,A,B,by omega,rfl,rfl,rfl,by go_num,⟨by omega,by omega⟩,HMa,HMb,HV1,HV2,HAP⟩
       ·cases sd
        ·have HMb:Hid (B++[x]=Am T S RS inn (t+1)):=by show _=_;rw[HNb.out,HPb.out,hkp];simp
         have hOw:=HV2.out.own;have hOb:(aD B).n<=900000000:=by show B.length<=_;omega
         go_wp2_with (at_builtin;refine bX _ rfl (.tmp 136) (.tmp 138) 61 rfl iS (.string ⟨#[]⟩) 16 h2 (aD B) [.string x] Tryz.underlying61 hiS hzS0 hzS1 hzS2 rfl Nat.one_pos rfl hOw hOb (by omega) rfl rfl (by simp[Value.oneCell']) ?_;intro h5 w5 hw5 hg5;rw[dV]at hw5;have HM2:=(show Hid _ from ir.two HV2.out HV1.out (fun k hk hq=>HAP.out k hq hk) hg5 hw5);clear hw5 hg5)
         go_roundg (a+1-(t+1))
         case measure=>omega
         case rel=>exact⟨t+1,h1,h5,A,B++[x],by omega,rfl,rfl,by simp[aD],by go_num,⟨by omega,by simp;omega⟩,HMa,HMb,HM2.out.2.1,HM2.out.1,(fun k hk hq=>HM2.out.2.2 k hq hk)⟩
        ·have HMb:Hid (B=Am T S RS inn (t+1)):=by show _=_;rw[HNb.out,HPb.out,hkp];simp
         go_wp2
         go_roundg (a+1-(t+1))
         case measure=>omega
         case rel=>exact⟨t+1,h1,h2,A,B,by omega,rfl,rfl,rfl,by go_num,⟨by omega,by omega⟩,HMa,HMb,HV1,HV2,HAP⟩
      ·have hkp:=CJ _ hka
       have HMa:Hid (A++[x]=Ix T S inn (t+1)):=by show _=_;rw[HNa.out,HPa.out,hka];simp
       have HMb:Hid (B=Am T S RS inn (t+1)):=by show _=_;rw[HNb.out,HPb.out,hkp];simp
       have hOw:=HV1.out.own;have hOb:(aD A).n<=900000000:=by show A.length<=_;omega
       go_upto_region 26 with (at_builtin;refine bX _ rfl (.tmp 110) (.tmp 112) 61 rfl iS (.string ⟨#[]⟩) 16 h1 (aD A) [.string x] Tryz.underlying61 hiS hzS0 hzS1 hzS2 rfl Nat.one_pos rfl hOw hOb (by omega) rfl rfl (by simp[Value.oneCell']) ?_;intro h5 w5 hw5 hg5;rw[dV]at hw5;have HM2:=(show Hid _ from ir.two HV1.out HV2.out HAP.out hg5 hw5);clear hw5 hg5)
       obtain⟨z0,z1,z2,z3,gs2,ez,hgs2,z4,z5,z6⟩:=HSC.out w5 HM2.out.1.kept
       cases ez
       clear y0 y1 y2 y3 hgs s0 hbz q3 hOw hOb;go_wp2
       go_roundg (a+1-(t+1))
       case measure=>omega
       case rel=>exact⟨t+1,h5,h2,A++[x],B,by omega,rfl,by simp[aD],rfl,by go_num,⟨by simp;omega,by omega⟩,HMa,HMb,HM2.out.1,HM2.out.2.1,HM2.out.2.2⟩
    ·have et:t=a+1:=by omega
     subst et;have hti:¬(a:Int)+1<=(a:Int):=by omega
     go_wp2;go_ret2;exact⟨inn,h1,h2,HAL.out,by rw[<-HAx.out,<-HBx.out];rfl,by rw[<-HAx.out];exact HW1.out.base HK.out,by rw[<-HBx.out];exact HW2.out.base HK.out⟩
  ·obtain⟨c,Hc⟩:∃c,Hid (aO inn=c):=⟨_,rfl⟩
   rw[Hc.out]at hg;have hg:_=2*c+1:=hg;have HC0:Hid (aO inn<=c):=by show _<=_;rw[Hc.out];omega
   clear HCL;go_wp2
   go_loopg [7,8] (a+1) (fun g2 ag tv wr=>∃(t:Nat) (again:Bool) (inn:List Bool),t<=a+1/\g2=a+1-t/\ag=.bool again/\tv=.int .i64 t/\Hid (aO inn<=c/\(again=true->aO inn<c))/\Hid (again=false->∀t',t'<t->sO PS RS inn t')/\Hid (sQ PS RS a inn)/\Hid (iu wr w.heap.size inn)/\Hid (ab [] w wr))
   case atStart=>exact⟨0,false,inn,by omega,rfl,rfl,rfl,⟨HC0.out,fun h=>by cases h⟩,(fun _ t ht=>absurd ht (Nat.not_lt_zero t)),HIN,HSN,HK⟩
   case round =>
    clear HC0 HIN HSN HK Hc;obtain⟨t,again,inn,ht,hg2,rfl,rfl,HC,HT,HIN,HSN,HK⟩:=hrel
    by_cases hlt:t<=a
    ·have hti:(t:Int)<=(a:Int):=by omega
     have HSD1:=(show Hid _ from HSD.out t hlt wr HK.out);have y0:=iu.cell HSN.out t _ (xb inn t (by rw[HIN.out.len];omega));have y1:=iu.out HSN.out;obtain⟨sd,Hsd⟩:∃sd,Hid (fk RS t=sd):=⟨_,rfl⟩
     rw[Hsd.out]at HSD1;obtain⟨ib,Hib⟩:∃ib,Hid (inn.getD t false=ib):=⟨_,rfl⟩
     rw[Hib.out]at y0;have ht0:(0:Int)<=(t:Int):=by omega
     have htA:(t:Int)<(a:Int)+1:=by omega
     have HSK:Hid (sO PS RS inn t->again=false->∀t',t'<t+1->sO PS RS inn t'):=fun hc h t' ht'=>by
      by_cases e:t'=t
      ·rw[e];exact hc
      ·exact HT.out h t' (by omega)
     cases ib
     ·have HM:=(show Hid _ from HSK.out (fun h=>by rw[Hib.out]at h;cases h))
      go_wp2_with (go_at_call 66;refine Calls.mono HSD1.out ?_;rintro e w3 ⟨rfl,hw3⟩;rw[hw3];clear hw3)
      go_roundg (a+1-(t+1))
      case measure=>omega
      case rel=>exact⟨t+1,again,inn,by omega,rfl,rfl,by go_num,HC,HM,HIN,HSN,HK⟩
     ·cases sd
      ·have HM:=(show Hid _ from HSK.out (fun _ h=>by rw[Hsd.out]at h;cases h))
       go_wp2_with (go_at_call 66;refine Calls.mono HSD1.out ?_;rintro e w3 ⟨rfl,hw3⟩;rw[hw3];clear hw3)
       go_roundg (a+1-(t+1))
       case measure=>omega
       case rel=>exact⟨t+1,again,inn,by omega,rfl,rfl,by go_num,HC,HM,HIN,HSN,HK⟩
      ·have HRC:=(show Hid _ from HIN.out.sub t Hib.out)
       obtain⟨hstl,HST⟩:=HRF.out t hlt;have HST:=(show Hid _ from HST);have htP:(t:Int)<(PS.length:Int):=by omega
       have HSC:Hid (∀w':World,ab [] w w'->∃gP,aoP=some ⟨gP,0,none⟩/\gP<w'.heap.size/\w'.cell? ⟨v,3,none⟩=some (.slice aoP PS.length cP)/\v<w'.heap.size/\w'.cell? ⟨gP,t*5,none⟩=some (.slice (kD PS t).2.ao (kD PS t).1.st.length (kD PS t).2.cap)/\cG w' (kD PS t).2.ao 6 j5 (kD PS t).1.st):=fun w' kw=>by
        have hj:=JU.still HJ.out kw;obtain⟨gP,e,hgP,cc⟩:=hj.p t _ (xv PS t (by omega));exact⟨gP,e,hgP,by rw[aa hj.d];rfl,ae hj.d,cc 0 _ rfl,hj.q _ (List.mem_of_getElem? (xv PS t (by omega)))⟩
       have HCLD:Hid (∀inn:List Bool,(∀i,i<(kD PS t).1.st.length->∀k:Nat,(bG (kD PS t).1.st i).ref=(k:Int)->inn.getD k false=true)->sO PS RS inn t):=fun _ h _ _=>h
       have HST2:Hid (∀i,i<(kD PS t).1.st.length->∀k:Nat,(bG (kD PS t).1.st i).ref=(k:Int)->Reach PS RS a k):=fun i hi k he=>Reach.step HRC.out Hsd.out hi he
       have HCL0:Hid (again=false->(∀t',t'<t->sO PS RS inn t')/\∀i,i<0->∀k:Nat,(bG (kD PS t).1.st i).ref=(k:Int)->inn.getD k false=true):=fun h=>⟨HT.out h,fun i hi=>by omega⟩
       obtain⟨st,Hst⟩:∃st,Hid ((kD PS t).1.st=st):=⟨_,rfl⟩
       obtain⟨hd,Hhd⟩:∃hd,Hid ((kD PS t).2=hd):=⟨_,rfl⟩
       rw[Hst.out]at HSC HCLD HST2 HCL0 hstl HST;rw[Hhd.out]at HSC;obtain⟨pao,pcap⟩:=hd;simp only at HSC;go_wp2_with (go_at_call 66;refine Calls.mono HSD1.out ?_;rintro e w3 ⟨rfl,hw3⟩;rw[hw3];clear hw3)
       go_loopg [7,10] st.length (fun g3 ag iv wr=>∃(i:Nat) (again:Bool) (inn:List Bool),i<=st.length/\g3=st.length-i/\ag=.bool again/\iv=.int .i64 i/\Hid (aO inn<=c/\(again=true->aO inn<c))/\Hid (again=false->(∀t',t'<t->sO PS RS inn t')/\∀i',i'<i->∀k:Nat,(bG st i').ref=(k:Int)->inn.getD k false=true)/\Hid (sQ PS RS a inn)/\Hid (iu wr w.heap.size inn)/\Hid (ab [] w wr))
       case atStart=>exact⟨0,again,inn,by omega,rfl,rfl,rfl,HC,HCL0,HIN,HSN,HK⟩
       case round =>
        clear HC HCL0 HT HIN HSN HK HSK y0 y1 Hib HSD1;obtain⟨i,again,inn,hi,hg3,rfl,rfl,HC,HT,HIN,HSN,HK⟩:=hrel;obtain⟨gP,rfl,hgP,v3,hvz,p0,HS6⟩:=HSC.out wr HK.out
        by_cases hil:i<st.length
        ·have hii:(i:Int)<(st.length:Int):=by omega
         obtain⟨gs,es,hgs,cs⟩:=HS6 i _ (C2 st i hil);replace es:pao=some ⟨gs,0,none⟩:=es;subst es;have s0:wr.cell? ⟨gs,i*6,none⟩=some (.int .i64 (bG st i).ref):=cs 0 _ rfl;have HLE:=(show Hid _ from HST.out i hil);have HRR:=(show Hid _ from HST2.out i hil)
         have HNX:Hid (again=false->(∀k:Nat,(bG st i).ref=(k:Int)->inn.getD k false=true)->(∀t',t'<t->sO PS RS inn t')/\∀i',i'<i+1->∀k:Nat,(bG st i').ref=(k:Int)->inn.getD k false=true):=fun h hk=>⟨(HT.out h).1,fun i' hi' k he=>by
          by_cases e:i'=i
          ·subst e;exact hk k he
          ·exact(HT.out h).2 i' (by omega) k he⟩
         generalize (bG st i).ref=r at *;clear cs HS6;have hi0:(0:Int)<=(i:Int):=by omega
         by_cases hr0:(0:Int)<=r
         ·obtain⟨k,rfl⟩:=Int.eq_ofNat_of_zero_le hr0
          have hka:k<=a:=by have:=HLE.out;omega
          have hkA:(k:Int)<(a:Int)+1:=by omega
          have y0:=iu.cell HSN.out k _ (xb inn k (by rw[HIN.out.len];omega));have y1:=iu.out HSN.out;have HKD:=(show Hid _ from xb inn k (by rw[HIN.out.len];omega));obtain⟨ib,Hib⟩:∃ib,Hid (inn.getD k false=ib):=⟨_,rfl⟩
          rw[Hib.out]at y0 HKD;have hk0:(0:Int)<=(k:Int):=by omega
          cases ib
          ·have HU:=(show Hid _ from j6 inn k HKD.out)
           have HC2:Hid (aO (inn.set k true)<c):=by
            have h1:=HU.out;have h2:=HC.out.1
            show _<_
            omega
           have HI2:=(show Hid _ from sQ.set HIN.out (HRR.out k rfl));obtain⟨W3,HW3⟩:∃W3,Hid (wr.setCell ⟨w.heap.size,k,none⟩ (.bool true)=W3):=⟨_,rfl⟩
           have HS2:Hid (iu W3 w.heap.size (inn.set k true)):=by show iu _ _ _;rw[<-HW3.out];exact iu.set HSN.out k
           have HK2:Hid (ab [] w W3):=by show ab [] w W3;rw[<-HW3.out];exact HK.out.setCell (Or.inr (by simp)) _
           have f0:=ak HSN.out k
           go_upto_region 17 with fail
           rw[HW3.out];go_wp2
           go_roundg (st.length-(i+1))
           case measure=>omega
           case rel=>exact⟨i+1,true,inn.set k true,by omega,rfl,rfl,by go_num,⟨Nat.le_of_lt HC2.out,fun _=>HC2.out⟩,(fun h=>by cases h),HI2,HS2,HK2⟩
          ·have HM:=(show Hid _ from fun h=>HNX.out h (fun q hq=>by rw[show q=k by omega];exact Hib.out))
           go_wp2
           go_roundg (st.length-(i+1))
           case measure=>omega
           case rel=>exact⟨i+1,again,inn,by omega,rfl,rfl,by go_num,HC,HM,HIN,HSN,HK⟩
         ·have HM:=(show Hid _ from fun h=>HNX.out h (fun q hq=>absurd hq (by omega)))
          go_wp2
          go_roundg (st.length-(i+1))
          case measure=>omega
          case rel=>exact⟨i+1,again,inn,by omega,rfl,rfl,by go_num,HC,HM,HIN,HSN,HK⟩
        ·have ei:i=st.length:=by omega
         subst ei
         have HM:Hid (again=false->∀t',t'<t+1->sO PS RS inn t'):=fun h t' ht'=>by
          by_cases e:t'=t
          ·rw[e];exact HCLD.out inn (HT.out h).2
          ·exact(HT.out h).1 t' (by omega)
         clear HS6;go_wp2
         go_roundg (a+1-(t+1))
         case measure=>omega
         case rel=>exact⟨t+1,again,inn,by omega,rfl,rfl,by go_num,HC,HM,HIN,HSN,HK⟩
    ·have et:t=a+1:=by omega
     subst et;have hti:¬(a:Int)+1<=(a:Int):=by omega
     have HM:Hid (again=false->∀t,t<=a->sO PS RS inn t):=fun h t ht=>HT.out h t (by omega)
     have hC1:=HC.out.1;have HC2:=(show Hid _ from HC.out.2);go_wp2
     go_roundg (2*aO inn+(if again=true then 1 else 0))
     case measure =>
      cases again
      ·rw[if_neg (by simp)];omega
      ·have:=HC2.out rfl
       rw[if_pos rfl];omega
     case rel=>exact⟨again,inn,rfl,rfl,HIN,HM,HSN,HK⟩
end Go.Proofs.YtpddjjabfbfifaaGreat
