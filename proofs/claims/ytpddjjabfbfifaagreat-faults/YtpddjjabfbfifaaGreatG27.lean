import Derived.BigQuiet
import Derived.Deep.RegionLaw
import Derived.Test.YtpddjjabfbfifaaGreatG26
namespace Go.Proofs.YtpddjjabfbfifaaGreat
open Go.RowKit
set_option maxHeartbeats 40000000
def Ar(T:List Tk)(S:List Sm)(a:Nat)(Y:List ByteArray)(x:ByteArray):Bool:=Y.all (fun y=>iw T S x y a)
def qH(T:List Tk)(S:List Sm)(a:Nat)(E F:List ByteArray):Bool:=(jA T S a E).all (Ar T S a (jA T S a F))
theorem Cs{L:List ByteArray}{p:ByteArray->Bool}(k:Nat)(h:k<L.length)(hp:p L[k]=false):L.all p=false:=by
 rw[List.all_eq_false];exact⟨L[k],List.getElem_mem h,by rw[hp];simp⟩
theorem xW{L:List ByteArray}{p:ByteArray->Bool}{m:Nat}(hm:m=L.length)(h:∀k (hk:k<L.length),k<m->p L[k]=true):L.all p=true:=by
 rw[List.all_eq_true];intro x hx;obtain⟨k,hk,e⟩:=List.getElem_of_mem hx;rw[<-e];exact h k hk (by omega)
theorem wo(T:List Tk)(S:List Sm)(a:Nat)(E:List ByteArray):(jA T S a E).length<=E.length:=List.length_filter_le _ _
set_option maxRecDepth 100000 in
theorem Ds(b n:Nat)(E F:List ByteArray)(aoE aoF:Option Addr)(cE cF:Nat)(T:List Tk)(aoT:Option Addr)(cT:Nat)(S:List Sm)(aoS:Option Addr)(cS:Nat)(w:World)(hD:eW w b T aoT cT S aoS cS)(ok:mx T S n)(hE:id w aoE E)(hF:id w aoF F)(hl:E.length<=900000000)(hl2:F.length<=900000000) :
  Calls Tryz.prog 214 #[.pointer (some ⟨b,0,none⟩),.int .i64 n,.slice aoE E.length cE,.slice aoF F.length cF] w fun e w'=>e=.returned (.bool (qH T S n E F))/\ab [] w w':=by
 have HD:=(show Hid _ from hD);have HOK:=(show Hid _ from ok);have HV1:=(show Hid _ from oQ b n E aoE cE T aoT cT S aoS cS w hD ok hE hl);have HV2:Hid (∀wx,ab [] w wx->Calls Tryz.prog 241 #[.pointer (some ⟨b,0,none⟩),.int .i64 n,.slice aoF F.length cF] wx fun e w'=>∃h',e=.returned (.slice h'.ao (jA T S n F).length h'.cap)/\ir wx w' h' (aD (jA T S n F))):=fun wx kx=>oQ b n F aoF cF T aoT cT S aoS cS wx (hD.still kx) ok (hF.still kx) hl2
 have HR:Hid (qH T S n E F=(jA T S n E).all (Ar T S n (jA T S n F))):=rfl;have hx1:=wo T S n E;have hy1:=wo T S n F;generalize jA T S n E=X at *;generalize jA T S n F=Y at *;clear hD ok hE hF;go_enter Tryz.func214,Tryz.ntmps214
 go_upto_region 2 with (go_at_call 241;refine Calls.mono HV1.out ?_;rintro e w1 ⟨h1,rfl,x1⟩)
 have HV3:=(show Hid _ from HV2.out w1 x1.kept)
 go_upto_region 3 with (go_at_call 241;refine Calls.mono HV3.out ?_;rintro e w2 ⟨h2,rfl,x2⟩)
 have HX:=(show Hid _ from(x1.own.srcX.still x2.kept));have HY:=(show Hid _ from x2.own.srcX);have HK2:=(show Hid _ from x1.kept.trans x2.kept);clear x1 x2 HV1 HV2 HV3;obtain⟨a1,c1⟩:=h1;obtain⟨a2,c2⟩:=h2;go_wp2
 go_loopg [11] X.length (fun g i wr=>∃k:Nat,k<=X.length/\g=X.length-k/\i=.int .i64 k/\Hid (∀j (hj:j<X.length),j<k->Ar T S n Y X[j]=true)/\Hid (ab [] w2 wr))
 case atStart=>exact⟨0,by omega,rfl,rfl,(fun j _ hj=>by omega),ab.refl _ _⟩
 case round =>
  obtain⟨k,hk,hg,rfl,HN,HK⟩:=hrel
  by_cases hlt:k<X.length
  ·have hki:(k:Int)<(X.length:Int):=by omega
   obtain⟨gX,eX,hgX,qX⟩:=HX.out k X[k] (List.getElem?_eq_getElem hlt);replace eX:a1=some ⟨gX,0,none⟩:=eX;subst eX;have HNO:Hid (Ar T S n Y X[k]=false->qH T S n E F=false):=fun h=>by rw[HR.out];exact Cs k hlt h
   have HNX:Hid (Ar T S n Y X[k]=true->∀j (hj:j<X.length),j<k+1->Ar T S n Y X[j]=true):=fun h j hj h2=>by
    by_cases e:j=k
    ·subst e;exact h
    ·exact HN.out j hj (by omega)
   generalize X[k]=x at *;go_wp2
   go_loopg [12] Y.length (fun g i wr=>∃m:Nat,m<=Y.length/\g=Y.length-m/\i=.int .i64 m/\Hid (∀j (hj:j<Y.length),j<m->iw T S x Y[j] n=true)/\Hid (ab [] w2 wr))
   case atStart=>exact⟨0,by omega,rfl,rfl,(fun j _ hj=>by omega),HK⟩
   case round =>
    obtain⟨m,hm,hg2,rfl,HN2,HK3⟩:=hrel
    by_cases hlt2:m<Y.length
    ·have hmi:(m:Int)<(Y.length:Int):=by omega
     obtain⟨gY,eY,hgY,qY⟩:=(id.still HY.out HK3.out) m Y[m] (List.getElem?_eq_getElem hlt2);replace eY:a2=some ⟨gY,0,none⟩:=eY;subst eY;have qx2:wr.cell? ⟨gX,k,none⟩=some (.string x):=by rw[World.cell?_of_block (HK3.out.block gX hgX (by simp))];exact qX
     have hgx2:=Nat.lt_of_lt_of_le hgX HK3.out.size;have HAP:Hid (∀wx,ab [] wr wx->Calls Tryz.prog 94 #[.pointer (some ⟨b,0,none⟩),.string x,.string Y[m],.int .i64 n] wx fun e w'=>e=.returned (.bool (iw T S x Y[m] n))/\ab [] wx w'):=fun wx kx=>sX b n x Y[m] T aoT cT S aoS cS wx (eW.still HD.out ((HK2.out.trans HK3.out).trans kx)) HOK.out
     have HNO2:Hid (iw T S x Y[m] n=false->Ar T S n Y x=false):=fun h=>Cs (p:=fun y=>iw T S x y n) m hlt2 h
     have HNX2:Hid (iw T S x Y[m] n=true->∀j (hj:j<Y.length),j<m+1->iw T S x Y[j] n=true):=fun h j hj h2=>by
      by_cases e:j=m
      ·subst e;exact h
      ·exact HN2.out j hj (by omega)
     generalize Y[m]=y at *;obtain⟨ap,Hap⟩:∃ap,Hid (iw T S x y n=ap):=⟨_,rfl⟩
     rw[Hap.out]at HAP HNO2 HNX2
     go_upto_region 9 with fail
     go_region_with (go_at_call 94;refine(HAP.out _ (by exact(ab.refl [] wr).drew)).mono ?_;rintro e w3 ⟨rfl,k3⟩)
     all_goals
      have HK4:=(show Hid _ from(HK3.out.drew).trans k3)
      cases ap
      ·have HM:=(show Hid _ from HNO.out (HNO2.out rfl))
       go_wp2;go_ret;exact⟨aB HM.out.symm,HK2.out.trans HK4.out⟩
      ·have HM:=(show Hid _ from HNX2.out rfl)
       go_wp2
       go_roundg (Y.length-(m+1))
       case measure=>omega
       case rel=>exact⟨m+1,by omega,rfl,by go_num,HM,HK4⟩
    ·have e:m=Y.length:=by omega
     have HM:=(show Hid _ from HNX.out (xW e HN2.out));have hmi:¬(m:Int)<(Y.length:Int):=by omega
     go_wp2
     go_roundg (X.length-(k+1))
     case measure=>omega
     case rel=>exact⟨k+1,by omega,rfl,by go_num,HM,HK3⟩
  ·have e:k=X.length:=by omega
   have HM:Hid (qH T S n E F=true):=by show _=_;rw[HR.out];exact xW e HN.out
   have hki:¬(k:Int)<(X.length:Int):=by omega
   go_wp2;go_ret;exact⟨aB HM.out.symm,HK2.out.trans HK.out⟩
structure Sl where
 ao:Option Addr
 cap:Nat
 L:List ByteArray
def By(s:Sl):List Value:=[.slice s.ao s.L.length s.cap]
theorem sM(s:Sl):(By s).length=1:=rfl
def jZ(A:List Sl):dK:=kq 61 1 By A
theorem oo(L:List Sl)(x:Sl):(⟨(jZ L).e,(jZ L).size,(jZ L).n+1,(jZ L).xs++By x⟩:dK)=jZ (L++[x]):=jY _ _ _ _ _
structure np(w:World)(s:Sl):Prop where
 src:∀(k:Nat) (x:ByteArray),s.L[k]?=some x->∃g o,s.ao=some ⟨g,o,none⟩/\g<w.heap.size/\w.cell? ⟨g,o+k,none⟩=some (.string x)
 nil:s.ao=none->s.L.length=0/\s.cap=0
 le:s.L.length<=s.cap
theorem np.still{w w':World}{s:Sl}(h:np w s)(k:ab [] w w'):np w' s :=
 ⟨fun j x hj=>by
  obtain⟨g,o,e,hg,c0⟩:=h.src j x hj;exact⟨g,o,e,Nat.lt_of_lt_of_le hg k.size,by rw[World.cell?_of_block (k.block g hg (by simp))];exact c0⟩,h.nil,h.le⟩
def m9(w:World)(A:List Sl):Prop:=∀s∈A,np w s
theorem m9.still{w w':World}{A:List Sl}(h:m9 w A)(k:ab [] w w'):m9 w' A:=fun s hs=>(h s hs).still k
theorem Dg(g o j:Nat):(⟨g,o,none⟩:Addr).add j=⟨g,o+j,none⟩:=by
 simp only[Addr.add]
 split
 ·next h=>subst h;rfl
 ·rfl
theorem np.cells{w:World}{s:Sl}(h:np w s):∀ad,s.ao=some ad->∀j u,(dO s.L)[j]?=some u->w.cell? (ad.add j)=some u:=by
 intro ad e j u hj;rw[dO,List.getElem?_map]at hj
 cases hx:s.L[j]? with
 | none=>rw[hx]at hj;cases hj
 | some x =>
  rw[hx]at hj
  cases hj
  obtain⟨g,o,e2,-,c⟩:=h.src j x hx;rw[e]at e2
  cases e2
  rw[Dg];exact c
theorem ir.sl{w wr:World}{h:Hd}{L:List ByteArray}(a:ir w wr h (aD L)):np wr ⟨h.ao,h.cap,L⟩ :=
 ⟨fun k x hk=>by
  obtain⟨g,e,hg,c⟩:=a.own.srcX k x hk;exact⟨g,0,e,hg,by rw[Nat.zero_add];exact c⟩,a.none,a.le⟩
def tV(V:List ByteArray)(x:ByteArray):Nat:=V.findIdx (fun y=>(y.toList==x.toList))
def GR(V:List ByteArray)(A:List (List ByteArray))(x:ByteArray):List ByteArray:=if tV V x<V.length then A.getD (tV V x) [] else [x]
def gM(V:List ByteArray)(A:List (List ByteArray))(e:List ByteArray):List ByteArray:=e.flatMap (GR V A)
theorem I6{V:List ByteArray}{x:ByteArray}{k:Nat}(hk:k<V.length)(h:(V[k].toList==x.toList)=true)(ha:∀j (hj:j<V.length),j<k->(V[j].toList==x.toList)=false):tV V x=k:=by
 unfold tV;rw[List.findIdx_eq hk];exact⟨h,fun j hj=>ha j (by omega) hj⟩
theorem Gs{V:List ByteArray}{x:ByteArray}{k:Nat}(hk:k=V.length)(ha:∀j (hj:j<V.length),j<k->(V[j].toList==x.toList)=false):tV V x=V.length:=by
 unfold tV;rw[List.findIdx_eq_length];intro y hy;obtain⟨j,hj,e⟩:=List.getElem_of_mem hy;rw[<-e];exact ha j hj (by omega)
theorem GS(V:List ByteArray)(A:List (List ByteArray))(e:List ByteArray)(k:Nat)(h:k<e.length):gM V A (e.take (k+1))=gM V A (e.take k)++GR V A e[k]:=by
 unfold gM;rw[List.take_succ_eq_append_getElem h,List.flatMap_append];simp
def LQ:Sl:=⟨none,0,[]⟩
def eU(A:List Sl)(i:Nat):Sl:=A.getD i LQ
theorem C0(A:List Sl)(i:Nat)(h:i<A.length):A[i]?=some (eU A i):=by
 unfold eU;rw[List.getD_eq_getElem?_getD,List.getElem?_eq_getElem h];rfl
theorem iJ(A:List Sl)(i:Nat)(h:i<A.length):eU A i∈A:=List.mem_of_getElem? (C0 A i h)
theorem cG.sl{w:World}{ao:Option Addr}{A:List Sl}(h:cG w ao 1 By A)(k:Nat)(hk:k<A.length):∃g,ao=some ⟨g,0,none⟩/\g<w.heap.size/\w.cell? ⟨g,k,none⟩=some (.slice (eU A k).ao (eU A k).L.length (eU A k).cap):=by
 obtain⟨g,e,hg,c⟩:=h k _ (C0 A k hk);refine⟨g,e,hg,?_⟩;have:=c 0 _ rfl;simpa using this
theorem t9(A:List Sl)(k:Nat)(h:k<A.length):(A.map (·.L)).getD k []=(eU A k).L:=by
 unfold eU;rw[List.getD_eq_getElem?_getD,List.getD_eq_getElem?_getD,List.getElem?_map,List.getElem?_eq_getElem h];rfl
set_option maxRecDepth 100000 in
theorem zq(V:List ByteArray)(aoV:Option Addr)(cV:Nat)(A:List Sl)(aoA:Option Addr)(cA:Nat)(E:List ByteArray)(aoE:Option Addr)(cE:Nat)(w:World)(hV:id w aoV V)(hA:cG w aoA 1 By A)(hAS:m9 w A)(hVA:V.length<=A.length)(hAl:A.length<=100000)(hE:id w aoE E)(hEl:E.length<=10000)(hSl:∀s∈A,s.L.length<=10000) :
  Calls Tryz.prog 179 #[.agg #[.slice aoV V.length cV,.slice aoA A.length cA],.slice aoE E.length cE] w fun e w'=>∃h',e=.returned (.slice h'.ao (gM V (A.map (·.L)) E).length h'.cap)/\ir w w' h' (aD (gM V (A.map (·.L)) E)):=by
 obtain⟨W,HW⟩:∃W,Hid (w.alloc (.cells #[.slice aoV V.length cV,.slice aoA A.length cA] 271)=W):=⟨_,rfl⟩
 have BW:W.heap[w.heap.size]?=some (.cells #[.slice aoV V.length cV,.slice aoA A.length cA] 271 (0,0)):=by rw[<-HW.out];exact heap_alloc_new _ _
 have HKW:Hid (ab [] w W):=by show ab [] w W;rw[<-HW.out];exact(ab.refl [] _).alloc _
 have HB:=(show Hid _ from BW);have HV:=(show Hid _ from hV);have HA:=(show Hid _ from hA);have HAS:=(show Hid _ from hAS);have HE:=(show Hid _ from hE);have HSL:=(show Hid _ from hSl);have HN0:Hid (ir w W ⟨none,0⟩ (aD [])):=⟨World.ownsRow_nil _ _ _ _,(by intro k hk;cases hk),HKW.out⟩;obtain⟨iS,hiS,hzS0,hzS1,hzS2⟩:=info_parts jI;have HP0:Hid (([]:List ByteArray)=gM V (A.map (·.L)) (E.take 0)):=by show _=_;simp[gM]
 obtain⟨M,HM0⟩:∃M,Hid (A.map (·.L)=M):=⟨_,rfl⟩
 rw[HM0.out]at HP0 ⊢;have HMA:Hid (∀k,k<A.length->M.getD k []=(eU A k).L):=fun k hk=>by rw[<-HM0.out];exact t9 A k hk
 clear hV hA hAS hE hSl
 have HBk:Hid (∀wr,ab [] w wr->wr.heap[w.heap.size]?=W.heap[w.heap.size]?->wr.cell? ⟨w.heap.size,0,none⟩=some (.slice aoV V.length cV)/\wr.cell? ⟨w.heap.size,1,none⟩=some (.slice aoA A.length cA)/\w.heap.size<wr.heap.size):=fun wr _ e=>by
  rw[HB.out]at e;exact⟨by rw[aa e];rfl,by rw[aa e];rfl,ae e⟩
 go_enter Tryz.func179,Tryz.ntmps179
 go_upto_region 1 with fail
 rw[HW.out];go_wp2
 go_loopg [5,6] E.length (fun g o i wr=>∃(k:Nat) (h':Hd) (O:List ByteArray),k<=E.length/\g=E.length-k/\o=.slice h'.ao O.length h'.cap/\i=.int .i64 k/\O.length<=10000*k/\Hid (O=gM V M (E.take k))/\Hid (ir W wr h' (aD O)))
 case atStart=>exact⟨0,⟨none,0⟩,[],by omega,rfl,rfl,rfl,by simp,HP0,⟨World.ownsRow_nil _ _ _ _,(by intro k hk;cases hk),ab.refl _ _⟩⟩
 case round =>
  obtain⟨k,h',O,hk,hg,rfl,rfl,hO,HO,HWr⟩:=hrel
  by_cases hlt:k<E.length
  ·have hki:(k:Int)<(E.length:Int):=by omega
   obtain⟨gE,rfl,hgE,cE0⟩:=HE.out k E[k] (List.getElem?_eq_getElem hlt);have HNX:=(show Hid _ from GS V M E k hlt);rw[<-HO.out]at HNX;have HCE:Hid (∀w',ab [] w w'->w'.cell? ⟨gE,k,none⟩=some (.string E[k])/\gE<w'.heap.size):=fun w' kw=>⟨by rw[World.cell?_of_block (kw.block gE hgE (by simp))];exact cE0,Nat.lt_of_lt_of_le hgE kw.size⟩
   generalize E[k]=x at *;have HPX:Hid (GR V M x=if tV V x<V.length then M.getD (tV V x) [] else [x]):=rfl;go_wp2
   go_loopg [7] (V.length) (fun g i wr=>∃q:Nat,q<=V.length/\g=V.length-q/\i=.int .i64 q/\Hid (∀j (hj:j<V.length),j<q->(V[j].toList==x.toList)=false)/\Hid (ir W wr h' (aD O)))
   case atStart=>exact⟨0,by omega,rfl,rfl,(fun j _ hj=>by omega),HWr⟩
   case round =>
    obtain⟨q,hq,hg2,rfl,HNO,HW2⟩:=hrel;have HKr:=(show Hid _ from HKW.out.trans HW2.out.kept);have HBr:=(show Hid _ from HW2.out.kept.get HB.out (by simp));obtain⟨b0,b1,hbz⟩:=HBk.out wr HKr.out (by rw[HBr.out,HB.out]);obtain⟨d0,d1⟩:=HCE.out wr HKr.out
    by_cases hqV:q<V.length
    ·have hqi:(q:Int)<(V.length:Int):=by omega
     obtain⟨gV,eV,hgV,cV0⟩:=(id.still HV.out HKr.out) q V[q] (List.getElem?_eq_getElem hqV);subst eV;have HYES:Hid ((V[q].toList==x.toList)=true->tV V x=q):=fun h=>I6 hqV h HNO.out
     have HNXT:Hid ((V[q].toList==x.toList)=false->∀j (hj:j<V.length),j<q+1->(V[j].toList==x.toList)=false):=fun h j hj h2=>by
      by_cases e:j=q
      ·subst e;exact h
      ·exact HNO.out j hj (by omega)
     generalize V[q]=y at *
     cases hy:(y.toList==x.toList)
     ·have HM:=(show Hid _ from HNXT.out hy)
      go_upto_region 6 with fail
      go_quiet (fail)
      have HW3:=(show Hid _ from HW2.out.still ((ab.refl [] wr).drewN nq));go_wp2
      go_roundg (V.length-(q+1))
      case measure=>omega
      case rel=>exact⟨q+1,by omega,rfl,by go_num,HM,HW3⟩
     ·have hix:=HYES.out hy
      have hqA:q<A.length:=by omega
      have hqAi:(q:Int)<(A.length:Int):=by omega
      obtain⟨gA,eA,hgA,cA0⟩:=cG.sl (cG.still HA.out HKr.out) q hqA;subst eA;have HSS:=(show Hid _ from(m9.still HAS.out HKr.out) (eU A q) (iJ A q hqA));have hsl:=HSL.out (eU A q) (iJ A q hqA)
      have HPQ:Hid (O++(eU A q).L=gM V M (E.take (k+1))):=by
       show _=_
       rw[HNX.out,HPX.out,hix,if_pos hqV,HMA.out q hqA]
      have HC2:Hid (∀w',ab [] wr w'->w'.cell? ⟨gA,q,none⟩=some (.slice (eU A q).ao (eU A q).L.length (eU A q).cap)/\gA<w'.heap.size):=fun w' kw=>⟨by rw[World.cell?_of_block (kw.block gA hgA (by simp))];exact cA0,Nat.lt_of_lt_of_le hgA kw.size⟩
      clear hix;generalize eU A q=s at *;obtain⟨sao,scap,sL⟩:=s;simp only at cA0 HSS hsl HPQ HC2
      go_upto_region 6 with fail
      go_quiet (fail)
      have k3:=(ab.refl [] wr).drewN nq;have HW3:=(show Hid _ from HW2.out.still k3);have HSS3:=(show Hid _ from np.still HSS.out k3);have hc3:=(show Hid _ from HSS3.out.cells);have hn3:Hid (sao=none->sL.length=0/\scap=0):=HSS3.out.nil;have hOw:=HW3.out.own;clear k3 HSS;go_wp2_with (at_builtin;refine eO _ rfl (.tmp 38) (.tmp 43) 61 rfl iS (.string ⟨#[]⟩) 16 h' (aD O) Tryz.underlying61 hiS hzS0 hzS1 hzS2 rfl Nat.one_pos rfl hOw sao sL.length scap (dO sL) rfl (by simp[aD,dO]) hn3.out hc3.out (ku sL) (by simp only[aD];omega) (by omega) ?_;intro h5 w5 hw5 hg5;rw[zx]at hw5;have HM2:=(show Hid _ from HW3.out.grew hg5 hw5);clear hw5 hg5)
      go_roundg (E.length-(k+1))
      case measure=>omega
      case rel=>exact⟨k+1,h5,O++sL,by omega,rfl,by simp[aD],by go_num,by simp;omega,HPQ,HM2⟩
    ·have eq:q=V.length:=by omega
     have hqi:decide ((q:Int)<(V.length:Int))=false:=decide_eq_false (by omega);have hqn:¬(q:Int)<(V.length:Int):=by omega
     have HPQ:Hid (O++[x]=gM V M (E.take (k+1))):=by
      show _=_
      rw[HNX.out,HPX.out,Gs eq HNO.out,if_neg (by omega)]
     go_upto_region 6 with fail
     go_quiet (fail)
     have k3:=(ab.refl [] wr).drewN nq;have HW3:=(show Hid _ from HW2.out.still k3);have hOw:=HW3.out.own;have hOb:(aD O).n<=900000000:=by show O.length<=_;omega
     clear k3;go_wp2_with (at_builtin;refine bX _ rfl (.tmp 45) (.tmp 50) 61 rfl iS (.string ⟨#[]⟩) 16 h' (aD O) [.string x] Tryz.underlying61 hiS hzS0 hzS1 hzS2 rfl Nat.one_pos rfl hOw hOb (by omega) rfl rfl (by simp[Value.oneCell']) ?_;intro h5 w5 hw5 hg5;rw[dV]at hw5;have HM2:=(show Hid _ from HW3.out.grew hg5 hw5);clear hw5 hg5)
     go_roundg (E.length-(k+1))
     case measure=>omega
     case rel=>exact⟨k+1,h5,O++[x],by omega,rfl,by simp[aD],by go_num,by simp;omega,HPQ,HM2⟩
  ·have e:k=E.length:=by omega
   subst e;have HM:Hid (gM V M E=O):=by show _=_;rw[HO.out,List.take_length]
   go_wp2;go_ret;exact⟨h',by rw[HM.out];rfl,by rw[HM.out];exact HWr.out.base HKW.out⟩
def CW(S:List Sm)(hs:List Nat)(i:Nat):Bool:=((au S (hs.getD i 0)).k.toList == [36,102])
def vj(S:List Sm)(hs:List Nat)(k:Nat):List Nat:=(List.range k).filter (CW S hs)
def cm(T:List Tk)(S:List Sm)(j:Nat):List ByteArray:=bV T (au S j).h
def fD(T:List Tk)(S:List Sm)(hs:List Nat)(k:Nat):List ByteArray:=(vj S hs k).map (fun i=>(cm T S (hs.getD i 0)).getD 1 ⟨#[]⟩)
def fh(S:List Sm)(hs:List Nat)(M:List (List ByteArray))(k:Nat):List (List ByteArray):=(vj S hs k).map (fun i=>(M.getD i []).drop 1)
theorem Ey(S:List Sm)(hs:List Nat)(k:Nat):vj S hs (k+1)=vj S hs k++(if CW S hs k=true then [k] else []):=fK _ _
theorem AJ:(Tryz.prog.info? 61).map (fun i=>(i.zero,i.size,i.bytes))=some (some (.slice none 0 0),1,24):=by kernel_rfl
structure Fp(w wr:World)(V:List ByteArray)(hv:Hd)(B:List Sl)(hb:Hd):Prop where
 r:wr.heap[w.heap.size]?=some (.cells #[.slice none 0 0,.slice none 0 0] 271 (0,0))
 c:wr.heap[w.heap.size+1]?=some (.cells #[.slice hv.ao V.length hv.cap,.slice hb.ao B.length hb.cap] 271 (0,0))
 v:aA wr hv (aD V)
 b:aA wr hb (jZ B)
 fv:∀k,hv.blk=some k->w.heap.size+1<k
 fb:∀k,hb.blk=some k->w.heap.size+1<k
 ap:∀k,hv.blk=some k->hb.blk≠some k
 s:m9 w B
 kept:ab [] w wr
section
variable {w wr w5:World} {V V':List ByteArray} {hv hb h5:Hd} {B B':List Sl}
theorem Fp.still(a:Fp w wr V hv B hb)(k:ab [] wr w5):Fp w w5 V hv B hb :=
 ⟨k.get a.r (by simp),k.get a.c (by simp),a.v.still k,a.b.still k,a.fv,a.fb,a.ap,a.s,a.kept.trans k⟩
theorem yM{n:Nat}{h:Hd}(f:∀k,h.blk=some k->n<k)(hn:n<wr.heap.size)(g:bh wr w5 h h5):∀k,h5.blk=some k->n<k:=fun k hk=>by
 rcases g.blk with e | ⟨q,e,hq⟩
 ·exact f k (by rw[<-e];exact hk)
 ·rw[e]at hk;cases hk;omega
theorem tQ{h o:Hd}{r:dK}(ap:∀k,h.blk=some k->o.blk≠some k)(ho:aA wr o r)(g:bh wr w5 h h5):∀k,h5.blk=some k->o.blk≠some k:=fun k hk hk2=>by
 rcases g.blk with e | ⟨q,e,hq⟩
 ·exact ap k (by rw[<-e];exact hk) hk2
 ·rw[e]at hk;cases hk
  have:=ho.lt hk2;omega
theorem Fp.addV(a:Fp w wr V hv B hb)(g:bh wr w5 hv h5)(o:aA w5 h5 (aD V')){m:Nat}(hm:m=V'.length):Fp w (w5.setCell ⟨w.heap.size+1,0,none⟩ (.slice h5.ao m h5.cap)) V' h5 B hb:=by
 subst hm;have no:∀q,q<=w.heap.size+1->q∉hv.blk.toList:=fun q hq hm=>by have:=a.fv q (aK hm);omega
 have hz:=ae a.c;have r5:=g.kept.get a.r (no _ (by omega));have c5:=g.kept.get a.c (no _ (by omega));have f5:=yM a.fv hz g;have b5:aA w5 hb (jZ B):=g.beside a.b (fun k hk hk2=>a.ap k hk2 hk);have kS:ab [w.heap.size+1] w5 (w5.setCell ⟨w.heap.size+1,0,none⟩ (.slice h5.ao V'.length h5.cap)):=(ab.refl _ _).setCell (Or.inl (by simp)) _;have k5:ab [] w w5:=nI g.kept (fun q hq=>by have:=a.fv q (aK hq);omega) a.kept;exact⟨kS.get r5 (by simp),by rw[ah c5];rfl,o.moved (fun q hq=>kS.block q (o.lt hq) (by simp;have:=f5 q hq;omega)),b5.moved (fun q hq=>kS.block q (b5.lt hq) (by simp;have:=a.fb q hq;omega)),f5,a.fb,tQ a.ap a.b g,a.s,k5.setCell (Or.inr (by simp)) _⟩
theorem Fp.addB(a:Fp w wr V hv B hb)(g:bh wr w5 hb h5)(o:aA w5 h5 (jZ B'))(s:m9 w B'){m:Nat}(hm:m=B'.length):Fp w (w5.setCell ⟨w.heap.size+1,1,none⟩ (.slice h5.ao m h5.cap)) V hv B' h5:=by
 subst hm;have no:∀q,q<=w.heap.size+1->q∉hb.blk.toList:=fun q hq hm=>by have:=a.fb q (aK hm);omega
 have hz:=ae a.c;have r5:=g.kept.get a.r (no _ (by omega));have c5:=g.kept.get a.c (no _ (by omega));have f5:=yM a.fb hz g;have v5:aA w5 hv (aD V):=g.beside a.v (fun k hk hk2=>a.ap k hk hk2);have kS:ab [w.heap.size+1] w5 (w5.setCell ⟨w.heap.size+1,1,none⟩ (.slice h5.ao B'.length h5.cap)):=(ab.refl _ _).setCell (Or.inl (by simp)) _;have k5:ab [] w w5:=nI g.kept (fun q hq=>by have:=a.fb q (aK hq);omega) a.kept;have ap5:=tQ (h:=hb) (o:=hv) (fun k hk hk2=>a.ap k hk2 hk) a.v g;exact⟨kS.get r5 (by simp),by rw[ah c5];rfl,v5.moved (fun q hq=>kS.block q (v5.lt hq) (by simp;have:=a.fv q hq;omega)),o.moved (fun q hq=>kS.block q (o.lt hq) (by simp;have:=f5 q hq;omega)),a.fv,f5,fun k hk hk2=>ap5 k hk2 hk,s,k5.setCell (Or.inr (by simp)) _⟩
end
theorem Fe{w:World}{B:Nat}{a0 a1:Value}(h:w.heap[B]?=some (.cells #[a0,a1] 271 (0,0)))(v0 v1:Value) :
  (w.setCell ⟨B,0,none⟩ v0).cell? ⟨B,0,none⟩=some v0/\((w.setCell ⟨B,0,none⟩ v0).setCell ⟨B,1,none⟩ v1).cell? ⟨B,1,none⟩=some v1:=by
 have b0:=ah h 0 v0;have b1:=ah b0 1 v1;exact⟨by rw[aa b0];rfl,by rw[aa b1];rfl⟩
theorem np.tail{w:World}{g o n:Nat}{L:List ByteArray}(a:np w ⟨some ⟨g,o,none⟩,n,L⟩):np w ⟨some ⟨g,o+1,none⟩,n-1,L.drop 1⟩:=by
 have hle:=a.le;simp only at hle;refine⟨fun k x hk=>?_,fun h=>(by cases h),(by simp;omega)⟩;simp only[List.getElem?_drop]at hk;obtain⟨g2,o2,e,hg,c⟩:=a.src (1+k) x hk
 cases e
 exact⟨g,o+1,rfl,hg,by rw[show o+1+k=o+(1+k) by omega];exact c⟩
theorem np.none0{w:World}{ao:Option Addr}{n:Nat}(h:ao=none->n=0):np w ⟨ao,n,[]⟩:=⟨fun k x hk=>by simp at hk,fun e=>⟨rfl,h e⟩,Nat.zero_le _⟩
set_option maxRecDepth 100000 in
theorem EF(b n:Nat)(T:List Tk)(aoT:Option Addr)(cT:Nat)(S:List Sm)(aoS:Option Addr)(cS:Nat)(hs:List Nat)(aoH:Option Addr)(cH:Nat)(A:List Sl)(aoA:Option Addr)(cA:Nat)(w:World)(hD:eW w b T aoT cT S aoS cS)(ok:mx T S n)(hH:oX w aoH hs)(hlt:∀j∈hs,j<n)(hHl:hs.length<=10000)(hA:cG w aoA 1 By A)(hAS:m9 w A)(hHA:hs.length<=A.length)(hF:∀i,i<hs.length->CW S hs i=true->1<(cm T S (hs.getD i 0)).length)(hN:∀s∈A,0<s.L.length) :
  Calls Tryz.prog 177 #[.pointer (some ⟨b,0,none⟩),.slice aoH hs.length cH,.slice aoA A.length cA] w fun e w'=>∃hv hb B,e=.returned (.agg #[.slice hv.ao (fD T S hs hs.length).length hv.cap,.slice hb.ao B.length hb.cap])/\B.map (·.L)=fh S hs (A.map (·.L)) hs.length/\m9 w B/\ir w w' hv (aD (fD T S hs hs.length))/\ir w w' hb (jZ B):=by
 have HD:=(show Hid _ from hD);have HOK:=(show Hid _ from ok);have hS2:=ok.sm;have hT2:=ok.tm;have hn:=ok.ok.m;have HH:=(show Hid _ from hH);have HLT:=(show Hid _ from hlt);have HA:=(show Hid _ from hA);have HAS:=(show Hid _ from hAS);have HF:=(show Hid _ from hF);have HN:=(show Hid _ from hN);obtain⟨iS,hiS,hzS0,hzS1,hzS2⟩:=info_parts jI;obtain⟨iL,hiL,hzL0,hzL1,hzL2⟩:=info_parts AJ
 have S0:Hid (Fp w ((w.alloc (.cells #[.slice none 0 0,.slice none 0 0] 271)).alloc (.cells #[.slice none 0 0,.slice none 0 0] 271)) [] ⟨none,0⟩ [] ⟨none,0⟩):=by
  obtain⟨W1,hW1⟩:∃W1,W1=w.alloc (.cells #[.slice none 0 0,.slice none 0 0] 271):=⟨_,rfl⟩
  have z1:W1.heap.size=w.heap.size+1:=by rw[hW1];simp
  have k0:ab [] w W1:=by rw[hW1];exact(ab.refl [] _).alloc _
  have e0:W1.heap[w.heap.size]?=some (.cells #[.slice none 0 0,.slice none 0 0] 271 (0,0)):=by rw[hW1];exact heap_alloc_new _ _
  have k1:ab [] W1 (W1.alloc (.cells #[.slice none 0 0,.slice none 0 0] 271)):=(ab.refl [] _).alloc _
  show Fp _ _ _ _ _ _
  rw[<-hW1];exact⟨k1.get e0 (by simp),by rw[<-z1];exact heap_alloc_new _ _,World.ownsRow_nil _ _ _ _,World.ownsRow_nil _ _ _ _,(by intro k hk;cases hk),(by intro k hk;cases hk),(by intro k hk;cases hk),(fun s hs=>by cases hs),k0.trans k1⟩
 obtain⟨M,HM0⟩:∃M,Hid (A.map (·.L)=M):=⟨_,rfl⟩
 rw[HM0.out];have HMA:Hid (∀k,k<A.length->M.getD k []=(eU A k).L):=fun k hk=>by rw[<-HM0.out];exact t9 A k hk
 have HV0:Hid (([]:List ByteArray)=fD T S hs 0):=rfl;have HB0:Hid (([]:List Sl).map (·.L)=fh S hs M 0):=rfl;clear hD ok hH hlt hA hAS hF hN;go_enter Tryz.func177,Tryz.ntmps177;go_wp2
 go_loopg [8] hs.length (fun g i wr=>∃(k:Nat) (V:List ByteArray) (hv:Hd) (B:List Sl) (hb:Hd),k<=hs.length/\g=hs.length-k/\i=.int .i64 k/\(V.length<=k/\B.length<=k)/\Hid (V=fD T S hs k)/\Hid (B.map (·.L)=fh S hs M k)/\Hid (Fp w wr V hv B hb))
 case atStart=>exact⟨0,[],⟨none,0⟩,[],⟨none,0⟩,by omega,rfl,rfl,⟨Nat.le_refl _,Nat.le_refl _⟩,HV0,HB0,S0⟩
 case round =>
  obtain⟨k,V,hv,B,hb,hk,hg,rfl,⟨hVl,hBl⟩,HV,HB,HW⟩:=hrel;have HKr:=(show Hid _ from HW.out.kept)
  by_cases hlt:k<hs.length
  ·have hki:(k:Int)<(hs.length:Int):=by omega
   have hjn:=HLT.out hs[k] (List.getElem_mem hlt);have hjs:hs[k]<S.length:=by omega
   obtain⟨gH,rfl,hgH,cHk⟩:=(oX.still HH.out HKr.out) k hs[k] (List.getElem?_eq_getElem hlt);have HDr:=(show Hid _ from eW.still HD.out HKr.out);obtain⟨t0,s0,hbz⟩:=HDr.out.cells;obtain⟨gs,rfl,hgs,-,-,-,q3⟩:=HDr.out.s.2 hs[k] S[hs[k]] (List.getElem?_eq_getElem hjs);have hgd:hs.getD k 0=hs[k]:=by rw[List.getD_eq_getElem?_getD,List.getElem?_eq_getElem hlt];rfl
   have HRP:Hid (CW S hs k=(S[hs[k]].k.toList == [36,102])):=by show _=_;unfold CW;rw[hgd,bC S hs[k] hjs]
   have HIN:=(show Hid _ from Ey S hs k);have hji:((hs[k]:Nat):Int)<(S.length:Int):=by omega
   have hj0:(0:Int)<=((hs[k]:Nat):Int):=by omega
   have HBD:Hid ((S[hs[k]].k.toList == [36,102])=true->∀wx,ab [] w wx->Calls Tryz.prog 72 #[.pointer (some ⟨b,0,none⟩),.int .i64 ((hs[k]:Nat):Int)] wx fun e w'=>∃h',e=.returned (.slice h'.ao (bV T S[hs[k]].h).length h'.cap)/\sS wx w' h' (bV T S[hs[k]].h)):=fun h wx kx=>ki b hs[k] T aoT cT S _ cS wx (eW.still HD.out kx) hjs (by omega) (by have:=HOK.out.e hs[k] hjn;rw[<-bC S hs[k] hjs]at this;exact this (fY h (by decide)))
   have HBY:Hid (bV T S[hs[k]].h=cm T S (hs.getD k 0)):=by show _=_;unfold cm;rw[hgd,bC S hs[k] hjs]
   rw[HBY.out]at HBD;have HF1:=(show Hid _ from HF.out k hlt);rw[HRP.out]at HIN HF1;clear HBY HRP hgd;generalize S[hs[k]].k=sk at *;generalize hs[k]=j at *
   cases h1:(sk.toList == [36,102])
   ·rw[h1,if_neg (by simp),List.append_nil]at HIN
    have HV2:Hid (V=fD T S hs (k+1)):=by show _=_;unfold fD;rw[HIN.out];exact HV.out
    have HB2:Hid (B.map (·.L)=fh S hs M (k+1)):=by show _=_;unfold fh;rw[HIN.out];exact HB.out
    go_upto_region 5 with fail
    go_quiet (fail)
    have HW2:=(show Hid _ from HW.out.still ((ab.refl [] wr).drewN nq));go_wp2
    go_roundg (hs.length-(k+1))
    case measure=>omega
    case rel=>exact⟨k+1,V,hv,B,hb,by omega,rfl,by go_num,⟨by omega,by omega⟩,HV2,HB2,HW2⟩
   ·rw[h1,if_pos rfl]at HIN
    have hbl:=HF1.out h1;have HBC:=(show Hid _ from HBD.out h1);obtain⟨X,HX⟩:∃X,Hid (cm T S (hs.getD k 0)=X):=⟨_,rfl⟩
    rw[HX.out]at hbl HBC;have HV2:Hid (V++[X.getD 1 ⟨#[]⟩]=fD T S hs (k+1)):=by show _=_;unfold fD;rw[HIN.out,List.map_append,HV.out];simp only[List.map_cons,List.map_nil];rw[HX.out];rfl
    have hkA:k<A.length:=by omega
    have HB2:Hid (B.map (·.L)++[(eU A k).L.drop 1]=fh S hs M (k+1)):=by show _=_;unfold fh;rw[HIN.out,List.map_append,HB.out];simp only[List.map_cons,List.map_nil];rw[HMA.out k hkA];rfl
    go_upto_region 5 with fail
    go_quiet (fail)
    go_upto_region 6 with fail
    obtain⟨W2,HW2e⟩:∃W2,Hid (wr.drewN nq=W2):=⟨_,rfl⟩
    rw[HW2e.out];have k2:ab [] wr W2:=by rw[<-HW2e.out];exact(ab.refl [] wr).drewN nq
    have HW2:=(show Hid _ from HW.out.still k2);have HBC2:=(show Hid _ from HBC.out W2 (HKr.out.trans k2));have cHk2:W2.cell? ⟨gH,k,none⟩=some (.int .i64 (j:Int)):=by rw[World.cell?_of_block (k2.block gH hgH (by simp))];exact cHk
    have hgH2:=Nat.lt_of_lt_of_le hgH k2.size;clear t0 s0 hbz q3 cHk hgs k2 HBC
    go_upto_region 7 with (go_at_call 72;refine Calls.mono HBC2.out ?_;rintro e w3 ⟨h3,rfl,x3⟩)
    have HW3:=(show Hid _ from HW2.out.still x3.kept);obtain⟨gX,eX,hgX,cX⟩:=x3.own.srcX 1 _ (kP X 1 hbl);generalize X.getD 1 ⟨#[]⟩=x at *;rw[eX];have hb1:(1:Int)<(X.length:Int):=by omega
    have p0:w3.cell? ⟨w.heap.size+1,0,none⟩=some (.slice hv.ao V.length hv.cap):=by rw[aa HW3.out.c];rfl
    have p1:=ak HW3.out.c 0;have p2:=ae HW3.out.c;have hOw:=HW3.out.v;have hVb:Hid ((aD V).n<=900000000):=by show V.length<=_;omega
    have HVn:Hid ((aD V).n=V.length):=rfl;clear cHk2 hgH2 x3
    go_region_law (refine bD w3 rfl (.tmp 36) (.tmp 40) 61 rfl iS (.string ⟨#[]⟩) 16 hv (aD V) [.string x] Tryz.underlying61 hiS hzS0 hzS1 hzS2 rfl Nat.one_pos (by rw[HVn.out];simp[Act.eval]) hOw hVb.out (by omega) (by simp[Act.eval]) rfl (by simp[Value.oneCell']) ?_;intro ao5 cap5 w5 hw5 hg5;have c5:=hg5.kept.get HW3.out.c (fun hq=>by have:=HW3.out.fv _ (aK hq);omega);have f5:=ak c5 0;have d5:w5.cell? ⟨w.heap.size+1,0,none⟩=some (.slice hv.ao V.length hv.cap):=(by rw[aa c5];rfl);have z5:=ae c5)
    all_goals
     rw[dV]at hw5;have HA2:=(show Hid _ from HW3.out.addV (m:=(aD V).n+1) hg5 hw5 (by simp[aD]));obtain⟨X5,HX5⟩:∃X5,Hid (w5.setCell ⟨w.heap.size+1,0,none⟩ (.slice ao5 ((aD V).n+1) cap5)=X5):=⟨_,rfl⟩
     rw[HX5.out]at HA2 ⊢;clear hw5 hg5 c5 f5 d5 z5 p0 p1 p2 HX5 hgX cX;have HK5:=(show Hid _ from HA2.out.kept);obtain⟨gA,rfl,hgA,cAk⟩:=cG.sl (cG.still HA.out HK5.out) k hkA;have HSS:=(show Hid _ from HAS.out (eU A k) (iJ A k hkA));have hsl:=HN.out (eU A k) (iJ A k hkA);have hkAi:(k:Int)<(A.length:Int):=by omega
     generalize eU A k=s at *;obtain⟨sao,scap,sL⟩:=s;obtain⟨g0,o0,es,-,-⟩:=HSS.out.src 0 _ (kP sL 0 hsl);replace es:sao=some ⟨g0,o0,none⟩:=es;subst es;have hsc:=HSS.out.le;simp only at cAk hsl hsc HB2;have p0:X5.cell? ⟨w.heap.size+1,1,none⟩=some (.slice hb.ao B.length hb.cap):=by rw[aa HA2.out.c];rfl
     have p1:=ak HA2.out.c 1;have p2:=ae HA2.out.c;have hOb:=HA2.out.b;have hBb:Hid ((jZ B).n<=900000000):=by show B.length<=_;omega
     have HBn:Hid ((jZ B).n=B.length):=rfl;have hl1:(1:Int)<=(sL.length:Int):=by omega
     have hl2:1<=sL.length:=hsl;have hc1:1<=scap:=by omega
     have hc2:(sL.length:Int)<=(scap:Int):=by omega
     by_cases hcap:scap=1
     ·subst hcap
      have HT:Hid (np w ⟨some ⟨g0,o0,none⟩,0,sL.drop 1⟩):=by show np w _;rw[List.drop_eq_nil_of_le (by omega)];exact np.none0 (fun e=>by cases e)
      have HLd:Hid (([.slice (some ⟨g0,o0,none⟩) 0 0]:List Value)=By ⟨some ⟨g0,o0,none⟩,0,sL.drop 1⟩):=by show _=_;unfold By;rw[List.drop_eq_nil_of_le (by omega)];rfl
      go_upto_region 8 with fail
      go_region_law (refine bD X5 rfl (.tmp 44) (.tmp 50) 218 rfl iL (.slice none 0 0) 24 hb (jZ B) [.slice (some ⟨g0,o0,none⟩) 0 0] Tryz.underlying218 hiL hzL0 hzL1 hzL2 rfl Nat.one_pos (by rw[HBn.out];simp[Act.eval]) hOb hBb.out (by omega) (by simp[Act.eval]) rfl (by simp[Value.oneCell']) ?_;intro ao6 cap6 w6 hw6 hg6;have c6:=hg6.kept.get HA2.out.c (fun hq=>by have:=HA2.out.fb _ (aK hq);omega);have f6:=ak c6 1;have d6:w6.cell? ⟨w.heap.size+1,1,none⟩=some (.slice hb.ao B.length hb.cap):=(by rw[aa c6];rfl);have z6:=ae c6)
      all_goals
       rw[HLd.out,oo]at hw6
       have HA3:=(show Hid _ from HA2.out.addB (m:=(jZ B).n+1) hg6 hw6 (fun s hs=>by
        rcases List.mem_append.1 hs with h | h
        ·exact HA2.out.s s h
        ·rw[List.mem_singleton.1 h];exact HT.out) (by simp[jZ,kq]))
       have HB3:Hid ((B++[(⟨some ⟨g0,o0,none⟩,0,sL.drop 1⟩:Sl)]).map (·.L)=fh S hs M (k+1)):=by show _=_;rw[List.map_append];exact HB2.out
       clear hw6 hg6 c6;go_wp2
       go_roundg (hs.length-(k+1))
       case measure=>omega
       case rel=>exact⟨k+1,V++[x],⟨ao5,cap5⟩,B++[⟨some ⟨g0,o0,none⟩,0,sL.drop 1⟩],⟨ao6,cap6⟩,by omega,rfl,by go_num,⟨by simp;omega,by simp;omega⟩,HV2,HB3,HA3⟩
     ·have HT:=(show Hid _ from np.tail HSS.out)
      have HLd:Hid (sL.length-1=(sL.drop 1).length):=by show _=_;simp
      go_upto_region 8 with fail
      go_region_law (refine bD X5 rfl (.tmp 44) (.tmp 50) 218 rfl iL (.slice none 0 0) 24 hb (jZ B) [.slice (some ⟨g0,o0+1,none⟩) (sL.length-1) (scap-1)] Tryz.underlying218 hiL hzL0 hzL1 hzL2 rfl Nat.one_pos (by rw[HBn.out];simp[Act.eval]) hOb hBb.out (by omega) (by simp[Act.eval]) rfl (by simp[Value.oneCell']) ?_;intro ao6 cap6 w6 hw6 hg6;have c6:=hg6.kept.get HA2.out.c (fun hq=>by have:=HA2.out.fb _ (aK hq);omega);have f6:=ak c6 1;have d6:w6.cell? ⟨w.heap.size+1,1,none⟩=some (.slice hb.ao B.length hb.cap):=(by rw[aa c6];rfl);have z6:=ae c6)
      all_goals
       rw[HLd.out,show([.slice (some ⟨g0,o0+1,none⟩) (sL.drop 1).length (scap-1)]:List Value)=By ⟨some ⟨g0,o0+1,none⟩,scap-1,sL.drop 1⟩ from rfl,oo]at hw6
       have HA3:=(show Hid _ from HA2.out.addB (m:=(jZ B).n+1) hg6 hw6 (fun s hs=>by
        rcases List.mem_append.1 hs with h | h
        ·exact HA2.out.s s h
        ·rw[List.mem_singleton.1 h];exact HT.out) (by simp[jZ,kq]))
       have HB3:Hid ((B++[(⟨some ⟨g0,o0+1,none⟩,scap-1,sL.drop 1⟩:Sl)]).map (·.L)=fh S hs M (k+1)):=by show _=_;rw[List.map_append];exact HB2.out
       clear hw6 hg6 c6;go_wp2
       go_roundg (hs.length-(k+1))
       case measure=>omega
       case rel=>exact⟨k+1,V++[x],⟨ao5,cap5⟩,B++[⟨some ⟨g0,o0+1,none⟩,scap-1,sL.drop 1⟩],⟨ao6,cap6⟩,by omega,rfl,by go_num,⟨by simp;omega,by simp;omega⟩,HV2,HB3,HA3⟩
  ·have e:k=hs.length:=by omega
   subst e;have hki:¬(hs.length:Int)<(hs.length:Int):=by omega
   have r0:wr.cell? ⟨w.heap.size,0,none⟩=some (.slice none 0 0):=by rw[aa HW.out.r];rfl
   have r1:wr.cell? ⟨w.heap.size,1,none⟩=some (.slice none 0 0):=by rw[aa HW.out.r];rfl
   have r2:=ak HW.out.r 0;have r3:=ak HW.out.r 1;have c0:wr.cell? ⟨w.heap.size+1,0,none⟩=some (.slice hv.ao V.length hv.cap):=by rw[aa HW.out.c];rfl
   have c1:wr.cell? ⟨w.heap.size+1,1,none⟩=some (.slice hb.ao B.length hb.cap):=by rw[aa HW.out.c];rfl
   have hz1:=ae HW.out.c;have hz0:=ae HW.out.r;have HN1:Hid (∀q,hv.blk=some q->q≠w.heap.size):=fun q hq=>by have:=HW.out.fv q hq;omega
   have HN2:Hid (∀q,hb.blk=some q->q≠w.heap.size):=fun q hq=>by have:=HW.out.fb q hq;omega
   have HVV:Hid (fD T S hs hs.length=V):=HV.out.symm;go_wp2;obtain⟨x0,x1⟩:=Fe HW.out.r (.slice hv.ao V.length hv.cap) (.slice hb.ao B.length hb.cap);have kf:ab [] w ((wr.setCell ⟨w.heap.size,0,none⟩ (.slice hv.ao V.length hv.cap)).setCell ⟨w.heap.size,1,none⟩ (.slice hb.ao B.length hb.cap)):=(HKr.out.setCell (Or.inr (by simp)) _).setCell (Or.inr (by simp)) _;exact bodyPost_ret (v:=.agg #[.slice hv.ao V.length hv.cap,.slice hb.ao B.length hb.cap]) (by simp[results,Tryz.results177,go_sem,x0,x1]) rfl ⟨hv,hb,B,by rw[HVV.out],HB.out,HW.out.s,by rw[HVV.out];exact⟨(HW.out.v.aside HN1.out _ _).aside HN1.out _ _,fun q hq=>(by have:=HW.out.fv q hq;omega),kf⟩,⟨(HW.out.b.aside HN2.out _ _).aside HN2.out _ _,fun q hq=>(by have:=HW.out.fb q hq;omega),kf⟩⟩
end Go.Proofs.YtpddjjabfbfifaaGreat
