import Derived.Test.YtpddjjabfbfifaaGreatG27
import Derived.Test.YtpddjjabfbfifaaGreatG28
namespace Go.Proofs.YtpddjjabfbfifaaGreat
open Go.RowKit
set_option maxHeartbeats 40000000
def GE(T:List Tk)(S:List Sm)(hs:List Nat)(M:List (List ByteArray))(V:List ByteArray)(B:List (List ByteArray))(i:Nat):Int :=
 if CW S hs i=true then(if(((M.getD i []).getD 0 ⟨#[]⟩).toList==((cm T S (hs.getD i 0)).getD 0 ⟨#[]⟩).toList)=true then 0 else 7)
 else if mg (gM V B (cm T S (hs.getD i 0))) (M.getD i [])=true then 0 else 8
def Ka(T:List Tk)(S:List Sm)(a:Nat)(V:List ByteArray)(B:List (List ByteArray))(p:ByteArray×ByteArray):Bool:=qH T S a (gM V B [p.1]) (gM V B [p.2])
def nJ(T:List Tk)(S:List Sm)(a c:Nat)(hs:List Nat)(M:List (List ByteArray))(V:List ByteArray)(B:List (List ByteArray)):Int :=
 if(di (GE T S hs M V B) hs.length==0)=false then di (GE T S hs M V B) hs.length else if(lS T S c).all (Ka T S a V B)=true then 0 else 9
theorem nN(V:List ByteArray)(B:List (List ByteArray))(x:ByteArray)(N:Nat)(hB:∀l∈B,l.length<=N)(hN:1<=N):(gM V B [x]).length<=N:=by
 unfold gM;rw[List.flatMap_cons,List.flatMap_nil,List.append_nil];unfold GR
 split
 ·rw[List.getD_eq_getElem?_getD]
  cases h:B[tV V x]? with
  | none=>simp
  | some l=>exact hB l (List.mem_of_getElem? h)
 ·simpa using hN
theorem Jy(V:List ByteArray)(B:List (List ByteArray))(N:Nat)(hB:∀l∈B,l.length<=N)(hN:1<=N)(e:List ByteArray):(gM V B e).length<=N*e.length:=by
 induction e with
 | nil=>exact Nat.zero_le _
 | cons x e ih =>
  have h1:=nN V B x N hB hN;have e2:gM V B (x :: e)=gM V B [x]++gM V B e:=by unfold gM;simp
  rw[e2,List.length_append,List.length_cons,Nat.mul_succ];omega
theorem Et(T:List Tk)(S:List Sm)(a:Nat)(V:List ByteArray)(hV:V.length<=10000)(k:Nat):(kK T S a V k).length<=10000*k:=by
 induction k with
 | zero=>simp[kK]
 | succ k ih =>
  have:=Bl T S a V k V.length;rw[uj,List.length_append];omega
theorem Ep(T:List Tk)(S:List Sm)(a:Nat)(ha:a<=10000):(lS T S a).length<=100000000:=by
 have h1:=kU T S a
 have h2:(iB T S (cC T S a) (cC T S a).length).length<=(cC T S a).length:=by
  unfold iB;rw[List.length_map,List.take_length];exact List.length_filter_le _ _
 have:=Et T S a (iB T S (cC T S a) (cC T S a).length) (by omega) (iB T S (cC T S a) (cC T S a).length).length;unfold lS;omega
set_option maxRecDepth 100000 in
theorem Ea(b n c:Nat)(T:List Tk)(aoT:Option Addr)(cT:Nat)(S:List Sm)(aoS:Option Addr)(cS:Nat)(hs:List Nat)(aoH:Option Addr)(cH:Nat)(A:List Sl)(aoA:Option Addr)(cA:Nat)(V:List ByteArray)(aoV:Option Addr)(cV:Nat)(B:List Sl)(aoB:Option Addr)(cB:Nat)(w:World)(hD:eW w b T aoT cT S aoS cS)(ok:mx T S n)(hcn:c<n)(hcE:bZ (au S c).k=false)(hH:oX w aoH hs)(hlt:∀j∈hs,j<n/\bZ (au S j).k=false)(hHl:hs.length<=10000)(hA:cG w aoA 1 By A)(hAS:m9 w A)(hAX:∀s∈A,id w s.ao s.L)(hHA:hs.length<=A.length)(hAl:A.length<=100000)(hF:∀i,i<hs.length->CW S hs i=true->1<(cm T S (hs.getD i 0)).length)(hN:∀s∈A,0<s.L.length/\s.L.length<=10000)
  (hV:id w aoV V) (hB:cG w aoB 1 By B) (hBS:m9 w B) (hVB:V.length<=B.length) (hBl:B.length<=100000) (hBL:∀s∈B,s.L.length<=10000) :
  Calls Tryz.prog 178 #[.pointer (some ⟨b,0,none⟩),.int .i64 n,.int .i64 c,.slice aoH hs.length cH,.slice aoA A.length cA,.agg #[.slice aoV V.length cV,.slice aoB B.length cB]] w fun e w'=>e=.returned (.int .i64 (nJ T S n c hs (A.map (·.L)) V (B.map (·.L))))/\ab [] w w':=by
 obtain⟨W,HW⟩:∃W,Hid (w.alloc (.cells #[.slice aoV V.length cV,.slice aoB B.length cB] 271)=W):=⟨_,rfl⟩
 have BW:W.heap[w.heap.size]?=some (.cells #[.slice aoV V.length cV,.slice aoB B.length cB] 271 (0,0)):=by rw[<-HW.out];exact heap_alloc_new _ _
 have HKW:Hid (ab [] w W):=by show ab [] w W;rw[<-HW.out];exact(ab.refl [] _).alloc _
 have hn:=ok.ok.m;have hS2:=ok.sm;have hT2:=ok.tm;have HB0:=(show Hid _ from BW);have HD:=(show Hid _ from hD.still HKW.out);have HOK:=(show Hid _ from ok);have HH:=(show Hid _ from hH.still HKW.out);have HLT:=(show Hid _ from hlt);have HA:=(show Hid _ from hA.still HKW.out);have HAS:=(show Hid _ from hAS.still HKW.out);have HAX:Hid (∀s∈A,∀wx,ab [] w wx->id wx s.ao s.L):=fun s hs wx kx=>(hAX s hs).still kx
 have HF:=(show Hid _ from hF);have HN:=(show Hid _ from hN);obtain⟨M,HM0⟩:∃M,Hid (A.map (·.L)=M):=⟨_,rfl⟩
 obtain⟨BM,HBM⟩:∃BM,Hid (B.map (·.L)=BM):=⟨_,rfl⟩
 have HPU:Hid (∀(E:List ByteArray) (aoE:Option Addr) (cE:Nat) (wx:World),ab [] w wx->id wx aoE E->E.length<=10000->Calls Tryz.prog 179 #[.agg #[.slice aoV V.length cV,.slice aoB B.length cB],.slice aoE E.length cE] wx fun e w'=>∃h',e=.returned (.slice h'.ao (gM V BM E).length h'.cap)/\ir wx w' h' (aD (gM V BM E))):=fun E aoE cE wx kx hE hl=>by rw[<-HBM.out];exact zq V aoV cV B aoB cB E aoE cE wx (hV.still kx) (hB.still kx) (hBS.still kx) hVB hBl hE hl hBL
 have HBML:Hid (∀l∈BM,l.length<=10000):=fun l hl=>by
  rw[<-HBM.out]at hl;obtain⟨s,hs,rfl⟩:=List.mem_map.1 hl;exact hBL s hs
 have HMA:Hid (∀k,k<A.length->M.getD k []=(eU A k).L):=fun k hk=>by rw[<-HM0.out];exact t9 A k hk
 rw[HM0.out,HBM.out];have HPR:=(show Hid _ from Bi b c T aoT cT S aoS cS);have HCE:Hid (eD T (au S c).h):=ok.e c hcn hcE;have HR:Hid (nJ T S n c hs M V BM=if(di (GE T S hs M V BM) hs.length==0)=false then di (GE T S hs M V BM) hs.length else if(lS T S c).all (Ka T S n V BM)=true then 0 else 9):=rfl;clear hD ok hH hlt hA hAS hAX hF hN hV hB hBS hBL;go_enter Tryz.func178,Tryz.ntmps178
 go_upto_region 1 with fail
 rw[HW.out];go_wp2
 go_loopg [13] hs.length (fun g i wr=>∃k:Nat,k<=hs.length/\g=hs.length-k/\i=.int .i64 k/\Hid (di (GE T S hs M V BM) k=0)/\Hid (ab [] W wr))
 case atStart=>exact⟨0,by omega,rfl,rfl,rfl,ab.refl _ _⟩
 case round =>
  obtain⟨k,hk,hg,rfl,HZ,HK⟩:=hrel;have HKr:=(show Hid _ from HKW.out.trans HK.out)
  by_cases hlt:k<hs.length
  ·have hki:(k:Int)<(hs.length:Int):=by omega
   obtain⟨hjn,hje⟩:=HLT.out hs[k] (List.getElem_mem hlt);have hjs:hs[k]<S.length:=by omega
   have hgd:hs.getD k 0=hs[k]:=by rw[List.getD_eq_getElem?_getD,List.getElem?_eq_getElem hlt];rfl
   obtain⟨gH,rfl,hgH,cHk⟩:=(oX.still HH.out HK.out) k hs[k] (List.getElem?_eq_getElem hlt);have HBD:Hid (Calls Tryz.prog 72 #[.pointer (some ⟨b,0,none⟩),.int .i64 ((hs[k]:Nat):Int)] wr fun e w'=>∃h',e=.returned (.slice h'.ao (bV T S[hs[k]].h).length h'.cap)/\sS wr w' h' (bV T S[hs[k]].h)):=ki b hs[k] T aoT cT S _ cS wr (eW.still HD.out HK.out) hjs (by omega) (by rw[bC S hs[k] hjs];exact HOK.out.e hs[k] hjn hje);have HBY:Hid (bV T S[hs[k]].h=cm T S (hs.getD k 0)):=by show _=_;unfold cm;rw[hgd,bC S hs[k] hjs]
   have hXl:=jR T S[hs[k]].h;rw[HBY.out]at HBD hXl;have HRP:Hid (CW S hs k=(S[hs[k]].k.toList == [36,102])):=by show _=_;unfold CW;rw[hgd,bC S hs[k] hjs]
   have HF1:=(show Hid _ from HF.out k hlt)
   have HSC:Hid (∀w':World,ab [] W w'->w'.cell? ⟨gH,k,none⟩=some (.int .i64 ((hs[k]:Nat):Int))/\gH<w'.heap.size/\∃gs,aoS=some ⟨gs,0,none⟩/\gs<w'.heap.size/\w'.cell? ⟨b,1,none⟩=some (.slice aoS S.length cS)/\b<w'.heap.size/\w'.cell? ⟨gs,hs[k]*4+3,none⟩=some (.string S[hs[k]].k)):=fun w' kw=>by
    obtain⟨g2,e2,h2,c2⟩:=(oX.still HH.out kw) k hs[k] (List.getElem?_eq_getElem hlt)
    cases e2
    have hd:=eW.still HD.out kw;obtain⟨-,s0,hb⟩:=hd.cells;obtain⟨gs,e3,hgs,-,-,-,q3⟩:=hd.s.2 hs[k] S[hs[k]] (List.getElem?_eq_getElem hjs);exact⟨c2,h2,gs,e3,hgs,s0,hb,q3⟩
   have hkA:k<A.length:=by omega
   have HME:Hid (GE T S hs M V BM k=if CW S hs k=true then(if(((eU A k).L.getD 0 ⟨#[]⟩).toList==((cm T S (hs.getD k 0)).getD 0 ⟨#[]⟩).toList)=true then 0 else 7) else if mg (gM V BM (cm T S (hs.getD k 0))) (eU A k).L=true then 0 else 8):=by show _=_;unfold GE;rw[HMA.out k hkA]
   have HSTOP:Hid ((GE T S hs M V BM k==0)=false->nJ T S n c hs M V BM=GE T S hs M V BM k):=fun h=>by
    have:=mA HZ.out h hlt;rw[HR.out,this,if_pos h]
   have HGO:Hid (GE T S hs M V BM k=0->di (GE T S hs M V BM) (k+1)=0):=fun h=>by rw[di,HZ.out];exact h
   rw[HRP.out]at HME HF1;clear HBY HRP hgd hje;have hji:((hs[k]:Nat):Int)<(S.length:Int):=by omega
   have hj0:(0:Int)<=((hs[k]:Nat):Int):=by omega
   obtain⟨X,HX⟩:∃X,Hid (cm T S (hs.getD k 0)=X):=⟨_,rfl⟩
   rw[HX.out]at HBD hXl HME HF1;generalize S[hs[k]].k=sk at *;generalize hs[k]=j at *
   go_upto_region 5 with (go_at_call 72;refine Calls.mono HBD.out ?_;rintro e w1 ⟨h1,rfl,x1⟩)
   have HK1:=(show Hid _ from HK.out.trans x1.kept);have HX1:=(show Hid _ from x1.own.srcX);obtain⟨cH1,hgH1,gs,rfl,hgs,s0,hbz,q3⟩:=HSC.out w1 HK1.out;obtain⟨a1,c1⟩:=h1;clear cHk hgH x1;have hNk:=HN.out (eU A k) (iJ A k hkA);have HAXk:=(show Hid _ from HAX.out (eU A k) (iJ A k hkA));have HAk:Hid (∀w':World,ab [] W w'->∃gA,aoA=some ⟨gA,0,none⟩/\gA<w'.heap.size/\w'.cell? ⟨gA,k,none⟩=some (.slice (eU A k).ao (eU A k).L.length (eU A k).cap)):=fun w' kw=>cG.sl (cG.still HA.out kw) k hkA
   have hkAi:(k:Int)<(A.length:Int):=by omega
   generalize eU A k=s at *;obtain⟨sao,scap,sL⟩:=s;simp only at HAXk HAk hNk HME;obtain⟨hN1,hN2⟩:=hNk
   cases hf:(sk.toList == [36,102])
   ·rw[hf,if_neg (by simp)]at HME
    go_quiet (fail)
    obtain⟨W2,HW2⟩:∃W2,Hid (w1.drewN nq=W2):=⟨_,rfl⟩
    go_upto_region 8 with fail
    rw[HW2.out];have k2:ab [] w1 W2:=by rw[<-HW2.out];exact(ab.refl [] w1).drewN nq
    have HK2:=(show Hid _ from HK1.out.trans k2);have BR:=HK2.out.get HB0.out (by simp);have r0:W2.cell? ⟨w.heap.size,0,none⟩=some (.slice aoV V.length cV):=by rw[aa BR];rfl
    have r1:W2.cell? ⟨w.heap.size,1,none⟩=some (.slice aoB B.length cB):=by rw[aa BR];rfl
    have hzr:=ae BR;have HPC:=(show Hid _ from HPU.out X a1 c1 W2 (HKW.out.trans HK2.out) (id.still HX1.out k2) (by omega));have hpl:=Jy V BM 10000 HBML.out (by omega) X;obtain⟨Y,HY⟩:∃Y,Hid (gM V BM X=Y):=⟨_,rfl⟩
    rw[HY.out]at HPC HME hpl;clear cH1 hgH1 hgs s0 hbz q3 HW2
    go_upto_region 9 with (go_at_call 179;refine Calls.mono HPC.out ?_;rintro e w3 ⟨h3,rfl,x3⟩)
    have HK3:=(show Hid _ from HK2.out.trans x3.kept);obtain⟨gA,rfl,hgA,cA0⟩:=HAk.out w3 HK3.out;have HSM:=(show Hid _ from zE Y sL h3.ao sao h3.cap scap w3 x3.own.srcX (HAXk.out w3 (HKW.out.trans HK3.out)) (by omega));obtain⟨sm,Hsm⟩:∃sm,Hid (mg Y sL=sm):=⟨_,rfl⟩
    rw[Hsm.out]at HSM HME;clear x3 r0 r1 hzr
    cases sm
    ·rw[if_neg (by simp)]at HME
     have HM:=(show Hid _ from HSTOP.out (by rw[HME.out];rfl));rw[HME.out]at HM;go_wp2_with (go_at_call 133;refine Calls.mono HSM.out ?_;rintro e w4 ⟨rfl,k4⟩;have HK4:=(show Hid _ from HK3.out.trans k4);clear k4);go_ret;exact⟨am HM.out.symm,HKW.out.trans HK4.out⟩
    ·rw[if_pos rfl]at HME
     have HM:=(show Hid _ from HGO.out HME.out);go_wp2_with (go_at_call 133;refine Calls.mono HSM.out ?_;rintro e w4 ⟨rfl,k4⟩;have HK4:=(show Hid _ from HK3.out.trans k4);clear k4)
     go_roundg (hs.length-(k+1))
     case measure=>omega
     case rel=>exact⟨k+1,by omega,rfl,by go_num,HM,HK4⟩
   ·rw[hf,if_pos rfl]at HME
    have hX1:=HF1.out hf;obtain⟨gX,eX,hgX,cX⟩:=HX1.out 0 _ (kP X 0 (by omega));replace eX:a1=some ⟨gX,0,none⟩:=eX;subst eX
    go_quiet (fail)
    obtain⟨W2,HW2⟩:∃W2,Hid (w1.drewN nq=W2):=⟨_,rfl⟩
    go_upto_region 6 with fail
    rw[HW2.out];have k2:ab [] w1 W2:=by rw[<-HW2.out];exact(ab.refl [] w1).drewN nq
    have HK2:=(show Hid _ from HK1.out.trans k2);obtain⟨gA,rfl,hgA,cA0⟩:=HAk.out W2 HK2.out;obtain⟨g0,es,hg0,c00⟩:=HAXk.out W2 (HKW.out.trans HK2.out) 0 _ (kP sL 0 hN1);subst es;have cX2:W2.cell? ⟨gX,0,none⟩=some (.string (X.getD 0 ⟨#[]⟩)):=by rw[World.cell?_of_block (k2.block gX hgX (by simp))];exact cX
    have hgX2:=Nat.lt_of_lt_of_le hgX k2.size;have hX0:(0:Int)<(X.length:Int):=by omega
    have hsL0:(0:Int)<(sL.length:Int):=by omega
    generalize sL.getD 0 ⟨#[]⟩=x at *;generalize X.getD 0 ⟨#[]⟩=y at *;clear cH1 hgH1 hgs s0 hbz q3 HW2 cX k2 nq
    cases hxy:(x.toList==y.toList)
    ·rw[hxy,if_neg (by simp)]at HME
     have HM:=(show Hid _ from HSTOP.out (by rw[HME.out];rfl));rw[HME.out]at HM
     go_quiet (fail)
     have HK4:=(show Hid _ from HK2.out.trans ((ab.refl [] W2).drewN nq));go_wp2;go_ret;exact⟨am HM.out.symm,HKW.out.trans HK4.out⟩
    ·rw[hxy,if_pos rfl]at HME
     have HM:=(show Hid _ from HGO.out HME.out)
     go_quiet (fail)
     have HK4:=(show Hid _ from HK2.out.trans ((ab.refl [] W2).drewN nq));go_wp2
     go_roundg (hs.length-(k+1))
     case measure=>omega
     case rel=>exact⟨k+1,by omega,rfl,by go_num,HM,HK4⟩
  ·have e:k=hs.length:=by omega
   subst e;rw[HZ.out,if_neg (by decide)]at HR;have hki:¬(hs.length:Int)<(hs.length:Int):=by omega
   have HPC:=(show Hid _ from HPR.out wr (eW.still HD.out HK.out) (HOK.out.mono (by omega)) (by omega) HCE.out);obtain⟨PR,HPe⟩:∃PR,Hid (lS T S c=PR):=⟨_,rfl⟩
   rw[HPe.out]at HPC HR
   go_upto_region 13 with (go_at_call 64;refine Calls.mono HPC.out ?_;rintro e w2 ⟨h2,rfl,x2⟩)
   have HK2:=(show Hid _ from HK.out.trans x2.kept);have HSP:=(show Hid _ from x2.own.srcG GQ);have hPl:PR.length<=100000000:=by rw[<-HPe.out];exact Ep T S c (by omega)
   obtain⟨ap,cp⟩:=h2;clear x2 HPC HZ;go_wp2
   go_loopg [18] PR.length (fun g i wr=>∃m:Nat,m<=PR.length/\g=PR.length-m/\i=.int .i64 m/\Hid (∀q (hq:q<PR.length),q<m->Ka T S n V BM PR[q]=true)/\Hid (ab [] w2 wr))
   case atStart=>exact⟨0,by omega,rfl,rfl,(fun q _ h=>by omega),ab.refl _ _⟩
   case round =>
    obtain⟨m,hm,hg2,rfl,HAL,HK3⟩:=hrel;have HK4:=(show Hid _ from HK2.out.trans HK3.out)
    by_cases hlt2:m<PR.length
    ·have hmi:(m:Int)<(PR.length:Int):=by omega
     obtain⟨gP,eP,hgP,cP⟩:=HSP.out m PR[m] (List.getElem?_eq_getElem hlt2);subst eP
     have HCP:Hid (∀w':World,ab [] w2 w'->w'.cell? ⟨gP,m*2,none⟩=some (.string PR[m].1)/\w'.cell? ⟨gP,m*2+1,none⟩=some (.string PR[m].2)/\gP<w'.heap.size/\w'.cell? ⟨w.heap.size,0,none⟩=some (.slice aoV V.length cV)/\w'.cell? ⟨w.heap.size,1,none⟩=some (.slice aoB B.length cB)/\w.heap.size<w'.heap.size):=fun w' kw=>by
      have BR:=(HK2.out.trans kw).get HB0.out (by simp);exact⟨by rw[World.cell?_of_block (kw.block gP hgP (by simp))];exact cP 0 _ rfl,by rw[World.cell?_of_block (kw.block gP hgP (by simp))];exact cP 1 _ rfl,Nat.lt_of_lt_of_le hgP kw.size,by rw[aa BR];rfl,by rw[aa BR];rfl,ae BR⟩
     have HMP:Hid (Ka T S n V BM PR[m]=qH T S n (gM V BM [PR[m].1]) (gM V BM [PR[m].2])):=rfl
     have HSTOP:Hid (Ka T S n V BM PR[m]=false->nJ T S n c hs M V BM=9):=fun h=>by
      rw[HR.out,if_neg];rw[List.all_eq_true];intro hall;have:=hall PR[m] (List.getElem_mem hlt2);rw[h]at this;cases this
     have HGO:Hid (Ka T S n V BM PR[m]=true->∀q (hq:q<PR.length),q<m+1->Ka T S n V BM PR[q]=true):=fun h q hq h2=>by
      by_cases e:q=m
      ·subst e;exact h
      ·exact HAL.out q hq (by omega)
     generalize Ka T S n V BM PR[m]=mp at *;generalize PR[m].1=x at *;generalize PR[m].2=y at *;clear cP;obtain⟨cx,cy,hgPz,v0,v1,hvz⟩:=HCP.out wr HK3.out;have hpx:=nN V BM x 10000 HBML.out (by omega);have hpy:=nN V BM y 10000 HBML.out (by omega)
     have HSX:Hid (id (wr.alloc (.cells #[.string x] 9)).drew (some ⟨wr.heap.size,0,none⟩) [x]):=by
      intro q z hq;have hk:(wr.alloc (.cells #[.string x] 9)).drew.heap[wr.heap.size]?=some (.cells #[.string x] 9 (0,0)):=heap_alloc_new _ _;refine⟨_,rfl,ae hk,?_⟩;rw[aa hk]
      match q,hq with
      | 0,hq=>simp at hq;subst hq;rfl
     go_upto_region 16 with fail
     go_region_with (go_at_call 179;refine(HPU.out [x] (some ⟨wr.heap.size,0,none⟩) 1 _ (by exact((HKW.out.trans HK4.out).alloc _).drew) (by exact HSX.out) (by simp)).mono ?_;rintro e w5 ⟨h5,rfl,x5⟩)
     all_goals
      have HK5:Hid (ab [] w2 w5):=((HK3.out.alloc _).drew).trans x5.kept;have HX5:=(show Hid _ from x5.own.srcX);obtain⟨PX,HPX⟩:∃PX,Hid (gM V BM [x]=PX):=⟨_,rfl⟩
      rw[HPX.out]at HX5 hpx HMP ⊢
      have HSY:Hid (id (w5.alloc (.cells #[.string y] 9)).drew (some ⟨w5.heap.size,0,none⟩) [y]):=by
       intro q z hq;have hk:(w5.alloc (.cells #[.string y] 9)).drew.heap[w5.heap.size]?=some (.cells #[.string y] 9 (0,0)):=heap_alloc_new _ _;refine⟨_,rfl,ae hk,?_⟩;rw[aa hk]
       match q,hq with
       | 0,hq=>simp at hq;subst hq;rfl
      clear cx cy hgPz v0 v1 hvz x5 HSX;obtain⟨cx,cy,hgPz,v0,v1,hvz⟩:=HCP.out w5 HK5.out
      go_upto_region 17 with fail
      go_region_with (go_at_call 179;refine(HPU.out [y] (some ⟨w5.heap.size,0,none⟩) 1 _ (by exact(((HKW.out.trans HK2.out).trans HK5.out).alloc _).drew) (by exact HSY.out) (by simp)).mono ?_;rintro e w6 ⟨h6,rfl,x6⟩)
      all_goals
       have HK6:Hid (ab [] w2 w6):=((HK5.out.alloc _).drew).trans x6.kept;have HCL:=(show Hid _ from Ds b n PX (gM V BM [y]) h5.ao h6.ao h5.cap h6.cap T aoT cT S aoS cS w6 (eW.still HD.out (HK2.out.trans HK6.out)) HOK.out (id.still HX5.out ((((ab.refl [] w5).alloc _).drew).trans x6.kept)) x6.own.srcX (by omega) (by omega));rw[<-HMP.out]at HCL;clear x6
       cases mp
       ·have HM:=(show Hid _ from HSTOP.out rfl)
        go_wp2_with (go_at_call 214;refine Calls.mono HCL.out ?_;rintro e w7 ⟨rfl,k7⟩;have HK7:=(show Hid _ from(HK2.out.trans HK6.out).trans k7);clear k7);go_ret;exact⟨am HM.out.symm,HKW.out.trans HK7.out⟩
       ·have HM:=(show Hid _ from HGO.out rfl)
        go_wp2_with (go_at_call 214;refine Calls.mono HCL.out ?_;rintro e w7 ⟨rfl,k7⟩;have HK7:=(show Hid _ from HK6.out.trans k7);clear k7)
        go_roundg (PR.length-(m+1))
        case measure=>omega
        case rel=>exact⟨m+1,by omega,rfl,by go_num,HM,HK7⟩
    ·have em:m=PR.length:=by omega
     have HM:Hid (nJ T S n c hs M V BM=0):=by
      show _=_
      rw[HR.out,if_pos];rw[List.all_eq_true];intro p hp;obtain⟨q,hq,e⟩:=List.getElem_of_mem hp;rw[<-e];exact HAL.out q hq (by omega)
     have hmi:¬(m:Int)<(PR.length:Int):=by omega
     go_wp2;go_ret;exact⟨am HM.out.symm,HKW.out.trans HK4.out⟩
end Go.Proofs.YtpddjjabfbfifaaGreat
