import Derived.Test.YtpddjjabfbfifaaGreatG29
namespace Go.Proofs.YtpddjjabfbfifaaGreat
open Go.RowKit
set_option maxHeartbeats 40000000
def ri(T:List Tk)(S:List Sm)(a:Nat)(P:List cQ)(i:Nat)(M:List (List ByteArray)):List ByteArray×Int :=
 if(bG P i).ref=-2 then(M.getD (bG P i).back [],0)
 else if aE (au S (bG P i).ref.toNat).k=false then(if 32<(cm T S (bG P i).ref.toNat).length then([],10) else(cm T S (bG P i).ref.toNat,0))
 else if dB P i<0 then([],6)
 else
  let hs:=cC T S (bG P i).ref.toNat
  let on:=(lp P i).map (fun q=>M.getD q [])
  let why:=nJ T S a (bG P i).ref.toNat hs on (fD T S hs hs.length) (fh S hs on hs.length)
  if(why==0)=false then([],why)
  else if 32<(gM (fD T S hs hs.length) (fh S hs on hs.length) (cm T S (bG P i).ref.toNat)).length then([],10)
  else(gM (fD T S hs hs.length) (fh S hs on hs.length) (cm T S (bG P i).ref.toNat),0)
structure mw(w:World)(s:Sl):Prop where
 ok:np w s
 x:id w s.ao s.L
 pos:0<s.L.length
 le:s.L.length<=10000
theorem mw.still{w w':World}{s:Sl}(h:mw w s)(k:ab [] w w'):mw w' s:=⟨h.ok.still k,h.x.still k,h.pos,h.le⟩
def Fq(T:List Tk)(S:List Sm)(n:Nat):Prop:=∀j,j<n->(aE (au S j).k||aH (au S j).k)=true->0<(cm T S j).length/\(((au S j).k.toList == [36,102])=true->1<(cm T S j).length)
structure FD(T:List Tk)(S:List Sm)(a:Nat)(P:List cQ)(i:Nat):Prop where
 ways:((bG P i).ref=-2/\(bG P i).back<i)∨∃r,r<a/\(bG P i).ref=(r:Nat)/\(aE (au S r).k||aH (au S r).k)=true/\(aE (au S r).k=true->(bG P i).need=(cC T S r).length)
theorem vR(T:List Tk)(S:List Sm)(a:Nat):∀j∈cC T S a,j<a/\bZ (au S j).k=false/\aH (au S j).k=true:=fun j hj=>by
 have h1:=pV T S a j hj;have h2:=(List.mem_filter.1 hj).2;unfold tT at h2;rw[Bool.and_eq_true,Bool.or_eq_true,Bool.and_eq_true]at h2
 rcases h2.2 with h | ⟨h,-⟩
 ·exact⟨h1,fY h (by decide),by unfold aH;rw[h];simp⟩
 ·exact⟨h1,fY h (by decide),by unfold aH;rw[h];simp⟩
def FC(w:World)(A:List Sl)(r:List ByteArray×Int)(e:Ending)(w':World):Prop:=∃s:Sl,e=.returned (.tuple #[.slice s.ao s.L.length s.cap,.int .i64 r.2])/\s.L=r.1/\((r.2==0)=true->mw w' s)/\(s∈A∨∀q o,s.ao=some ⟨q,o,none⟩->w.heap.size<=q)/\ab [] w w'
theorem FV{h:Hd}{q o:Nat}(e:h.ao=some ⟨q,o,none⟩):h.blk=some q:=by unfold Hd.blk;rw[e];rfl
theorem ou{w w':World}{A:List Sl}{r:List ByteArray×Int}{e:Ending}(h1:r.1=[])(h2:(r.2==0)=false)(he:e=.returned (.tuple #[.slice none 0 0,.int .i64 r.2]))(k:ab [] w w'):FC w A r e w' :=
 ⟨⟨none,0,[]⟩,he,h1.symm,fun h=>(by rw[h2]at h;cases h),Or.inr (fun q o e=>by cases e),k⟩
theorem ir.sh{w wr:World}{h:Hd}{L:List ByteArray}(a:ir w wr h (aD L))(h0:0<L.length)(h1:L.length<=10000):mw wr ⟨h.ao,h.cap,L⟩:=⟨a.sl,a.own.srcX,h0,h1⟩
theorem vg{α:Type}(R:List Nat)(f:Nat->α)(k:Nat)(h:k<R.length):(R.take (k+1)).map f=(R.take k).map f++[f R[k]]:=by
 rw[List.take_succ_eq_append_getElem h,List.map_append];rfl
theorem Gt{V:List ByteArray}{x:ByteArray}(h:aI V x=false):tV V x=V.length:=by
 refine Gs rfl (fun j hj _=>?_);unfold aI at h;rw[List.any_eq_false]at h;have:=h V[j] (List.getElem_mem hj);simpa using this
theorem Jz{V:List ByteArray}{B:List (List ByteArray)}{X:List ByteArray}(h0:0<X.length)(h:aI V (X.getD 0 ⟨#[]⟩)=false):0<(gM V B X).length:=by
 cases X with
 | nil=>simp at h0
 | cons x X =>
  have e:(x :: X).getD 0 ⟨#[]⟩=x:=rfl;rw[e]at h;unfold gM;rw[List.flatMap_cons,List.length_append];unfold GR;rw[Gt h,if_neg (by omega)];simp;omega
theorem Ez{S:List Sm}{hs:List Nat}{M:List (List ByteArray)}{k N:Nat}(h:∀l∈M,l.length<=N):∀l∈fh S hs M k,l.length<=N:=by
 intro l hl;unfold fh at hl;obtain⟨i,-,rfl⟩:=List.mem_map.1 hl;rw[List.length_drop,List.getD_eq_getElem?_getD]
 cases e:M[i]? with
 | none=>simp
 | some m=>have:=h m (List.mem_of_getElem? e);show m.length-1<=N;omega
def Kg(T:List Tk)(S:List Sm)(n:Nat):Prop:=∀r,r<n->aE (au S r).k=true->aI (fD T S (cC T S r) (cC T S r).length) ((cm T S r).getD 0 ⟨#[]⟩)=false
set_option maxRecDepth 100000 in
theorem EV(b n i:Nat)(T:List Tk)(aoT:Option Addr)(cT:Nat)(S:List Sm)(aoS:Option Addr)(cS:Nat)(P:List cQ)(aoP:Option Addr)(cP:Nat)(y:Int)(pf:ByteArray)(pl pc:Int)(A:List Sl)(aoA:Option Addr)(cA:Nat)(w:World)(hD:eW w b T aoT cT S aoS cS)(ok:mx T S n)(hB:Fq T S n)(hTc:Kg T S n)(hn:n<S.length)(hP:cG w aoP 6 j5 P)(hPl:P.length<=100000000)(hNd:IB P)(hi:i<P.length)(hSt:FD T S n P i)(hA:cG w aoA 1 By A)(hAo:∀s∈A,mw w s)(hAi:A.length=i) :
  Calls Tryz.prog 131 #[.pointer (some ⟨b,0,none⟩),.int .i64 n,.agg #[.slice aoP P.length cP,.int .i64 y,.string pf,.int .i64 pl,.int .i64 pc],.int .i64 i,.slice aoA A.length cA] w fun e w'=>FC w A (ri T S n P i (A.map (·.L))) e w':=by
 obtain⟨W,HW⟩:∃W,Hid (w.alloc (.cells #[.slice aoP P.length cP,.int .i64 y,.string pf,.int .i64 pl,.int .i64 pc] 122)=W):=⟨_,rfl⟩
 have BW:W.heap[w.heap.size]?=some (.cells #[.slice aoP P.length cP,.int .i64 y,.string pf,.int .i64 pl,.int .i64 pc] 122 (0,0)):=by rw[<-HW.out];exact heap_alloc_new _ _
 have HKW:Hid (ab [] w W):=by show ab [] w W;rw[<-HW.out];exact(ab.refl [] _).alloc _
 have p0:W.cell? ⟨w.heap.size,0,none⟩=some (.slice aoP P.length cP):=by rw[aa BW];rfl
 have hzW:=ae BW;have hii:(i:Int)<(P.length:Int):=by omega
 obtain⟨gP,rfl,hgP,q0,q1,q2,q3,q4,q5⟩:=cG.step (hP.still HKW.out) i hi;have HP:=(show Hid _ from hP);have HD:=(show Hid _ from hD);have HOK:=(show Hid _ from ok);have HBO:=(show Hid _ from hB);have HTC:=(show Hid _ from hTc);have HA:=(show Hid _ from hA);have HAO:=(show Hid _ from hAo);have hS2:=ok.sm;have hT2:=ok.tm;have HNd:=(show Hid _ from hNd);obtain⟨M,HM0⟩:∃M,Hid (A.map (·.L)=M):=⟨_,rfl⟩
 have HMA:Hid (∀k,k<A.length->M.getD k []=(eU A k).L):=fun k hk=>by rw[<-HM0.out];exact t9 A k hk
 rw[HM0.out];have HBG:=(show Hid _ from qG P (some ⟨gP,0,none⟩) cP y pf pl pc hPl hNd (i+1) i);have HRS:Hid (∀wx,cG wx (some ⟨gP,0,none⟩) 6 j5 P->0<=dB P i->Calls Tryz.prog 102 #[.agg #[.slice (some ⟨gP,0,none⟩) P.length cP,.int .i64 y,.string pf,.int .i64 pl,.int .i64 pc],.int .i64 i] wx fun e w'=>∃g,e=.returned (.slice (some ⟨g,0,none⟩) (bG P i).need (bG P i).need)/\lX w' g (lp P i)/\ab [] wx w'):=fun wx h1 h2=>EI P _ cP y pf pl pc i wx hPl hNd hi h1 h2
 have HRL:=(show Hid _ from EJ P i);have HRLT:=(show Hid _ from G3 P i)
 have HSH:Hid (ri T S n P i M=if(bG P i).ref=-2 then(M.getD (bG P i).back [],0)
  else if aE (au S (bG P i).ref.toNat).k=false then(if 32<(cm T S (bG P i).ref.toNat).length then([],10) else(cm T S (bG P i).ref.toNat,0))
  else if dB P i<0 then([],6)
  else
   let hs:=cC T S (bG P i).ref.toNat
   let on:=(lp P i).map (fun q=>M.getD q [])
   let why:=nJ T S n (bG P i).ref.toNat hs on (fD T S hs hs.length) (fh S hs on hs.length)
   if(why==0)=false then([],why)
   else if 32<(gM (fD T S hs hs.length) (fh S hs on hs.length) (cm T S (bG P i).ref.toNat)).length then([],10)
   else(gM (fD T S hs hs.length) (fh S hs on hs.length) (cm T S (bG P i).ref.toNat),0)):=rfl
 have hways:=hSt.ways;have HB0:=(show Hid _ from BW);clear hSt hD ok hB hP hA hAo hNd hTc;obtain⟨iL,hiL,hzL0,hzL1,hzL2⟩:=info_parts AJ;generalize bG P i=st at *;obtain⟨sr,sb,sn,sf,sl,sc⟩:=st;simp only at q0 q1 q2 q3 q4 q5 hways HSH HRS HRL;obtain⟨W1,HW1⟩:∃W1,Hid (W.alloc (.cells #[.int .i64 sr,.int .i64 (sb:Int),.int .i64 (sn:Int),.string sf,.int .i64 sl,.int .i64 sc] 162)=W1):=⟨_,rfl⟩
 have B1:W1.heap[W.heap.size]?=some (.cells #[.int .i64 sr,.int .i64 (sb:Int),.int .i64 (sn:Int),.string sf,.int .i64 sl,.int .i64 sc] 162 (0,0)):=by rw[<-HW1.out];exact heap_alloc_new _ _
 have kW1:ab [] W W1:=by rw[<-HW1.out];exact(ab.refl [] _).alloc _
 have HK1:=(show Hid _ from HKW.out.trans kW1)
 have HCE:Hid (∀wx:World,ab [] W1 wx->(wx.cell? ⟨W.heap.size,0,none⟩=some (.int .i64 sr)/\wx.cell? ⟨W.heap.size,1,none⟩=some (.int .i64 (sb:Int))/\W.heap.size<wx.heap.size)/\(wx.cell? ⟨w.heap.size,0,none⟩=some (.slice (some ⟨gP,0,none⟩) P.length cP)/\wx.cell? ⟨w.heap.size,1,none⟩=some (.int .i64 y)/\wx.cell? ⟨w.heap.size,2,none⟩=some (.string pf)/\wx.cell? ⟨w.heap.size,3,none⟩=some (.int .i64 pl)/\wx.cell? ⟨w.heap.size,4,none⟩=some (.int .i64 pc)/\w.heap.size<wx.heap.size)):=fun wx kx=>by
  have b1:=kx.get B1 (by simp);have b0:=(kW1.trans kx).get HB0.out (by simp);exact⟨⟨by rw[aa b1];rfl,by rw[aa b1];rfl,ae b1⟩,by rw[aa b0];rfl,by rw[aa b0];rfl,by rw[aa b0];rfl,by rw[aa b0];rfl,by rw[aa b0];rfl,ae b0⟩
 clear B1 kW1 BW;obtain⟨⟨s0,s1,hsz⟩,p1,p2,p3,p4,p5,hpz⟩:=HCE.out W1 (ab.refl _ _)
 rcases hways with ⟨rfl,hbk⟩ | ⟨r,hr,rfl,hak,hnd⟩
 ·rw[if_pos rfl]at HSH
  have hbA:sb<A.length:=by omega
  have hbi:(sb:Int)<(A.length:Int):=by omega
  obtain⟨gA,rfl,hgA,cA0⟩:=cG.sl (cG.still HA.out HK1.out) sb hbA;have HO:=(show Hid _ from(HAO.out (eU A sb) (iJ A sb hbA)).still HK1.out);have HMM:Hid (eU A sb∈A):=iJ A sb hbA;rw[HMA.out sb hbA]at HSH;generalize eU A sb=s at *;obtain⟨sao,scap,sL⟩:=s;simp only at cA0 HSH;go_enter Tryz.func131,Tryz.ntmps131
  go_upto_region 1 with fail
  rw[HW.out]
  go_upto_region 2 with fail
  rw[HW1.out];go_wp2;go_ret2;rw[HSH.out];exact⟨⟨sao,scap,sL⟩,rfl,rfl,fun _=>HO.out,Or.inl HMM.out,HK1.out⟩
 ·have hrS:r<S.length:=by omega
  rw[if_neg (by omega),Int.toNat_natCast]at HSH;have hr2:(((r:Nat):Int) == -2)=false:=beq_false_of_ne (by omega);have hri:((r:Nat):Int)<(S.length:Int):=by omega
  have hr0:(0:Int)<=((r:Nat):Int):=by omega
  have hends:bZ (au S r).k=false:=by
   unfold aE aH at hak;simp only[Bool.or_eq_true]at hak
   rcases hak with (h | h) | (h | h) <;> exact fY h (by decide)
  have HBD:Hid (∀wx,ab [] w wx->Calls Tryz.prog 72 #[.pointer (some ⟨b,0,none⟩),.int .i64 ((r:Nat):Int)] wx fun e w'=>∃h',e=.returned (.slice h'.ao (cm T S r).length h'.cap)/\sS wx w' h' (cm T S r)):=fun wx kx=>by
   have:=ki b r T aoT cT S aoS cS wx (eW.still HD.out kx) hrS (by omega) (by rw[bC S r hrS];exact HOK.out.e r hr hends);rw[bC S r hrS]at this;exact this
  obtain⟨hb0,-⟩:=HBO.out r hr hak;have hXl:(cm T S r).length<=T.length:=jR T _;obtain⟨X,HX⟩:∃X,Hid (cm T S r=X):=⟨_,rfl⟩
  rw[HX.out]at HBD HSH hb0 hXl
  have HSC:Hid (∀wx:World,ab [] w wx->∃gs,aoS=some ⟨gs,0,none⟩/\gs<wx.heap.size/\wx.cell? ⟨b,1,none⟩=some (.slice aoS S.length cS)/\b<wx.heap.size/\wx.cell? ⟨gs,r*4+3,none⟩=some (.string (au S r).k)):=fun wx kx=>by
   have hd:=eW.still HD.out kx;obtain⟨-,s0,hb⟩:=hd.cells;obtain⟨gs,e3,hgs,-,-,-,q3⟩:=hd.s.2 r S[r] (List.getElem?_eq_getElem hrS);rw[bC S r hrS]at q3;exact⟨gs,e3,hgs,s0,hb,q3⟩
  have HBD1:=(show Hid _ from HBD.out W1 HK1.out);go_enter Tryz.func131,Tryz.ntmps131
  go_upto_region 1 with fail
  rw[HW.out]
  go_upto_region 2 with fail
  rw[HW1.out];clear q0 q1 q2 q3 q4 q5 p0 hgP hzW
  go_upto_region 5 with (go_at_call 72;refine Calls.mono HBD1.out ?_;rintro e w2 ⟨h2,rfl,x2⟩)
  have HK2:=(show Hid _ from HK1.out.trans x2.kept);have Hk2:=(show Hid _ from x2.kept);have HL2:=(show Hid _ from x2.toL);clear x2 s0 s1 hsz p1 p2 p3 p4 p5 hpz;obtain⟨⟨s0,s1,hsz⟩,p1,p2,p3,p4,p5,hpz⟩:=HCE.out w2 Hk2.out;obtain⟨gs,rfl,hgs,t0,hbz,t1⟩:=HSC.out w2 HK2.out;obtain⟨sk,Hsk⟩:∃sk,Hid ((au S r).k=sk):=⟨_,rfl⟩
  rw[Hsk.out]at t1 HSH hnd;obtain⟨as0,Has⟩:∃as0,Hid (aE sk=as0):=⟨_,rfl⟩
  have HAC:Hid (∀wx,Calls Tryz.prog 122 #[.string sk] wx fun e w'=>e=.returned (.bool as0)/\w'=wx):=fun wx=>by rw[<-Has.out];exact eZ sk wx
  rw[Has.out]at HSH hnd
  go_quiet ((go_at_call 122;exact Calls.quiet_of_same (HAC.out _)))
  go_upto_region 6 with fail
  obtain⟨w3,Hw3⟩:∃w3,Hid (w2.drewN nq=w3):=⟨_,rfl⟩
  rw[Hw3.out];have k3:ab [] w2 w3:=by rw[<-Hw3.out];exact(ab.refl [] w2).drewN nq
  have HK3:=(show Hid _ from HK2.out.trans k3);have Hk3:=(show Hid _ from Hk2.out.trans k3);have HL3:=(show Hid _ from HL2.out.still k3);clear s0 s1 hsz p1 p2 p3 p4 p5 hpz hgs t0 hbz t1 k3 Hw3 HAC;obtain⟨⟨s0,s1,hsz⟩,p1,p2,p3,p4,p5,hpz⟩:=HCE.out w3 Hk3.out
  cases as0
  ·rw[if_pos rfl]at HSH
   by_cases h32:32<X.length
   ·rw[if_pos h32]at HSH
    have h32i:(32:Int)<(X.length:Int):=by omega
    go_wp2;go_ret2;rw[HSH.out];exact ou rfl rfl rfl HK3.out
   ·rw[if_neg h32]at HSH
    have h32i:¬(32:Int)<(X.length:Int):=by omega
    go_wp2;go_ret2;rw[HSH.out];exact⟨⟨h2.ao,h2.cap,X⟩,rfl,rfl,fun _=>HL3.out.sh hb0 (by omega),Or.inr (fun q o e=>Nat.le_trans HK1.out.size (HL3.out.far q (FV e))),HK3.out⟩
  ·rw[if_neg (by simp)]at HSH
   have HNE:Hid (sn=(cC T S r).length):=hnd rfl;clear hnd;have HBC:=(show Hid _ from HBG.out w3 (by omega) hi (cG.still HP.out HK3.out))
   by_cases hbg:dB P i<0
   ·rw[if_pos hbg]at HSH
    generalize dB P i=bg at *;go_wp2_with (go_at_call 132;refine Calls.mono HBC.out ?_;rintro e w4 ⟨rfl,k4⟩;have HK4:=(show Hid _ from HK3.out.trans k4);clear k4);go_ret2;rw[HSH.out];exact ou rfl rfl rfl HK4.out
   ·rw[if_neg hbg]at HSH
    have HRC:Hid (∀wx,ab [] w wx->Calls Tryz.prog 102 #[.agg #[.slice (some ⟨gP,0,none⟩) P.length cP,.int .i64 y,.string pf,.int .i64 pl,.int .i64 pc],.int .i64 i] wx fun e w'=>∃g,e=.returned (.slice (some ⟨g,0,none⟩) sn sn)/\lX w' g (lp P i)/\ab [] wx w'):=fun wx kx=>HRS.out wx (cG.still HP.out kx) (by omega)
    have HRT:=(show Hid _ from HRLT.out (by omega));obtain⟨R,HR⟩:∃R,Hid (lp P i=R):=⟨_,rfl⟩
    rw[HR.out]at HRC HRT HSH HRL;generalize dB P i=bg at *
    go_upto_region 11 with (go_at_call 132;refine Calls.mono HBC.out ?_;rintro e w4 ⟨rfl,k4⟩)
    have HK4:=(show Hid _ from HK3.out.trans k4);have Hk4:=(show Hid _ from Hk3.out.trans k4);have HL4:=(show Hid _ from HL3.out.still k4);clear s0 s1 hsz p1 p2 p3 p4 p5 hpz k4;obtain⟨⟨s0,s1,hsz⟩,p1,p2,p3,p4,p5,hpz⟩:=HCE.out w4 Hk4.out;have HRC4:=(show Hid _ from HRC.out w4 HK4.out)
    go_upto_region 14 with (go_at_call 102;refine Calls.mono HRC4.out ?_;rintro e w5 ⟨g5,rfl,i5,k5⟩)
    have HK5:=(show Hid _ from HK4.out.trans k5);have Hk5:=(show Hid _ from Hk4.out.trans k5);have HL5:=(show Hid _ from HL4.out.still k5);have HI5:=(show Hid _ from i5);have HN5:Hid (ir w5 w5 ⟨none,0⟩ (jZ [])):=⟨World.ownsRow_nil _ _ _ _,(by intro k hk;cases hk),ab.refl _ _⟩;clear s0 s1 hsz p1 p2 p3 p4 p5 hpz k5 i5 HRC4 HBC;have hsn:sn<=10000:=by rw[HNE.out];have:=kU T S r;omega
    go_wp2
    go_loopg [17,18] sn (fun g o kv wr=>∃(k:Nat) (h:Hd) (O:List Sl),k<=sn/\g=sn-k/\o=.slice h.ao O.length h.cap/\kv=.int .i64 k/\O.length<=k/\Hid (O=(R.take k).map (eU A))/\Hid (ir w5 wr h (jZ O)))
    case atStart=>exact⟨0,⟨none,0⟩,[],by omega,rfl,rfl,rfl,Nat.le_refl _,by show _=_;simp,HN5⟩
    case round =>
     obtain⟨k,h,O,hk,hg,rfl,rfl,hOl,HO,HW6⟩:=hrel;have HK6:=(show Hid _ from HK5.out.trans HW6.out.kept);have Hk6:=(show Hid _ from Hk5.out.trans HW6.out.kept)
     by_cases hlt:k<sn
     ·have hki:(k:Int)<(sn:Int):=by omega
      have hkR:k<R.length:=by rw[HRL.out];exact hlt
      have hqi:=HRT.out R[k] (List.getElem_mem hkR);have hqA:R[k]<A.length:=by omega
      obtain⟨g6,e6,hg6,c6⟩:=(lX.src (show lX wr g5 R from HW6.out.kept.get HI5.out (by simp))) k R[k] (List.getElem?_eq_getElem hkR)
      cases e6
      obtain⟨gA,rfl,hgA,cA0⟩:=cG.sl (cG.still HA.out HK6.out) R[k] hqA;have HON:Hid (O++[eU A R[k]]=(R.take (k+1)).map (eU A)):=by show _=_;rw[vg R _ k hkR,HO.out]
      have hqAi:((R[k]:Nat):Int)<(A.length:Int):=by omega
      have hq0:(0:Int)<=((R[k]:Nat):Int):=by omega
      generalize eU A R[k]=s at *;generalize R[k]=q at *;obtain⟨sao,scap,sL⟩:=s;simp only at cA0;have hOw:=HW6.out.own;have hOb:(jZ O).n<=900000000:=by show O.length<=_;omega
      go_wp2_with (at_builtin;refine bX _ rfl (.tmp 70) (.tmp 78) 218 rfl iL (.slice none 0 0) 24 h (jZ O) [.slice sao sL.length scap] Tryz.underlying218 hiL hzL0 hzL1 hzL2 rfl Nat.one_pos rfl hOw hOb (by omega) rfl rfl (by simp[Value.oneCell']) ?_;intro h7 w7 hw7 hg7;rw[show([.slice sao sL.length scap]:List Value)=By ⟨sao,scap,sL⟩ from rfl,oo]at hw7;have HM7:=(show Hid _ from HW6.out.grew hg7 hw7);clear hw7 hg7)
      go_roundg (sn-(k+1))
      case measure=>omega
      case rel=>exact⟨k+1,h7,O++[⟨sao,scap,sL⟩],by omega,rfl,by simp[jZ,kq],by go_num,by simp;omega,HON,HM7⟩
     ·have ek:k=sn:=by omega
      subst ek;have HOR:Hid (O=R.map (eU A)):=by show _=_;rw[HO.out,List.take_of_length_le (by rw[HRL.out];exact Nat.le_refl _)]
      have HOlen:Hid (O.length=k):=by show _=_;rw[HOR.out,List.length_map,HRL.out]
      have HOM:Hid (O.map (·.L)=R.map (fun q=>M.getD q [])):=by
       show _=_
       rw[HOR.out,List.map_map];refine List.map_congr_left (fun q hq=>?_);have:=HRT.out q hq;exact(HMA.out q (by omega)).symm
      have HOS:Hid (∀s∈O,∀wx,ab [] w wx->mw wx s):=fun s hs wx kx=>by
       rw[HOR.out]at hs;obtain⟨q,hq,rfl⟩:=List.mem_map.1 hs;have:=HRT.out q hq;exact(HAO.out _ (iJ A q (by omega))).still kx
      have hki:¬(k:Int)<(k:Int):=by omega
      rw[<-HOM.out]at HSH;have HHY:=(show Hid _ from ob b r T aoT cT S _ cS wr (eW.still HD.out HK6.out) (HOK.out.mono (by omega)) hrS (HOK.out.e r hr hends));have HHK:=(show Hid _ from vR T S r);have HTR:=(show Hid _ from HTC.out r hr (by rw[Hsk.out];exact Has.out));rw[HX.out]at HTR;have hHl:(cC T S r).length<=10000:=by have:=kU T S r;omega
      obtain⟨HS,HHS⟩:∃HS,Hid (cC T S r=HS):=⟨_,rfl⟩
      rw[HHS.out]at HHY HHK HSH HNE HTR hHl;obtain⟨⟨s0,s1,hsz⟩,-⟩:=HCE.out wr Hk6.out
      go_upto_region 20 with (go_at_call 62;refine Calls.mono HHY.out ?_;rintro e w7 ⟨h7,rfl,x7⟩)
      have HK7:=(show Hid _ from HK6.out.trans x7.kept);have Hk7:=(show Hid _ from Hk6.out.trans x7.kept);have HL7:=(show Hid _ from(HL5.out.still HW6.out.kept).still x7.kept);have HO7:=(show Hid _ from HW6.out.still x7.kept);have HSN7:=(show Hid _ from x7.own.srcN);have HSO7:=(show Hid _ from HO7.out.own.srcG sM)
      have hF7:∀i,i<HS.length->CW S HS i=true->1<(cm T S (HS.getD i 0)).length:=fun q hq hrd=>by
       have e:HS.getD q 0=HS[q]:=by rw[List.getD_eq_getElem?_getD,List.getElem?_eq_getElem hq];rfl
       unfold CW at hrd;rw[e]at hrd ⊢;obtain⟨j1,-,j3⟩:=HHK.out HS[q] (List.getElem_mem hq);exact(HBO.out HS[q] (by omega) (by rw[j3];simp)).2 hrd
      have HF7:=(show Hid _ from hF7);have hOge:HS.length<=O.length:=by rw[HOlen.out,HNE.out];exact Nat.le_refl _
      have hOle:O.length<=100000:=by have:=HOlen.out;omega
      have HRD:=(show Hid _ from EF b n T aoT cT S _ cS HS h7.ao h7.cap O h.ao h.cap w7 (eW.still HD.out HK7.out) HOK.out HSN7.out (fun j hj=>by have:=(HHK.out j hj).1;omega) hHl HSO7.out (fun s hs=>(HOS.out s hs w7 HK7.out).ok) hOge HF7.out (fun s hs=>(HOS.out s hs w7 HK7.out).pos));clear hF7 s0 s1 hsz x7 HHY;obtain⟨VV,HVV⟩:∃VV,Hid (fD T S HS HS.length=VV):=⟨_,rfl⟩
      rw[HVV.out]at HRD HSH HTR;have HVl:Hid (VV.length=(vj S HS HS.length).length):=by show _=_;rw[<-HVV.out];unfold fD;simp
      obtain⟨OM,HOMe⟩:∃OM,Hid (O.map (·.L)=OM):=⟨_,rfl⟩
      rw[HOMe.out]at HRD HSH;have HBl:Hid ((fh S HS OM HS.length).length=(vj S HS HS.length).length):=by show _=_;unfold fh;simp
      have HIxl:Hid ((vj S HS HS.length).length<=HS.length):=by
       show _<=_
       unfold vj;have:=List.length_filter_le (CW S HS) (List.range HS.length);rw[List.length_range]at this;exact this
      have HBle:Hid (∀l∈fh S HS OM HS.length,l.length<=10000):=Ez (fun l hl=>by
       rw[<-HOMe.out]at hl;obtain⟨s,hs,rfl⟩:=List.mem_map.1 hl;exact(HOS.out s hs w7 HK7.out).le)
      obtain⟨BV,HBV⟩:∃BV,Hid (fh S HS OM HS.length=BV):=⟨_,rfl⟩
      rw[HBV.out]at HRD HSH HBl HBle
      go_upto_region 21 with (go_at_call 177;refine Calls.mono HRD.out ?_;rintro e w8 ⟨hv,hb,B,rfl,hBM,hBS,nv,nb⟩)
      obtain⟨W8,HW8⟩:∃W8,Hid (w8.alloc (.cells #[.slice hv.ao VV.length hv.cap,.slice hb.ao B.length hb.cap] 271)=W8):=⟨_,rfl⟩
      rw[HW8.out];have k8:ab [] w8 W8:=by rw[<-HW8.out];exact(ab.refl [] _).alloc _
      have B8:W8.heap[w8.heap.size]?=some (.cells #[.slice hv.ao VV.length hv.cap,.slice hb.ao B.length hb.cap] 271 (0,0)):=by rw[<-HW8.out];exact heap_alloc_new _ _
      have k78:=nv.kept.trans k8;have HK8:=(show Hid _ from HK7.out.trans k78);have Hk8:=(show Hid _ from Hk7.out.trans k78);have HBl2:Hid (B.length=(vj S HS HS.length).length):=by show _=_;rw[<-HBl.out,<-hBM,List.length_map]
      have hVB:VV.length<=B.length:=by rw[HVl.out,HBl2.out];exact Nat.le_refl _
      have hB1:B.length<=100000:=by have:=HIxl.out;rw[HBl2.out];omega
      have HBL2:Hid (∀s∈B,s.L.length<=10000):=fun s hs=>HBle.out s.L (by rw[<-hBM];exact List.mem_map.2 ⟨s,hs,rfl⟩)
      have HVS:=(show Hid _ from nv.own.srcX.still k8);have HBS:=(show Hid _ from(nb.own.srcG sM).still k8);have HBA:=(show Hid _ from hBS.still k78);have HME:=(show Hid _ from Ea b n r T aoT cT S _ cS HS h7.ao h7.cap O h.ao h.cap VV hv.ao hv.cap B hb.ao hb.cap W8 (eW.still HD.out HK8.out) HOK.out hr hends (oX.still HSN7.out k78) (fun j hj=>⟨by have:=(HHK.out j hj).1;omega,(HHK.out j hj).2.1⟩) hHl (cG.still HSO7.out k78) (fun s hs=>(HOS.out s hs W8 HK8.out).ok) (fun s hs=>(HOS.out s hs W8 HK8.out).x) hOge hOle HF7.out (fun s hs=>⟨(HOS.out s hs W8 HK8.out).pos,(HOS.out s hs W8 HK8.out).le⟩) HVS.out HBS.out HBA.out hVB hB1 HBL2.out);rw[HOMe.out,hBM]at HME;obtain⟨why,Hwhy⟩:∃why,Hid (nJ T S n r HS OM VV BV=why):=⟨_,rfl⟩
      rw[Hwhy.out]at HME HSH;obtain⟨⟨s0,s1,hsz⟩,-⟩:=HCE.out W8 Hk8.out;have v0:W8.cell? ⟨w8.heap.size,0,none⟩=some (.slice hv.ao VV.length hv.cap):=by rw[aa B8];rfl
      have v1:W8.cell? ⟨w8.heap.size,1,none⟩=some (.slice hb.ao B.length hb.cap):=by rw[aa B8];rfl
      have v2:=ae B8;have HB8:=(show Hid _ from B8);have HL8:=(show Hid _ from HL7.out.still k78);have HBM2:=(show Hid _ from hBM);clear k8 k78 nv nb hBS B8 HRD HW8 hBM
      go_upto_region 22 with (go_at_call 178;refine Calls.mono HME.out ?_;rintro e w9 ⟨rfl,k9⟩)
      have HK9:=(show Hid _ from HK8.out.trans k9)
      cases hw0:(why==0)
      ·rw[if_pos hw0]at HSH
       go_wp2;go_ret2;rw[HSH.out];exact ou rfl hw0 rfl HK9.out
      ·rw[if_neg (by rw[hw0];simp)]at HSH
       have hwz:why=0:=by simpa using hw0
       subst hwz;have HPC:=(show Hid _ from zq VV hv.ao hv.cap B hb.ao hb.cap X h2.ao h2.cap w9 (id.still HVS.out k9) (cG.still HBS.out k9) (m9.still HBA.out k9) hVB hB1 (id.still HL8.out.own.srcX k9) (by omega) HBL2.out);rw[HBM2.out]at HPC;have hpp:=Jz (B:=BV) hb0 HTR.out;have B9:=k9.get HB8.out (by simp);obtain⟨Y,HY⟩:∃Y,Hid (gM VV BV X=Y):=⟨_,rfl⟩
       rw[HY.out]at HPC HSH hpp;have v3:w9.cell? ⟨w8.heap.size,0,none⟩=some (.slice hv.ao VV.length hv.cap):=by rw[aa B9];rfl
       have v4:w9.cell? ⟨w8.heap.size,1,none⟩=some (.slice hb.ao B.length hb.cap):=by rw[aa B9];rfl
       have v5:=ae B9;clear k9 v0 v1 v2 s0 s1 hsz
       by_cases h32:32<Y.length
       ·rw[if_pos h32]at HSH
        have h32i:(32:Int)<(Y.length:Int):=by omega
        go_wp2_with (go_at_call 179;refine Calls.mono HPC.out ?_;rintro e w10 ⟨h10,rfl,x10⟩;have HK10:=(show Hid _ from HK9.out.trans x10.kept);clear x10);go_ret2;rw[HSH.out];exact ou rfl rfl rfl HK10.out
       ·rw[if_neg h32]at HSH
        have h32i:¬(32:Int)<(Y.length:Int):=by omega
        go_wp2_with (go_at_call 179;refine Calls.mono HPC.out ?_;rintro e w10 ⟨h10,rfl,x10⟩;have HK10:=(show Hid _ from HK9.out.trans x10.kept);have HX10:=(show Hid _ from x10);clear x10);go_ret2;rw[HSH.out];exact⟨⟨h10.ao,h10.cap,Y⟩,rfl,rfl,fun _=>HX10.out.sh hpp (by omega),Or.inr (fun q o e=>Nat.le_trans HK9.out.size (HX10.out.far q (FV e))),HK10.out⟩
end Go.Proofs.YtpddjjabfbfifaaGreat
