import Derived.Test.YtpddjjabfbfifaaGreatG35
namespace Go.Proofs.YtpddjjabfbfifaaGreat
open Go.RowKit
set_option maxHeartbeats 40000000
def Bq(t:Tk):Lt:=⟨0,t.file,t.line,t.col⟩
def si(T:List Tk)(S:List Sm)(a z:Nat):Nat->Nat->List Nat->jG
 | 0,_,_=>lQ 3 (Bq (T.getD z ic))
 | n+1,i,refs =>
  if((tS T i).toList == [41])=true then i7 T S refs (Bq (T.getD z ic)) (dU T (i+1) z)
  else if dV T S a (tS T i)<0 then lQ 2 (Bq (T.getD i ic))
  else if refs.contains (dV T S a (tS T i)).toNat=true then lQ 3 (Bq (T.getD i ic))
  else si T S a z n (i+1) (refs++[(dV T S a (tS T i)).toNat])
def iQ(T:List Tk)(S:List Sm)(a i z:Nat):jG:=si T S a z (z-i) i (cD T S a)
theorem pE.cells{w:World}{ao:Option Addr}{L:List Nat}(h:pE w ao L):∀ad,ao=some ad->∀j u,(iZ L)[j]?=some u->w.cell? (ad.add j)=some u:=by
 intro ad e j u hj;rw[iZ,List.getElem?_map]at hj
 cases hx:L[j]? with
 | none=>rw[hx]at hj;cases hj
 | some x =>
  rw[hx]at hj
  cases hj
  obtain⟨g,e2,-,c⟩:=h j x hx;rw[e]at e2
  cases e2
  rw[bK];simpa using c
theorem GK(L:List Nat):∀u∈iZ L,u.oneCell'=true:=by
 intro u hu;obtain⟨x,-,rfl⟩:=List.mem_map.1 hu;rfl
theorem Im(L M:List Nat):(⟨(bq L).e,(bq L).size,(bq L).n+M.length,(bq L).xs++iZ M⟩:dK)=bq (L++M):=by
 simp[bq,iZ]
theorem iz.none{w wr:World}{h:Hd}{r:dK}(a:iz w wr h r):h.ao=none->r.n=0/\h.cap=0:=fun e=>by
 rcases a.own.ways with ⟨q1,q2,q3⟩ | ⟨g,cur,q1,-⟩
 ·exact⟨q2,by rw[q1]⟩
 ·rw[e]at q1;cases q1
theorem iz.le{w wr:World}{h:Hd}{r:dK}(a:iz w wr h r):r.n<=h.cap:=by
 rcases a.own.ways with ⟨q1,q2,q3⟩ | ⟨g,cur,q1,-,q3,-⟩
 ·omega
 ·exact q3
theorem pZ(T:List Tk)(S:List Sm)(a:Nat):∀j∈cD T S a,j<a:=fun _ hj=>List.mem_range.1 (List.mem_filter.1 hj).1
theorem kU(T:List Tk)(S:List Sm)(a:Nat):(cD T S a).length<=a:=by
 unfold cD;have:=List.length_filter_le (tw T S a (FL T S a)) (List.range a);rw[List.length_range]at this;exact this
theorem uF(T:List Tk)(hO:eB T)(a z:Nat):(dU T a z).length<=1024*T.length:=by
 have:∀L:List Tk,(∀t∈L,t.s.size<=1024)->(L.flatMap qU).length<=1024*L.length:=by
  intro L
  induction L with
  | nil=>intro _;simp
  | cons t L ih =>
   intro h;have h1:=h t (by simp);have h2:=ih (fun t ht=>h t (by simp[ht]));rw[List.flatMap_cons,List.length_append,List.length_cons];have:(qU t).length=t.s.size:=by unfold qU;simp
   omega
 have h1:=this ((T.drop a).take (z-a)) (fun t ht=>(hO t (List.mem_of_mem_drop (List.mem_of_mem_take ht))).1);have h2:((T.drop a).take (z-a)).length<=T.length:=by rw[List.length_take,List.length_drop];omega
 unfold dU;omega
theorem EA(d:ByteArray)(k:Nat):0<=aF d k/\aF d k<256:=by
 unfold aF
 split
 ·next h=>have:=(d[k]'h).toNat_lt;omega
 ·omega
theorem Fw(T:List Tk)(a z:Nat):∀l∈dU T a z,0<=l.c/\l.c<256:=by
 intro l hl;unfold dU at hl;obtain⟨t,-,ht⟩:=List.mem_flatMap.1 hl;unfold qU at ht;obtain⟨k,-,rfl⟩:=List.mem_map.1 ht;exact EA _ _
theorem oj{w:World}{B:Nat}(h:w.heap[B]?=some (.cells #[.slice none 0 0,.int .i64 0,.string ⟨#[]⟩,.int .i64 0,.int .i64 0] 122 (0,0))) :
  (w.cell? ⟨B,0,none⟩=some (.slice none 0 0)/\w.cell? ⟨B,1,none⟩=some (.int .i64 0)/\w.cell? ⟨B,2,none⟩=some (.string ⟨#[]⟩)/\w.cell? ⟨B,3,none⟩=some (.int .i64 0)/\w.cell? ⟨B,4,none⟩=some (.int .i64 0)) /\
  (w.frozen? ⟨B,0,none⟩=false/\w.frozen? ⟨B,1,none⟩=false/\w.frozen? ⟨B,2,none⟩=false/\w.frozen? ⟨B,3,none⟩=false/\w.frozen? ⟨B,4,none⟩=false)/\B<w.heap.size:=by
 refine⟨⟨?_,?_,?_,?_,?_⟩,⟨ak h 0,ak h 1,ak h 2,ak h 3,ak h 4⟩,ae h⟩
 all_goals (rw[aa h];rfl)
theorem zj{L:List Nat}{x m:Nat}(hm:m=L.length)(h:∀q (hq:q<L.length),q<m->L[q]≠x):L.contains x=false:=by
 cases e:L.contains x
 ·rfl
 ·rw[List.contains_iff_mem]at e
  obtain⟨q,hq,e2⟩:=List.getElem_of_mem e;exact absurd e2 (h q hq (by omega))
set_option maxRecDepth 100000 in
theorem Bs(b n i z:Nat)(T:List Tk)(aoT:Option Addr)(cT:Nat)(S:List Sm)(aoS:Option Addr)(cS:Nat)(w:World)(hD:fa w b T aoT cT S aoS cS)(ok:mG T S n)(hn:n<S.length)(hE:eF T (au S n).h)(hO:eB T)(hi:i<=z)(hz:z<T.length) :
  Calls Tryz.prog 127 #[.pointer (some ⟨b,0,none⟩),.int .i64 n,.int .i64 i,.int .i64 z] w fun e w'=>mV w (iQ T S n i z) e w':=by
 obtain⟨W,HW⟩:∃W,Hid (w.alloc (.cells #[.slice none 0 0,.int .i64 0,.string ⟨#[]⟩,.int .i64 0,.int .i64 0] 122)=W):=⟨_,rfl⟩
 have BW:W.heap[w.heap.size]?=some (.cells #[.slice none 0 0,.int .i64 0,.string ⟨#[]⟩,.int .i64 0,.int .i64 0] 122 (0,0)):=by rw[<-HW.out];exact heap_alloc_new _ _
 have HKW:Hid (ab [] w W):=by show ab [] w W;rw[<-HW.out];exact(ab.refl [] _).alloc _
 have hWz:W.heap.size=w.heap.size+1:=by rw[<-HW.out];simp
 have HDW:=(show Hid _ from hD.still HKW.out);have HOK:=(show Hid _ from ok);have HTK:=(show Hid _ from hO);have hT2:=ok.tm;have hS2:=ok.sm;have HHY:=(show Hid _ from og b n T aoT cT S aoS cS W HDW.out ok hn hE);have hyl:=kU T S n;have HYL:=(show Hid _ from pZ T S n);have HP0:Hid (si T S n z (z-i) i (cD T S n)=iQ T S n i z):=rfl;obtain⟨iN,hiN,hzN0,hzN1,hzN2⟩:=info_parts xb;have HBW:=(show Hid _ from BW)
 -- a fault
 have HEX:Hid (∀(wr:World),ab [] W wr->(wr.heap[w.heap.size]?=some (.cells #[.slice none 0 0,.int .i64 0,.string ⟨#[]⟩,.int .i64 0,.int .i64 0] 122 (0,0)))):=fun wr k=>k.get HBW.out (by simp)
 clear hD ok hO;generalize cD T S n=HY at *;go_enter Tryz.func127,Tryz.ntmps127
 go_upto_region 1 with fail
 rw[HW.out]
 go_upto_region 2 with (go_at_call 62;refine Calls.mono HHY.out ?_;rintro e w1 ⟨h1,rfl,x1⟩)
 have HK1:=(show Hid _ from x1.kept);have hc1:=(show Hid _ from x1.own.srcN.cells);have hn1:=(show Hid _ from x1.none);have HN0:Hid (iz W w1 ⟨none,0⟩ (bq [])):=⟨World.ownsRow_nil _ _ _ _,(by intro k hk;cases hk),x1.kept⟩;have hO0:=HN0.out.own;clear x1 HHY
 go_upto_region 3 with (at_builtin;refine eK _ rfl (.const (.slice none 0 0)) (.tmp 18) 26 rfl iN (.int .i64 0) 8 ⟨none,0⟩ (bq []) Tryz.underlying26 hiN hzN0 hzN1 hzN2 rfl Nat.one_pos rfl hO0 h1.ao HY.length h1.cap (iZ HY) rfl (by simp[bq,iZ]) hn1.out hc1.out (GK HY) (by simp only[bq,List.length_nil];omega) (by omega) ?_;intro h5 w5 hw5 hg5;rw[Im]at hw5;have HM2:=(show Hid _ from HN0.out.grew hg5 hw5);clear hw5 hg5)
 rw[List.nil_append]at HM2;have hr0:(bq ([]:List Nat)).n+HY.length=HY.length:=by simp[bq]
 rw[hr0];clear hr0 hc1 hn1 HN0 hO0;go_wp2
 go_loopg [10,11] (z-i) (fun g r iv wr=>∃(m:Nat) (h':Hd) (R:List Nat),(i<=m/\m<=z)/\g=z-m/\r=.slice h'.ao R.length h'.cap/\iv=.int .i64 m/\R.length<=10000+m/\Hid (∀q∈R,q<n)/\Hid (si T S n z (z-m) m R=iQ T S n i z)/\Hid (iz W wr h' (bq R)))
 case atStart=>exact⟨i,h5,HY,⟨by omega,by omega⟩,rfl,rfl,rfl,by omega,HYL,HP0,HM2⟩
 case round =>
  obtain⟨m,h',R,⟨hm1,hm2⟩,hg,rfl,rfl,hRl,HRn,HE2,HWr⟩:=hrel;have HKr:=(show Hid _ from HWr.out.kept);have HDr:=(show Hid _ from fa.still HDW.out HKr.out);obtain⟨c0,-,hb⟩:=HDr.out.cells;have BR:=HEX.out wr HKr.out;have HKw:=(show Hid _ from HKW.out.trans HKr.out);obtain⟨⟨r0,r1,r2,r3,r4⟩,⟨f0,f1,f2,f3,f4⟩,hzr⟩:=oj BR;obtain⟨gT,rfl,hgT,t0,-,t2,t3,t4⟩:=HDr.out.t.2 z _ (fZ T z hz);have hzi:(z:Int)<(T.length:Int):=by omega
  by_cases hlt:m<z
  ·have hmi:(m:Int)<(z:Int):=by omega
   have hmi2:(m:Int)<(T.length:Int):=by omega
   obtain⟨gT2,e2,-,u0,-,u2,u3,u4⟩:=HDr.out.t.2 m _ (fZ T m (by omega))
   cases e2
   replace u0:wr.cell? ⟨gT,m*5,none⟩=some (.string (tS T m)):=u0;obtain⟨f,hf⟩:∃f,z-m=f+1:=⟨z-m-1,by omega⟩
   rw[hf,si]at HE2;have HUS:Hid (Calls Tryz.prog 128 #[.pointer (some ⟨b,0,none⟩),.int .i64 n,.string (tS T m)] wr fun e w'=>e=.returned (.int .i64 (dV T S n (tS T m)))/\ab [] wr w'):=tY b n (tS T m) T _ cT S aoS cS wr HDr.out HOK.out;have hus:=nL T S n (tS T m);obtain⟨x,Hx⟩:∃x,Hid (tS T m=x):=⟨_,rfl⟩
   rw[Hx.out]at u0 HE2 HUS hus;clear Hx
   cases h1:(x.toList == [41])
   ·rw[if_neg (by rw[h1];simp)]at HE2
    go_upto_region 6 with (go_at_call 128;refine Calls.mono HUS.out ?_;rintro e w1 ⟨rfl,k1⟩)
    have HWr1:=(show Hid _ from HWr.out.still k1);have HKr1:=(show Hid _ from HWr1.out.kept);have HKw1:=(show Hid _ from HKW.out.trans HKr1.out);have HDr1:=(show Hid _ from fa.still HDW.out HKr1.out);have BR1:=HEX.out w1 HKr1.out;clear r0 r1 r2 r3 r4 f0 f1 f2 f3 f4 hzr;clear k1 c0 hb t0 t2 t3 t4 u0 u2 u3 u4 hgT;obtain⟨⟨r0,r1,r2,r3,r4⟩,⟨f0,f1,f2,f3,f4⟩,hzr⟩:=oj BR1;obtain⟨c0,-,hb⟩:=HDr1.out.cells;obtain⟨gT3,e3,hgT,-,-,u2,u3,u4⟩:=HDr1.out.t.2 m _ (fZ T m (by omega))
    cases e3
    rcases hus with hus | ⟨j,hj,hus⟩
    ·rw[hus,if_pos (by omega)]at HE2
     rw[hus];have HX:Hid (iQ T S n i z=lQ 2 (Bq (T.getD m ic))):=HE2.out.symm;generalize T.getD m ic=tm at *;obtain⟨ms,mr,mf,ml,mc⟩:=tm;simp only at u2 u3 u4;go_wp2;obtain⟨x0,x1,x2,x3,x4⟩:=ew BR1 (.slice none 0 0) (.int .i64 2) (.string mf) (.int .i64 ml) (.int .i64 mc);exact bodyPost_ret (v:=.agg #[.slice none 0 0,.int .i64 2,.string mf,.int .i64 ml,.int .i64 mc]) (by simp[results,Tryz.results127,go_sem,x0,x1,x2,x3,x4]) rfl (by rw[HX.out];exact fE rfl rfl (((((HKw1.out.setCell (Or.inr (by simp)) _).setCell (Or.inr (by simp)) _).setCell (Or.inr (by simp)) _).setCell (Or.inr (by simp)) _).setCell (Or.inr (by simp)) _))
    ·rw[hus,if_neg (by omega),Int.toNat_natCast]at HE2
     rw[hus];have hji:¬(j:Int)<0:=by omega
     have HSN:=(show Hid _ from HWr1.out.own.srcN);have hRc:=HWr1.out.le;have hRc2:R.length<=h'.cap:=hRc;clear hRc;obtain⟨hao,hcap⟩:=h';go_wp2
     go_loopg [13] R.length (fun g kv wr=>∃q:Nat,q<=R.length/\g=R.length-q/\kv=.int .i64 q/\Hid (∀p (hp:p<R.length),p<q->R[p]≠j)/\wr=w1)
     case atStart=>exact⟨0,by omega,rfl,rfl,(fun p _ h=>by omega),rfl⟩
     case round =>
      obtain⟨q,hq,hg2,rfl,HNO,rfl⟩:=hrel
      by_cases hq2:q<R.length
      ·have hqi:(q:Int)<(R.length:Int):=by omega
       obtain⟨gR,egR,hgR,cq⟩:=HSN.out q R[q] (List.getElem?_eq_getElem hq2);have HMEM:Hid (R[q]=j->R.contains j=true):=fun e=>by rw[List.contains_iff_mem,<-e];exact List.getElem_mem hq2
       have HNX:Hid (R[q]≠j->∀p (hp:p<R.length),p<q+1->R[p]≠j):=fun e p hp h2=>by
        by_cases e2:p=q
        ·subst e2;exact e
        ·exact HNO.out p hp (by omega)
       generalize R[q]=rq at *;replace egR:hao=some ⟨gR,0,none⟩:=egR;subst egR
       by_cases hjq:rq=j
       ·subst hjq
        rw[if_pos (HMEM.out rfl)]at HE2;have HX:Hid (iQ T S n i z=lQ 3 (Bq (T.getD m ic))):=HE2.out.symm;generalize T.getD m ic=tm at *;obtain⟨ms,mr,mf,ml,mc⟩:=tm;simp only at u2 u3 u4;go_wp2;obtain⟨x0,x1,x2,x3,x4⟩:=ew BR1 (.slice none 0 0) (.int .i64 3) (.string mf) (.int .i64 ml) (.int .i64 mc);exact bodyPost_ret (v:=.agg #[.slice none 0 0,.int .i64 3,.string mf,.int .i64 ml,.int .i64 mc]) (by simp[results,Tryz.results127,go_sem,x0,x1,x2,x3,x4]) rfl (by rw[HX.out];exact fE rfl rfl (((((HKw1.out.setCell (Or.inr (by simp)) _).setCell (Or.inr (by simp)) _).setCell (Or.inr (by simp)) _).setCell (Or.inr (by simp)) _).setCell (Or.inr (by simp)) _))
       ·have hjb:((rq:Int)==(j:Int))=false:=by simpa using (fun e=>hjq (by omega))
        have HM:=(show Hid _ from HNX.out hjq);go_wp2
        go_roundg (R.length-(q+1))
        case measure=>omega
        case rel=>exact⟨q+1,by omega,rfl,by go_num,HM,rfl⟩
      ·have eq:q=R.length:=by omega
       rw[if_neg (by rw[zj eq HNO.out];simp)]at HE2;have hqi:¬(q:Int)<(R.length:Int):=by omega
       have hOw:=HWr1.out.own;have hRb:(bq R).n<=900000000:=by show R.length<=_;omega
       have HRn2:Hid (∀q∈R++[j],q<n):=fun q hq=>by
        rcases List.mem_append.1 hq with h | h
        ·exact HRn.out q h
        ·rw[List.mem_singleton.1 h];exact hj
       have hf2:z-(m+1)=f:=by omega
       go_wp2_with (at_builtin;refine bX _ rfl (.tmp 78) (.tmp 80) 26 rfl iN (.int .i64 0) 8 ⟨hao,hcap⟩ (bq R) [.int .i64 (j:Int)] Tryz.underlying26 hiN hzN0 hzN1 hzN2 rfl Nat.one_pos rfl hOw hRb (by omega) rfl rfl (by simp[Value.oneCell']) ?_;intro h6 w6 hw6 hg6;rw[qh]at hw6;have HA:=(show Hid _ from HWr1.out.grew hg6 hw6);clear hw6 hg6)
       go_roundg (z-(m+1))
       case measure=>omega
       case rel=>exact⟨m+1,h6,R++[j],⟨by omega,by omega⟩,rfl,by simp[bq],by go_num,by simp;omega,HRn2,by rw[hf2];exact HE2,HA⟩
   ·rw[if_pos h1]at HE2
    have hmz:((m:Int)==(z:Int))=false:=by simpa using (fun e:(m:Int)=(z:Int)=>by omega)
    have hc1:((m+1:Nat):Int)=(m:Int)+1:=by omega
    have HSP:=(show Hid _ from AZ T (some ⟨gT,0,none⟩) cT (m+1) z wr HDr.out.t hT2 (by omega) (by omega) HTK.out);rw[hc1]at HSP
    go_upto_region 18 with (go_at_call 175;refine Calls.mono HSP.out ?_;rintro e w1 ⟨h2,rfl,x1⟩)
    have k1:=x1.kept;have HSG:=(show Hid _ from x1.own.srcG IM);have HWr1:=(show Hid _ from HWr.out.still k1);have HKr1:=(show Hid _ from HWr1.out.kept);have HKw1:=(show Hid _ from HKW.out.trans HKr1.out);have HDr1:=(show Hid _ from fa.still HDW.out HKr1.out);have HST:=(show Hid _ from Ee b n T (some ⟨gT,0,none⟩) cT S aoS cS R h'.ao h'.cap (dU T (m+1) z) h2.ao h2.cap (Bq (T.getD z ic)) w1 HDr1.out HOK.out HWr1.out.own.srcN HRn.out (by omega) HSG.out (by have:=uF T HTK.out (m+1) z;omega) (Fw T (m+1) z));have HX:Hid (iQ T S n i z=i7 T S R (Bq (T.getD z ic)) (dU T (m+1) z)):=HE2.out.symm;generalize dU T (m+1) z=SP at *;clear r0 r1 r2 r3 r4 f0 f1 f2 f3 f4 hzr;clear c0 hb t0 t2 t3 t4 u0 u2 u3 u4 hgT x1 HSP;obtain⟨c0,-,hb⟩:=HDr1.out.cells;obtain⟨gT3,e3,hgT,-,-,t2,t3,t4⟩:=HDr1.out.t.2 z _ (fZ T z hz)
    cases e3
    generalize T.getD z ic=tm at *;obtain⟨ms,mr,mf,ml,mc⟩:=tm;simp only at t2 t3 t4;unfold Bq at HST HX;simp only at HST;generalize i7 T S R ⟨0,mf,ml,mc⟩ SP=PF at *;obtain⟨pst,pw,pf,pl,pc⟩:=PF;have HST2:Hid (Calls Tryz.prog 176 #[.pointer (some ⟨b,0,none⟩),.slice h'.ao R.length h'.cap,.slice h2.ao SP.length h2.cap,.agg #[.string mf,.int .i64 ml,.int .i64 mc]] w1 fun e w'=>∃h',e=.returned (.agg #[.slice h'.ao pst.length h'.cap,.int .i64 pw,.string pf,.int .i64 pl,.int .i64 pc])/\iz w1 w' h' (dO pst)):=HST.out;go_wp2_with (go_at_call 176;refine Calls.mono HST2.out ?_;rintro e w2 ⟨h3,rfl,x2⟩;have BR2:=HEX.out w2 (HKr1.out.trans x2.kept);obtain⟨⟨r0,r1,r2,r3,r4⟩,⟨f0,f1,f2,f3,f4⟩,hzr⟩:=oj BR2);obtain⟨y0,y1,y2,y3,y4⟩:=ew BR2 (.slice h3.ao pst.length h3.cap) (.int .i64 pw) (.string pf) (.int .i64 pl) (.int .i64 pc);have HNE:Hid (∀q,h3.blk=some q->q≠w.heap.size):=fun q hq=>by have:=x2.far q hq;have:=HKw1.out.size;have:=ae (HEX.out w1 HKr1.out);omega
    have HK2:=(show Hid _ from HKw1.out.trans x2.kept);exact bodyPost_ret (v:=.agg #[.slice h3.ao pst.length h3.cap,.int .i64 pw,.string pf,.int .i64 pl,.int .i64 pc]) (by simp[results,Tryz.results127,go_sem,y0,y1,y2,y3,y4]) rfl (by rw[HX.out];exact⟨h3,rfl,⟨((((x2.own.aside HNE.out _ _).aside HNE.out _ _).aside HNE.out _ _).aside HNE.out _ _).aside HNE.out _ _,fun q hq=>(by have:=x2.far q hq;have:=HKw1.out.size;omega),((((HK2.out.setCell (Or.inr (by simp)) _).setCell (Or.inr (by simp)) _).setCell (Or.inr (by simp)) _).setCell (Or.inr (by simp)) _).setCell (Or.inr (by simp)) _⟩⟩)
  ·have e:m=z:=by omega
   subst e;rw[Nat.sub_self,si]at HE2;have HX:Hid (iQ T S n i m=lQ 3 (Bq (T.getD m ic))):=HE2.out.symm;generalize T.getD m ic=tm at *;obtain⟨ms,mr,mf,ml,mc⟩:=tm;simp only at t2 t3 t4;go_wp2;obtain⟨x0,x1,x2,x3,x4⟩:=ew BR (.slice none 0 0) (.int .i64 3) (.string mf) (.int .i64 ml) (.int .i64 mc);exact bodyPost_ret (v:=.agg #[.slice none 0 0,.int .i64 3,.string mf,.int .i64 ml,.int .i64 mc]) (by simp[results,Tryz.results127,go_sem,x0,x1,x2,x3,x4]) rfl (by rw[HX.out];exact fE rfl rfl (((((HKw.out.setCell (Or.inr (by simp)) _).setCell (Or.inr (by simp)) _).setCell (Or.inr (by simp)) _).setCell (Or.inr (by simp)) _).setCell (Or.inr (by simp)) _))
def lL(T:List Tk)(S:List Sm)(a zt:Nat):Nat->Nat->List cO->jG
 | 0,_,P=>if P.length=0 then lQ 1 (Bq (T.getD zt ic)) else⟨P,0,⟨#[]⟩,0,0⟩
 | n+1,i,P =>
  if((tS T i).toList == [63])=true then lL T S a zt n (i+1) (P++[⟨-1,0,0,(T.getD i ic).file,(T.getD i ic).line,(T.getD i ic).col⟩])
  else if dV T S a (tS T i)<0 then lQ 2 (Bq (T.getD i ic))
  else lL T S a zt n (i+1) (P++[⟨dV T S a (tS T i),0,gy T S (dV T S a (tS T i)),(T.getD i ic).file,(T.getD i ic).line,(T.getD i ic).col⟩])
def eZ(T:List Tk)(S:List Sm)(a e zt:Nat):jG:=if((tS T (e+1)).toList == [40])=true then iQ T S a (e+2) zt else lL T S a zt (zt-(e+1)) (e+1) []
structure Ka(w wr:World)(P:List cO)(h:Hd):Prop where
 r:wr.heap[w.heap.size]?=some (.cells #[.slice none 0 0,.int .i64 0,.string ⟨#[]⟩,.int .i64 0,.int .i64 0] 122 (0,0))
 p:wr.heap[w.heap.size+1]?=some (.cells #[.slice h.ao P.length h.cap,.int .i64 0,.string ⟨#[]⟩,.int .i64 0,.int .i64 0] 122 (0,0))
 op:aA wr h (dO P)
 fp:∀k,h.blk=some k->w.heap.size+1<k
 kept:ab [] w wr
theorem Ka.still{w wr wr':World}{P:List cO}{h:Hd}(a:Ka w wr P h)(k:ab [] wr wr'):Ka w wr' P h:=⟨k.get a.r (by simp),k.get a.p (by simp),a.op.still k,a.fp,a.kept.trans k⟩
theorem Ka.addP{w wr w5:World}{P P':List cO}{h h5:Hd}(a:Ka w wr P h)(g:bh wr w5 h h5)(o:aA w5 h5 (dO P')){m:Nat}(hm:m=P'.length):Ka w (w5.setCell ⟨w.heap.size+1,0,none⟩ (.slice h5.ao m h5.cap)) P' h5:=by
 subst hm;have no:∀q,q<=w.heap.size+1->q∉h.blk.toList:=fun q hq hm=>by have:=a.fp q (aK hm);omega
 have hz:=ae a.p;have r5:=g.kept.get a.r (no _ (by omega));have p5:=g.kept.get a.p (no _ (by omega))
 have fp5:∀k,h5.blk=some k->w.heap.size+1<k:=fun k hk=>by
  rcases g.blk with e | ⟨q,e,hq⟩
  ·exact a.fp k (by rw[<-e];exact hk)
  ·rw[e]at hk;cases hk;omega
 have kS:ab [w.heap.size+1] w5 (w5.setCell ⟨w.heap.size+1,0,none⟩ (.slice h5.ao P'.length h5.cap)):=(ab.refl _ _).setCell (Or.inl (by simp)) _;have k5:ab [] w w5:=nH g.kept (fun q hq=>by have:=a.fp q (aK hq);omega) a.kept;exact⟨kS.get r5 (by simp),by rw[ah p5];rfl,o.moved (fun q hq=>kS.block q (o.lt hq) (by simp;have:=fp5 q hq;omega)),fp5,k5.setCell (Or.inr (by simp)) _⟩
set_option maxRecDepth 100000 in
theorem Cg(b n e zt:Nat)(T:List Tk)(aoT:Option Addr)(cT:Nat)(S:List Sm)(aoS:Option Addr)(cS:Nat)(w:World)(hD:fa w b T aoT cT S aoS cS)(ok:mG T S n)(hn:n<S.length)(hE:eF T (au S n).h)(hO:eB T)
  (he1:(au S n).h<=e) (he2:((tS T e).toList == [36,61])=true) (he3:∀q,(au S n).h<=q->q<e->((tS T q).toList == [36,61])=false) (hto:(au S n).z=zt+1) (het:e<zt) (htT:zt<T.length) (hdot:((tS T zt).toList == [36,46])=true) :
  Calls Tryz.prog 88 #[.pointer (some ⟨b,0,none⟩),.int .i64 n] w fun en w'=>mV w (eZ T S n e zt) en w':=by
 obtain⟨W,HW⟩:∃W,Hid (w.alloc (.cells #[.slice none 0 0,.int .i64 0,.string ⟨#[]⟩,.int .i64 0,.int .i64 0] 122)=W):=⟨_,rfl⟩
 have BW:W.heap[w.heap.size]?=some (.cells #[.slice none 0 0,.int .i64 0,.string ⟨#[]⟩,.int .i64 0,.int .i64 0] 122 (0,0)):=by rw[<-HW.out];exact heap_alloc_new _ _
 have HKW:Hid (ab [] w W):=by show ab [] w W;rw[<-HW.out];exact(ab.refl [] _).alloc _
 have hWz:W.heap.size=w.heap.size+1:=by rw[<-HW.out];simp
 have HDW:=(show Hid _ from hD.still HKW.out);have HD0:=(show Hid _ from hD);have HOK:=(show Hid _ from ok);have HTK:=(show Hid _ from hO);have hT2:=ok.tm;have hS2:=ok.sm;have hni:(n:Int)<(S.length:Int):=by omega
 have HB:=(show Hid _ from BW);have HEQ:=(show Hid _ from he3);have HSE:=(show Hid _ from hE);obtain⟨iP,hiP,hzP0,hzP1,hzP2⟩:=info_parts FZ;obtain⟨c0,c1,hb⟩:=HDW.out.cells;obtain⟨gS,rfl,hgS,-,q1,q2,-⟩:=HDW.out.s.2 n S[n] (List.getElem?_eq_getElem hn);rw[bC S n hn]at q1 q2;rw[hto]at q1;obtain⟨gT,rfl,hgT,-⟩:=HDW.out.t.2 e _ (fZ T e (by omega));obtain⟨hd,Hhd⟩:∃hd,Hid ((au S n).h=hd):=⟨_,rfl⟩
 rw[Hhd.out]at q2 he1 HEQ;clear hD ok hO he3 hE Hhd;have hc1:((zt+1:Nat):Int)=(zt:Int)+1:=by omega
 rw[hc1]at q1;go_enter Tryz.func88,Tryz.ntmps88
 go_upto_region 1 with fail
 rw[HW.out];go_wp2
 go_loopg [5] (e-hd) (fun g i wr=>∃k:Nat,(hd<=k/\k<=e)/\g=e-k/\i=.int .i64 k/\wr=W)
 case atStart=>exact⟨hd,⟨by omega,by omega⟩,rfl,rfl,rfl⟩
 case round =>
  obtain⟨k,⟨hk1,hk2⟩,hg,rfl,rfl⟩:=hrel;have hki:(k:Int)<(T.length:Int):=by omega
  obtain⟨gT2,e2,-,t0,-⟩:=HDW.out.t.2 k _ (fZ T k (by omega))
  cases e2
  replace t0:wr.cell? ⟨gT,k*5,none⟩=some (.string (tS T k)):=t0
  by_cases hke:k<e
  ·have hx:=HEQ.out k hk1 hke
   generalize tS T k=x at *;go_wp2
   go_roundg (e-(k+1))
   case measure=>omega
   case rel=>exact⟨k+1,⟨by omega,by omega⟩,rfl,by go_num,rfl⟩
  ·have ek:k=e:=by omega
   subst ek;obtain⟨gT3,e3,-,u0,-⟩:=HDW.out.t.2 (k+1) _ (fZ T (k+1) (by omega))
   cases e3
   replace u0:wr.cell? ⟨gT,(k+1)*5,none⟩=some (.string (tS T (k+1))):=u0;have hki1:(k:Int)+1<(T.length:Int):=by omega
   have HPK:Hid (((tS T (k+1)).toList == [40])=true->Calls Tryz.prog 127 #[.pointer (some ⟨b,0,none⟩),.int .i64 n,.int .i64 ((k:Int)+1+1),.int .i64 zt] wr fun en w'=>mV wr (iQ T S n (k+2) zt) en w'):=fun h=>by
    have hne:k+1≠zt:=fun e=>by
     rw[<-e]at hdot;have a1:(tS T (k+1)).toList=[40]:=by simpa using h
     rw[a1]at hdot;exact absurd hdot (by decide)
    have:=Bs b n (k+2) zt T _ cT S _ cS wr HDW.out HOK.out hn HSE.out HTK.out (by omega) htT;rw[show((k+2:Nat):Int)=(k:Int)+1+1 by omega]at this;exact this
   have HDF:Hid (eZ T S n k zt=if((tS T (k+1)).toList == [40])=true then iQ T S n (k+2) zt else lL T S n zt (zt-(k+1)) (k+1) []):=rfl;obtain⟨x,Hx⟩:∃x,Hid (tS T (k+1)=x):=⟨_,rfl⟩
   rw[Hx.out]at u0 HPK HDF;generalize tS T k=y at *
   cases hx:(x.toList == [40])
   ·rw[if_neg (by rw[hx];simp)]at HDF
    have S0:Hid (Ka w (wr.alloc (.cells #[.slice none 0 0,.int .i64 0,.string ⟨#[]⟩,.int .i64 0,.int .i64 0] 122)) [] ⟨none,0⟩):=⟨((ab.refl [] _).alloc _).get HB.out (by simp),by rw[<-hWz];exact heap_alloc_new _ _,World.ownsRow_nil _ _ _ _,(by intro k hk;cases hk),HKW.out.alloc _⟩;have HP0:Hid (lL T S n zt (zt-(k+1)) (k+1) []=eZ T S n k zt):=HDF.out.symm;go_wp2
    go_loopg [8] (zt-(k+1)) (fun g i w1=>∃(m:Nat) (h:Hd) (P:List cO),(k+1<=m/\m<=zt)/\g=zt-m/\i=.int .i64 m/\P.length<=m/\Hid (lL T S n zt (zt-m) m P=eZ T S n k zt)/\Hid (Ka w w1 P h))
    case atStart=>exact⟨k+1,⟨none,0⟩,[],⟨by omega,by omega⟩,rfl,by go_num,Nat.zero_le _,HP0,S0⟩
    case round =>
     obtain⟨m,h,P,⟨hm1,hm2⟩,hg2,rfl,hPl,HE2,HWr⟩:=hrel;have HKw:=(show Hid _ from HWr.out.kept);have HDr:=(show Hid _ from fa.still HD0.out HKw.out);clear c0 c1 hb q1 q2 hgS hgT t0 u0;obtain⟨c0,-,hb⟩:=HDr.out.cells
     by_cases hlt:m<zt
     ·have hmi:(m:Int)<(zt:Int):=by omega
      have hmi2:(m:Int)<(T.length:Int):=by omega
      obtain⟨gT4,e4,hgT,u0,-⟩:=HDr.out.t.2 m _ (fZ T m (by omega))
      cases e4
      replace u0:wr.cell? ⟨gT,m*5,none⟩=some (.string (tS T m)):=u0;obtain⟨f,hf⟩:∃f,zt-m=f+1:=⟨zt-m-1,by omega⟩
      have hf2:zt-(m+1)=f:=by omega
      rw[hf,lL]at HE2;have HUS:Hid (Calls Tryz.prog 128 #[.pointer (some ⟨b,0,none⟩),.int .i64 n,.string (tS T m)] wr fun e w'=>e=.returned (.int .i64 (dV T S n (tS T m)))/\ab [] wr w'):=tY b n (tS T m) T _ cT S _ cS wr HDr.out HOK.out;have hus:=nL T S n (tS T m);obtain⟨v,Hv⟩:∃v,Hid (tS T m=v):=⟨_,rfl⟩
      rw[Hv.out]at u0 HE2 HUS hus
      go_upto_region 13 with (go_at_call 128;refine Calls.mono HUS.out ?_;rintro e w1 ⟨rfl,k1⟩)
      have HWr1:=(show Hid _ from HWr.out.still k1);have HKw1:=(show Hid _ from HWr1.out.kept);have HDr1:=(show Hid _ from fa.still HD0.out HKw1.out);have BR1:=HWr1.out.r;clear k1 c0 hb u0 hgT HUS;obtain⟨c0,-,hb⟩:=HDr1.out.cells;obtain⟨gT5,e5,hgT,u0,-,u2,u3,u4⟩:=HDr1.out.t.2 m _ (fZ T m (by omega))
      cases e5
      replace u0:w1.cell? ⟨gT,m*5,none⟩=some (.string (tS T m)):=u0;rw[Hv.out]at u0
      cases hq:(v.toList == [63])
      ·rw[if_neg (by rw[hq];simp)]at HE2
       rcases hus with hus | ⟨j,hj,hus⟩
       ·rw[hus,if_pos (by omega)]at HE2
        rw[hus];have HX:Hid (eZ T S n k zt=lQ 2 (Bq (T.getD m ic))):=HE2.out.symm;generalize T.getD m ic=tm at *;obtain⟨ms,mr,mf,ml,mc⟩:=tm;simp only at u2 u3 u4;obtain⟨⟨r0,r1,r2,r3,r4⟩,⟨f0,f1,f2,f3,f4⟩,hzr⟩:=oj BR1;go_wp2;obtain⟨x0,x1,x2,x3,x4⟩:=ew BR1 (.slice none 0 0) (.int .i64 2) (.string mf) (.int .i64 ml) (.int .i64 mc);exact bodyPost_ret (v:=.agg #[.slice none 0 0,.int .i64 2,.string mf,.int .i64 ml,.int .i64 mc]) (by simp[results,Tryz.results88,go_sem,x0,x1,x2,x3,x4]) rfl (by rw[HX.out];exact fE rfl rfl (((((HKw1.out.setCell (Or.inr (by simp)) _).setCell (Or.inr (by simp)) _).setCell (Or.inr (by simp)) _).setCell (Or.inr (by simp)) _).setCell (Or.inr (by simp)) _))
       ·rw[hus,if_neg (by omega)]at HE2
        rw[hus];have hji:¬(j:Int)<0:=by omega
        have HND:=(show Hid _ from vB b n j T _ cT S _ cS w1 HDr1.out HOK.out hj);generalize gy T S (j:Int)=nd at *
        go_upto_region 18 with (go_at_call 129;refine Calls.mono HND.out ?_;rintro e w2 ⟨rfl,k2⟩)
        have HWr2:=(show Hid _ from HWr1.out.still k2);have HDr2:=(show Hid _ from fa.still HD0.out HWr2.out.kept);clear c0 hb u0 u2 u3 u4 hgT k2 HND;obtain⟨c0,-,hb⟩:=HDr2.out.cells;obtain⟨gT6,e6,hgT,-,-,u2,u3,u4⟩:=HDr2.out.t.2 m _ (fZ T m (by omega))
        cases e6
        generalize T.getD m ic=tm at *;obtain⟨ms,mr,mf,ml,mc⟩:=tm;simp only at u2 u3 u4;have p0:w2.cell? ⟨w.heap.size+1,0,none⟩=some (.slice h.ao P.length h.cap):=by rw[aa HWr2.out.p];rfl
        have p1:=ak HWr2.out.p 0;have p2:=ae HWr2.out.p;have hOw3:=HWr2.out.op;have hPb:Hid ((dO P).n<=900000000):=by show P.length<=_;omega
        have HPn:Hid ((dO P).n=P.length):=rfl
        go_region_law (refine bD w2 rfl (.tmp 97) (.tmp 109) 120 rfl iP (.agg #[.int .i64 0,.int .i64 0,.int .i64 0,.string ⟨#[]⟩,.int .i64 0,.int .i64 0]) 56 h (dO P) [.int .i64 (j:Int),.int .i64 0,.int .i64 (nd:Int),.string mf,.int .i64 ml,.int .i64 mc] Tryz.underlying120 hiP hzP0 hzP1 hzP2 rfl (show 0<6 by omega) (by rw[HPn.out];simp[Act.eval]) hOw3 hPb.out (by omega) (by simp[Act.eval]) rfl (qr (⟨(j:Int),0,nd,mf,ml,mc⟩:cO)) ?_;intro ao5 cap5 w5 hw5 hg5;have p5:=hg5.kept.get HWr2.out.p (fun hq=>by have:=HWr2.out.fp _ (aK hq);omega);have f5:=ak p5 0;have c5:w5.cell? ⟨w.heap.size+1,0,none⟩=some (.slice h.ao P.length h.cap):=(by rw[aa p5];rfl);have z5:=ae p5)
        all_goals
         rw[show([.int .i64 (j:Int),.int .i64 0,.int .i64 (nd:Int),.string mf,.int .i64 ml,.int .i64 mc]:List Value)=jS (⟨(j:Int),0,nd,mf,ml,mc⟩:cO) from rfl,lx]at hw5;have HA:=(show Hid _ from HWr2.out.addP (m:=(dO P).n+1) hg5 hw5 (by simp[dO,kg]));clear hw5 hg5 p5 f5 c5 z5;go_wp2
         go_roundg (zt-(m+1))
         case measure=>omega
         case rel=>exact⟨m+1,⟨ao5,cap5⟩,P++[(⟨(j:Int),0,nd,mf,ml,mc⟩:cO)],⟨by omega,by omega⟩,rfl,by go_num,by simp;omega,by rw[hf2];exact HE2,HA⟩
      ·rw[if_pos hq]at HE2
       have HND:=(show Hid _ from DT (.pointer (some ⟨b,0,none⟩)) T S w1);have HNZ:Hid (gy T S (-1)=0):=rfl;rw[HNZ.out]at HND
       go_upto_region 18 with (go_at_call 129;refine Calls.mono HND.out ?_;rintro e w2 ⟨rfl,k2⟩)
       have HWr2:=(show Hid _ from HWr1.out.still k2);have HDr2:=(show Hid _ from fa.still HD0.out HWr2.out.kept);clear c0 hb u0 u2 u3 u4 hgT k2 HND;obtain⟨c0,-,hb⟩:=HDr2.out.cells;obtain⟨gT6,e6,hgT,-,-,u2,u3,u4⟩:=HDr2.out.t.2 m _ (fZ T m (by omega))
       cases e6
       generalize T.getD m ic=tm at *;obtain⟨ms,mr,mf,ml,mc⟩:=tm;simp only at u2 u3 u4;have p0:w2.cell? ⟨w.heap.size+1,0,none⟩=some (.slice h.ao P.length h.cap):=by rw[aa HWr2.out.p];rfl
       have p1:=ak HWr2.out.p 0;have p2:=ae HWr2.out.p;have hOw3:=HWr2.out.op;have hPb:Hid ((dO P).n<=900000000):=by show P.length<=_;omega
       have HPn:Hid ((dO P).n=P.length):=rfl
       go_region_law (refine bD w2 rfl (.tmp 97) (.tmp 109) 120 rfl iP (.agg #[.int .i64 0,.int .i64 0,.int .i64 0,.string ⟨#[]⟩,.int .i64 0,.int .i64 0]) 56 h (dO P) [.int .i64 (-1),.int .i64 0,.int .i64 0,.string mf,.int .i64 ml,.int .i64 mc] Tryz.underlying120 hiP hzP0 hzP1 hzP2 rfl (show 0<6 by omega) (by rw[HPn.out];simp[Act.eval]) hOw3 hPb.out (by omega) (by simp[Act.eval]) rfl (qr (⟨(-1),0,0,mf,ml,mc⟩:cO)) ?_;intro ao5 cap5 w5 hw5 hg5;have p5:=hg5.kept.get HWr2.out.p (fun hq=>by have:=HWr2.out.fp _ (aK hq);omega);have f5:=ak p5 0;have c5:w5.cell? ⟨w.heap.size+1,0,none⟩=some (.slice h.ao P.length h.cap):=(by rw[aa p5];rfl);have z5:=ae p5)
       all_goals
        rw[show([.int .i64 (-1),.int .i64 0,.int .i64 0,.string mf,.int .i64 ml,.int .i64 mc]:List Value)=jS (⟨(-1),0,0,mf,ml,mc⟩:cO) from rfl,lx]at hw5;have HA:=(show Hid _ from HWr2.out.addP (m:=(dO P).n+1) hg5 hw5 (by simp[dO,kg]));clear hw5 hg5 p5 f5 c5 z5;go_wp2
        go_roundg (zt-(m+1))
        case measure=>omega
        case rel=>exact⟨m+1,⟨ao5,cap5⟩,P++[(⟨(-1),0,0,mf,ml,mc⟩:cO)],⟨by omega,by omega⟩,rfl,by go_num,by simp;omega,by rw[hf2];exact HE2,HA⟩
     ·have em:m=zt:=by omega
      subst em;rw[Nat.sub_self,lL]at HE2;have hmi:¬(m:Int)<(m:Int):=by omega
      have hmi2:(m:Int)<(T.length:Int):=by omega
      obtain⟨gT5,e5,hgT,-,-,u2,u3,u4⟩:=HDr.out.t.2 m _ (fZ T m (by omega))
      cases e5
      have BR1:=HWr.out.r;obtain⟨⟨r0,r1,r2,r3,r4⟩,⟨f0,f1,f2,f3,f4⟩,hzr⟩:=oj BR1;have p0:wr.cell? ⟨w.heap.size+1,0,none⟩=some (.slice h.ao P.length h.cap):=by rw[aa HWr.out.p];rfl
      have p1:wr.cell? ⟨w.heap.size+1,1,none⟩=some (.int .i64 0):=by rw[aa HWr.out.p];rfl
      have p2:wr.cell? ⟨w.heap.size+1,2,none⟩=some (.string ⟨#[]⟩):=by rw[aa HWr.out.p];rfl
      have p3:wr.cell? ⟨w.heap.size+1,3,none⟩=some (.int .i64 0):=by rw[aa HWr.out.p];rfl
      have p4:wr.cell? ⟨w.heap.size+1,4,none⟩=some (.int .i64 0):=by rw[aa HWr.out.p];rfl
      have p5:=ae HWr.out.p
      by_cases hp0:P.length=0
      ·rw[if_pos hp0]at HE2
       have HX:Hid (eZ T S n k m=lQ 1 (Bq (T.getD m ic))):=HE2.out.symm;have hpi:((P.length:Int)==0)=true:=by simpa using hp0
       generalize T.getD m ic=tm at *;obtain⟨ms,mr,mf,ml,mc⟩:=tm;simp only at u2 u3 u4;go_wp2;obtain⟨x0,x1,x2,x3,x4⟩:=ew BR1 (.slice none 0 0) (.int .i64 1) (.string mf) (.int .i64 ml) (.int .i64 mc);exact bodyPost_ret (v:=.agg #[.slice none 0 0,.int .i64 1,.string mf,.int .i64 ml,.int .i64 mc]) (by simp[results,Tryz.results88,go_sem,x0,x1,x2,x3,x4]) rfl (by rw[HX.out];exact fE rfl rfl (((((HKw.out.setCell (Or.inr (by simp)) _).setCell (Or.inr (by simp)) _).setCell (Or.inr (by simp)) _).setCell (Or.inr (by simp)) _).setCell (Or.inr (by simp)) _))
      ·rw[if_neg hp0]at HE2
       have HX:Hid (eZ T S n k m=⟨P,0,⟨#[]⟩,0,0⟩):=HE2.out.symm;have hpi:((P.length:Int)==0)=false:=by simpa using hp0
       have HNE:Hid (∀q,h.blk=some q->q≠w.heap.size):=fun q hq=>by have:=HWr.out.fp q hq;omega
       go_wp2;obtain⟨x0,x1,x2,x3,x4⟩:=ew BR1 (.slice h.ao P.length h.cap) (.int .i64 0) (.string ⟨#[]⟩) (.int .i64 0) (.int .i64 0);exact bodyPost_ret (v:=.agg #[.slice h.ao P.length h.cap,.int .i64 0,.string ⟨#[]⟩,.int .i64 0,.int .i64 0]) (by simp[results,Tryz.results88,go_sem,x0,x1,x2,x3,x4]) rfl (by rw[HX.out];exact⟨h,rfl,⟨((((HWr.out.op.aside HNE.out _ _).aside HNE.out _ _).aside HNE.out _ _).aside HNE.out _ _).aside HNE.out _ _,fun q hq=>(by have:=HWr.out.fp q hq;omega),((((HKw.out.setCell (Or.inr (by simp)) _).setCell (Or.inr (by simp)) _).setCell (Or.inr (by simp)) _).setCell (Or.inr (by simp)) _).setCell (Or.inr (by simp)) _⟩⟩)
   ·rw[if_pos hx]at HDF
    have HP2:=(show Hid _ from HPK.out hx);generalize iQ T S n (k+2) zt=PF at *;obtain⟨pst,pw,pf,pl,pc⟩:=PF;have HP3:Hid (Calls Tryz.prog 127 #[.pointer (some ⟨b,0,none⟩),.int .i64 n,.int .i64 ((k:Int)+1+1),.int .i64 zt] wr fun en w'=>∃h',en=.returned (.agg #[.slice h'.ao pst.length h'.cap,.int .i64 pw,.string pf,.int .i64 pl,.int .i64 pc])/\iz wr w' h' (dO pst)):=HP2.out;go_wp2_with (go_at_call 127;refine Calls.mono HP3.out ?_;rintro en w2 ⟨h3,rfl,x2⟩;have BR2:=x2.kept.get HB.out (by simp);obtain⟨⟨r0,r1,r2,r3,r4⟩,⟨f0,f1,f2,f3,f4⟩,hzr⟩:=oj BR2);obtain⟨y0,y1,y2,y3,y4⟩:=ew BR2 (.slice h3.ao pst.length h3.cap) (.int .i64 pw) (.string pf) (.int .i64 pl) (.int .i64 pc);have HNE:Hid (∀q,h3.blk=some q->q≠w.heap.size):=fun q hq=>by have:=x2.far q hq;omega
    have HK2:=(show Hid _ from HKW.out.trans x2.kept);exact bodyPost_ret (v:=.agg #[.slice h3.ao pst.length h3.cap,.int .i64 pw,.string pf,.int .i64 pl,.int .i64 pc]) (by simp[results,Tryz.results88,go_sem,y0,y1,y2,y3,y4]) rfl (by rw[HDF.out];exact⟨h3,rfl,⟨((((x2.own.aside HNE.out _ _).aside HNE.out _ _).aside HNE.out _ _).aside HNE.out _ _).aside HNE.out _ _,fun q hq=>(by have:=x2.far q hq;omega),((((HK2.out.setCell (Or.inr (by simp)) _).setCell (Or.inr (by simp)) _).setCell (Or.inr (by simp)) _).setCell (Or.inr (by simp)) _).setCell (Or.inr (by simp)) _⟩⟩)
end Go.Proofs.YtpddjjabfbfifaaGreat
