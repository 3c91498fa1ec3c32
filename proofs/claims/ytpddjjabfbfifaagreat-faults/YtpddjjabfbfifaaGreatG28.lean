import Derived.Test.YtpddjjabfbfifaaGreatG26
namespace Go.Proofs.YtpddjjabfbfifaaGreat
open Go.RowKit
set_option maxHeartbeats 40000000
def iB(T:List Tk)(S:List Sm)(hs:List Nat)(k:Nat):List ByteArray:=((hs.take k).filter (fun j=>((au S j).k.toList == [36,102]))).map (fun j=>tS T ((au S j).h+1))
def Jv(p:ByteArray×ByteArray):List Value:=[.string p.1,.string p.2]
theorem GQ(p:ByteArray×ByteArray):(Jv p).length=2:=rfl
def kE(L:Fs):dK:=kq 114 2 Jv L
theorem zw(L:Fs)(x:ByteArray×ByteArray):(⟨(kE L).e,(kE L).size,(kE L).n+1,(kE L).xs++Jv x⟩:dK)=kE (L++[x]):=jY _ _ _ _ _
def jV(T:List Tk)(S:List Sm)(a:Nat)(V:List ByteArray)(i m:Nat):Fs:=((List.range m).filter (fun j=>decide (i<j)&&iw T S (V.getD i ⟨#[]⟩) (V.getD j ⟨#[]⟩) a)).map (fun j=>(V.getD i ⟨#[]⟩,V.getD j ⟨#[]⟩))
def kK(T:List Tk)(S:List Sm)(a:Nat)(V:List ByteArray)(k:Nat):Fs:=(List.range k).flatMap (fun i=>jV T S a V i V.length)
def lS(T:List Tk)(S:List Sm)(a:Nat):Fs:=kK T S a (iB T S (cC T S a) (cC T S a).length) (iB T S (cC T S a) (cC T S a).length).length
theorem zn(T:List Tk)(S:List Sm)(a:Nat)(V:List ByteArray)(i m:Nat)(h:i<m):jV T S a V i (m+1)=jV T S a V i m++(if iw T S (V.getD i ⟨#[]⟩) (V.getD m ⟨#[]⟩) a=true then [(V.getD i ⟨#[]⟩,V.getD m ⟨#[]⟩)] else []):=by
 unfold jV;rw[fK,List.map_append,decide_eq_true h,Bool.true_and]
 split <;> rfl
theorem zo(T:List Tk)(S:List Sm)(a:Nat)(V:List ByteArray)(i:Nat):jV T S a V i (i+1)=[]:=by
 unfold jV;rw[List.filter_eq_nil_iff.2 (fun j hj=>by have:=List.mem_range.1 hj;simp;omega)];rfl
theorem uj(T:List Tk)(S:List Sm)(a:Nat)(V:List ByteArray)(k:Nat):kK T S a V (k+1)=kK T S a V k++jV T S a V k V.length:=by
 unfold kK;rw[List.range_succ,List.flatMap_append];simp
theorem Bl(T:List Tk)(S:List Sm)(a:Nat)(V:List ByteArray)(i m:Nat):(jV T S a V i m).length<=m:=by
 unfold jV;rw[List.length_map];have:=List.length_filter_le (fun j=>decide (i<j)&&iw T S (V.getD i ⟨#[]⟩) (V.getD j ⟨#[]⟩) a) (List.range m);rw[List.length_range]at this;exact this
theorem A7(T:List Tk)(S:List Sm)(hs:List Nat)(k:Nat)(h:k<hs.length):iB T S hs (k+1)=iB T S hs k++(if((au S hs[k]).k.toList == [36,102])=true then [tS T ((au S hs[k]).h+1)] else []):=by
 unfold iB;rw[List.take_succ_eq_append_getElem h,List.filter_append,List.map_append]
 congr 1
 cases hv:((au S hs[k]).k.toList == [36,102])
 ·rw[List.filter_cons_of_neg (by rw[hv];simp)];rfl
 ·rw[List.filter_cons_of_pos (p:=fun j=>((au S j).k.toList == [36,102])) hv];rfl
theorem I9:(Tryz.prog.info? 114).map (fun i=>(i.zero,i.size,i.bytes))=some (some (.agg #[.string ⟨#[]⟩,.string ⟨#[]⟩]),2,32):=by kernel_rfl
set_option maxRecDepth 100000 in
theorem Bi(b n:Nat)(T:List Tk)(aoT:Option Addr)(cT:Nat)(S:List Sm)(aoS:Option Addr)(cS:Nat)(w:World)(hD:eW w b T aoT cT S aoS cS)(ok:mx T S n)(hn:n<S.length)(hE:eD T (au S n).h) :
  Calls Tryz.prog 64 #[.pointer (some ⟨b,0,none⟩),.int .i64 n] w fun e w'=>∃h',e=.returned (.slice h'.ao (lS T S n).length h'.cap)/\ir w w' h' (kE (lS T S n)):=by
 have HD:=(show Hid _ from hD);have HOK:=(show Hid _ from ok);have hS2:=ok.sm;have hT2:=ok.tm;have HHY:=(show Hid _ from ob b n T aoT cT S aoS cS w hD ok hn hE);have hyl:=kU T S n;have HYL:=(show Hid _ from pV T S n);have HPR:Hid (lS T S n=kK T S n (iB T S (cC T S n) (cC T S n).length) (iB T S (cC T S n) (cC T S n).length).length):=rfl;obtain⟨iS,hiS,hzS0,hzS1,hzS2⟩:=info_parts jI;obtain⟨iP,hiP,hzP0,hzP1,hzP2⟩:=info_parts I9;clear hD ok;generalize cC T S n=HY at *;go_enter Tryz.func64,Tryz.ntmps64
 go_upto_region 3 with (go_at_call 62;refine Calls.mono HHY.out ?_;rintro e w1 ⟨h1,rfl,x1⟩)
 have HK1:=(show Hid _ from x1.kept);have HSN:=(show Hid _ from x1.own.srcN);have HN0:Hid (ir w1 w1 ⟨none,0⟩ (aD [])):=⟨World.ownsRow_nil _ _ _ _,(by intro k hk;cases hk),ab.refl _ _⟩;clear x1 HHY;obtain⟨a1,c1⟩:=h1;have HV0:Hid (([]:List ByteArray)=iB T S HY 0):=by show _=_;simp[iB]
 go_wp2
 go_loopg [5,7] HY.length (fun g o i wr=>∃(k:Nat) (h':Hd) (V:List ByteArray),k<=HY.length/\g=HY.length-k/\o=.slice h'.ao V.length h'.cap/\i=.int .i64 k/\V.length<=k/\Hid (V=iB T S HY k)/\Hid (ir w1 wr h' (aD V)))
 case atStart=>exact⟨0,⟨none,0⟩,[],by omega,rfl,rfl,rfl,by simp,HV0,HN0⟩
 case round =>
  obtain⟨k,h',V,hk,hg,rfl,rfl,hVl,HV,HW⟩:=hrel;have HKr:=(show Hid _ from HK1.out.trans HW.out.kept)
  by_cases hlt:k<HY.length
  ·have hki:(k:Int)<(HY.length:Int):=by omega
   have hjn:=HYL.out HY[k] (List.getElem_mem hlt);have hjs:HY[k]<S.length:=by omega
   obtain⟨gH,eH,hgH,cH⟩:=HSN.out k HY[k] (List.getElem?_eq_getElem hlt);replace eH:a1=some ⟨gH,0,none⟩:=eH;subst eH;have HD1:=(show Hid _ from eW.still HD.out HK1.out);obtain⟨t0,s0,hb⟩:=HD1.out.cells;obtain⟨gs,rfl,hgs,-,-,q2,q3⟩:=HD1.out.s.2 HY[k] S[HY[k]] (List.getElem?_eq_getElem hjs);have HNX:=(show Hid _ from A7 T S HY k hlt);rw[<-HV.out,<-bC S HY[k] hjs]at HNX;have HFl:Hid ((S[HY[k]].k.toList == [36,102])=true->S[HY[k]].h+1<T.length):=fun h=>by have:=HOK.out.f HY[k] hjn;rw[<-bC S HY[k] hjs]at this;exact this h
   have hji:((HY[k]:Nat):Int)<(S.length:Int):=by omega
   have hj0:(0:Int)<=((HY[k]:Nat):Int):=by omega
   generalize S[HY[k]].k=sk at *;generalize S[HY[k]].h=sh at *;generalize HY[k]=j at *
   have HCL:Hid (∀w':World,w1.heap.size<=w'.heap.size->(∀q,q<w1.heap.size->w'.heap[q]?=w1.heap[q]?)->(w'.cell? ⟨b,0,none⟩=some (.slice aoT T.length cT)/\w'.cell? ⟨b,1,none⟩=some (.slice (some ⟨gs,0,none⟩) S.length cS)/\w'.cell? ⟨gH,k,none⟩=some (.int .i64 (j:Int))/\w'.cell? ⟨gs,j*4+2,none⟩=some (.int .i64 (sh:Int))/\w'.cell? ⟨gs,j*4+3,none⟩=some (.string sk))/\b<w'.heap.size/\gs<w'.heap.size/\gH<w'.heap.size):=fun w' hz hq =>
    ⟨⟨by rw[World.cell?_of_block (hq b hb)];exact t0,by rw[World.cell?_of_block (hq b hb)];exact s0,by rw[World.cell?_of_block (hq gH hgH)];exact cH,by rw[World.cell?_of_block (hq gs hgs)];exact q2,by rw[World.cell?_of_block (hq gs hgs)];exact q3⟩,by omega,by omega,by omega⟩
   clear t0 s0 q2 q3 cH;have HQr:Hid (∀q,q<w1.heap.size->wr.heap[q]?=w1.heap[q]?):=fun q hq=>HW.out.kept.block q hq (by simp)
   obtain⟨⟨t0,s0,cH,q2,q3⟩,hbz,hgsz,hgHz⟩:=HCL.out wr HW.out.kept.size HQr.out
   cases h1:(sk.toList == [36,102])
   ·have HM:Hid (V=iB T S HY (k+1)):=by have:=HNX.out;rw[h1,if_neg (by simp),List.append_nil]at this;exact this.symm
    go_upto_region 6 with fail
    go_quiet (fail)
    have HWd:=(show Hid _ from HW.out.still ((ab.refl [] wr).drewN nq));go_wp2
    go_roundg (HY.length-(k+1))
    case measure=>omega
    case rel=>exact⟨k+1,h',V,by omega,rfl,rfl,by go_num,by omega,HM,HWd⟩
   ·have HM:Hid (V++[tS T (sh+1)]=iB T S HY (k+1)):=by have:=HNX.out;rw[h1,if_pos rfl]at this;exact this.symm
    have hfl:=HFl.out h1;obtain⟨gT,rfl,hgT,u0,-⟩:=HD1.out.t.2 (sh+1) _ (gg T (sh+1) hfl);replace u0:w1.cell? ⟨gT,(sh+1)*5,none⟩=some (.string (tS T (sh+1))):=u0;generalize tS T (sh+1)=v at *;have HCT:Hid (∀w':World,(∀q,q<w1.heap.size->w'.heap[q]?=w1.heap[q]?)->w'.cell? ⟨gT,(sh+1)*5,none⟩=some (.string v)):=fun w' hq=>by rw[World.cell?_of_block (hq gT hgT)];exact u0
    have hfi:(sh:Int)+1<(T.length:Int):=by omega
    have hsw:IntKind.i64.wrap ((sh:Int)+1)=(sh:Int)+1:=by rw[IntKind.wrap_i64];omega
    have hsn:((sh:Int)+1).toNat=sh+1:=by omega
    have hs0:(0:Int)<=(sh:Int)+1:=by omega
    go_upto_region 6 with fail
    go_quiet (fail)
    go_upto_region 7 with fail
    obtain⟨W2,HW2⟩:∃W2,Hid (wr.drewN nq=W2):=⟨_,rfl⟩
    rw[HW2.out];have k2:ab [] wr W2:=by rw[<-HW2.out];exact(ab.refl [] wr).drewN nq
    have HWd:=(show Hid _ from HW.out.still k2);have HQ2:Hid (∀q,q<w1.heap.size->W2.heap[q]?=w1.heap[q]?):=fun q hq=>HWd.out.kept.block q hq (by simp)
    clear t0 s0 cH q2 q3 hbz hgsz hgHz u0;obtain⟨⟨t0,s0,cH,q2,-⟩,hbz,hgsz,hgHz⟩:=HCL.out W2 HWd.out.kept.size HQ2.out;have u0:=HCT.out W2 HQ2.out;have hgTz:gT<W2.heap.size:=Nat.lt_of_lt_of_le hgT HWd.out.kept.size;have hOw:=HWd.out.own;have hVb:Hid ((aD V).n<=900000000):=by show V.length<=_;omega
    have HS:Hid (∀(w5:World) (h5:Hd),bh W2 w5 h' h5->(w5.cell? ⟨b,0,none⟩=some (.slice (some ⟨gT,0,none⟩) T.length cT)/\w5.cell? ⟨b,1,none⟩=some (.slice (some ⟨gs,0,none⟩) S.length cS)/\w5.cell? ⟨gH,k,none⟩=some (.int .i64 (j:Int))/\w5.cell? ⟨gs,j*4+2,none⟩=some (.int .i64 (sh:Int))/\w5.cell? ⟨gT,(sh+1)*5,none⟩=some (.string v))):=fun w5 h5 gr=>by
     have hq5:∀q,q<w1.heap.size->w5.heap[q]?=w1.heap[q]?:=fun q hq=>by
      rw[gr.kept.block q (Nat.lt_of_lt_of_le hq HWd.out.kept.size) (fun hm=>by have:=HW.out.far q (aK hm);omega)];exact HQ2.out q hq
     obtain⟨⟨y0,y1,y2,y3,-⟩,-⟩:=HCL.out w5 (Nat.le_trans HWd.out.kept.size gr.kept.size) hq5;exact⟨y0,y1,y2,y3,HCT.out w5 hq5⟩
    clear k2
    go_region_held3 (fun w'=>w'.cell? ⟨b,0,none⟩=some (.slice (some ⟨gT,0,none⟩) T.length cT)/\w'.cell? ⟨b,1,none⟩=some (.slice (some ⟨gs,0,none⟩) S.length cS)/\w'.cell? ⟨gH,k,none⟩=some (.int .i64 (j:Int))/\w'.cell? ⟨gs,j*4+2,none⟩=some (.int .i64 (sh:Int))/\w'.cell? ⟨gT,(sh+1)*5,none⟩=some (.string v)) (go_keep) ((refine bD W2 (by rfl) (.tmp 33) (.tmp 53) 61 (by rfl) iS (.string ⟨#[]⟩) 16 h' (aD V) [.string v] Tryz.underlying61 hiS hzS0 hzS1 hzS2 rfl Nat.one_pos (by simp[Act.eval] <;> rfl) hOw hVb.out (by omega) (by simp[Act.eval]) rfl (by simp[Value.oneCell']) ?_;intro ao5 cap5 w5 hw5 hg5;obtain⟨y0,y1,y2,y3,y4⟩:=HS.out w5 _ hg5))
    rw[dV]at hw5;have HM2:=(show Hid _ from HWd.out.grew hg5 hw5);clear hw5 hg5;go_wp2
    go_roundg (HY.length-(k+1))
    case measure=>omega
    case rel=>exact⟨k+1,⟨ao5,cap5⟩,V++[v],by omega,rfl,by simp[aD],by go_num,by simp;omega,HM,HM2⟩
  ·have e:k=HY.length:=by omega
   subst e;have HPV:Hid (lS T S n=kK T S n V V.length):=by show _=_;rw[HPR.out,HV.out]
   have HSX:=(show Hid _ from HW.out.own.srcX);have HN1:Hid (ir wr wr ⟨none,0⟩ (kE [])):=⟨World.ownsRow_nil _ _ _ _,(by intro k hk;cases hk),ab.refl _ _⟩;have HP0:Hid (([]:Fs)=kK T S n V 0):=by show _=_;simp[kK]
   obtain⟨va,vc⟩:=h';obtain⟨w2,Hw2⟩:∃w2,Hid (wr=w2):=⟨_,rfl⟩
   rw[Hw2.out];rw[Hw2.out]at HSX HN1 HKr;clear HV HW Hw2;go_wp2
   go_loopg [8,9] V.length (fun g o i w3=>∃(m:Nat) (h2:Hd) (L:Fs),m<=V.length/\g=V.length-m/\o=.slice h2.ao L.length h2.cap/\i=.int .i64 m/\L.length<=10000*m/\Hid (L=kK T S n V m)/\Hid (ir w2 w3 h2 (kE L)))
   case atStart=>exact⟨0,⟨none,0⟩,[],by omega,rfl,rfl,rfl,by simp,HP0,HN1⟩
   case round =>
    obtain⟨m,h2,L,hm,hg2,rfl,rfl,hL,HL,HW3⟩:=hrel
    by_cases hlt2:m<V.length
    ·have hmi:(m:Int)<(V.length:Int):=by omega
     have HP1:Hid (L=kK T S n V m++jV T S n V m (m+1)):=by show _=_;rw[zo,List.append_nil];exact HL.out
     obtain⟨gV,eV,hgV,cV0⟩:=HSX.out m _ (kP V m hlt2);replace eV:va=some ⟨gV,0,none⟩:=eV;subst eV;go_wp2
     go_loopg [8,10] (V.length-(m+1)) (fun g o i w3=>∃(q:Nat) (h3:Hd) (L3:Fs),(m<q/\q<=V.length)/\g=V.length-q/\o=.slice h3.ao L3.length h3.cap/\i=.int .i64 q/\L3.length<=10000*m+q/\Hid (L3=kK T S n V m++jV T S n V m q)/\Hid (ir w2 w3 h3 (kE L3)))
     case atStart=>exact⟨m+1,h2,L,⟨by omega,by omega⟩,rfl,rfl,by go_num,by omega,HP1,HW3⟩
     case round =>
      obtain⟨q,h3,L3,⟨hq1,hq2⟩,hg3,rfl,rfl,hL3,HL3,HW4⟩:=hrel
      by_cases hlt3:q<V.length
      ·have hqi:(q:Int)<(V.length:Int):=by omega
       obtain⟨gV2,eV2,-,cV1⟩:=HSX.out q _ (kP V q hlt3)
       cases eV2
       have HNX:=(show Hid _ from zn T S n V m q hq1);have HAP:Hid (∀wx,ab [] w2 wx->Calls Tryz.prog 94 #[.pointer (some ⟨b,0,none⟩),.string (V.getD m ⟨#[]⟩),.string (V.getD q ⟨#[]⟩),.int .i64 n] wx fun e w'=>e=.returned (.bool (iw T S (V.getD m ⟨#[]⟩) (V.getD q ⟨#[]⟩) n))/\ab [] wx w'):=fun wx kx=>sX b n _ _ T aoT cT S aoS cS wx (eW.still HD.out (HKr.out.trans kx)) HOK.out
       have HCV:Hid (∀w':World,w2.heap.size<=w'.heap.size->(∀q,q<w2.heap.size->w'.heap[q]?=w2.heap[q]?)->w'.cell? ⟨gV,m,none⟩=some (.string (V.getD m ⟨#[]⟩))/\w'.cell? ⟨gV,q,none⟩=some (.string (V.getD q ⟨#[]⟩))/\gV<w'.heap.size):=fun w' hz hq=>⟨by rw[World.cell?_of_block (hq gV hgV)];exact cV0,by rw[World.cell?_of_block (hq gV hgV)];exact cV1,by omega⟩
       generalize V.getD m ⟨#[]⟩=x at *;generalize V.getD q ⟨#[]⟩=y at *;obtain⟨ap,Hap⟩:∃ap,Hid (iw T S x y n=ap):=⟨_,rfl⟩
       rw[Hap.out]at HAP HNX;clear cV1;obtain⟨v0,v1,hvz⟩:=HCV.out wr HW4.out.kept.size (fun q hq=>HW4.out.kept.block q hq (by simp))
       go_upto_region 15 with fail
       go_region_with (go_at_call 94;refine(HAP.out _ (by exact HW4.out.kept.drew)).mono ?_;rintro e w5 ⟨rfl,k5⟩)
       all_goals
        have k6:ab [] wr w5:=((ab.refl [] wr).drew).trans k5;have HW5:=(show Hid _ from HW4.out.still k6);clear k5 k6 v0 v1 hvz
        cases ap
        ·have HM:Hid (L3=kK T S n V m++jV T S n V m (q+1)):=by show _=_;rw[HNX.out,if_neg (by simp),List.append_nil];exact HL3.out
         go_wp2
         go_roundg (V.length-(q+1))
         case measure=>omega
         case rel=>exact⟨q+1,h3,L3,⟨by omega,by omega⟩,rfl,rfl,by go_num,by omega,HM,HW5⟩
        ·have HM:Hid (L3++[(x,y)]=kK T S n V m++jV T S n V m (q+1)):=by show _=_;rw[HNX.out,if_pos rfl,HL3.out,List.append_assoc]
         go_upto_region 17 with fail
         obtain⟨v0,v1,hvz⟩:=HCV.out w5 HW5.out.kept.size (fun q hq=>HW5.out.kept.block q hq (by simp));have hOw:=HW5.out.own;have hLb:Hid ((kE L3).n<=900000000):=by show L3.length<=_;omega
         have s3:Hid (∀u∈([.string x,.string y]:List Value),u.oneCell'=true):=by intro u hu;simp only[List.mem_cons,List.not_mem_nil,or_false]at hu;rcases hu with rfl | rfl <;> rfl
         have HS:Hid (∀(w6:World) (h6:Hd),bh w5 w6 h3 h6->w6.cell? ⟨gV,m,none⟩=some (.string x)/\w6.cell? ⟨gV,q,none⟩=some (.string y)):=fun w6 h6 gr=>by
          obtain⟨y0,y1,-⟩:=HCV.out w6 (Nat.le_trans HW5.out.kept.size gr.kept.size) (fun p hp=>by
           rw[gr.kept.block p (Nat.lt_of_lt_of_le hp HW5.out.kept.size) (fun hm=>by have:=HW5.out.far p (aK hm);omega)];exact HW5.out.kept.block p hp (by simp))
          exact⟨y0,y1⟩
         go_region_held3 (fun w'=>w'.cell? ⟨gV,m,none⟩=some (.string x)/\w'.cell? ⟨gV,q,none⟩=some (.string y)) (go_keep) ((refine bD w5 (by rfl) (.tmp 81) (.tmp 91) 111 (by rfl) iP (.agg #[.string ⟨#[]⟩,.string ⟨#[]⟩]) 32 h3 (kE L3) [.string x,.string y] Tryz.underlying111 hiP hzP0 hzP1 hzP2 rfl Nat.two_pos (by simp[Act.eval] <;> rfl) hOw hLb.out (by omega) (by simp[Act.eval]) rfl s3.out ?_;intro ao6 cap6 w6 hw6 hg6;obtain⟨y0,y1⟩:=HS.out w6 _ hg6))
         rw[show([.string x,.string y]:List Value)=Jv (x,y) from rfl,zw]at hw6;have HM2:=(show Hid _ from HW5.out.grew hg6 hw6);clear hw6 hg6;go_wp2
         go_roundg (V.length-(q+1))
         case measure=>omega
         case rel=>exact⟨q+1,⟨ao6,cap6⟩,L3++[(x,y)],⟨by omega,by omega⟩,rfl,by simp[kE,kq],by go_num,by simp;omega,HM,HM2⟩
      ·have eq:q=V.length:=by omega
       subst eq;have HM:Hid (L3=kK T S n V (m+1)):=by show _=_;rw[uj];exact HL3.out
       go_wp2
       go_roundg (V.length-(m+1))
       case measure=>omega
       case rel=>exact⟨m+1,h3,L3,by omega,rfl,rfl,by go_num,by omega,HM,HW4⟩
    ·have e:m=V.length:=by omega
     subst e;have HM:Hid (lS T S n=L):=by show _=_;rw[HPV.out,HL.out]
     go_wp2;go_ret;exact⟨h2,by rw[HM.out];rfl,by rw[HM.out];exact HW3.out.base HKr.out⟩
end Go.Proofs.YtpddjjabfbfifaaGreat
