import Derived.BigQuiet
import Derived.Laws.IdiomStrings
import Derived.Deep.RegionLaw
import Derived.Test.YtpddjjabfbfifaaGreatG23
namespace Go.Proofs.YtpddjjabfbfifaaGreat
open Go.RowKit
set_option maxHeartbeats 40000000
def Ca(S:List Sm)(a j:Nat):Bool:=((au S j).k.toList == [36,101])&&bB S j a
def kF(T:List Tk)(S:List Sm)(a k:Nat):List ByteArray:=bV T (au S a).h++((List.range k).filter (Ca S a)).flatMap (fun j=>bV T (au S j).h)
def Iq(T:List Tk)(S:List Sm)(a:Nat):List ByteArray:=kF T S a a
def tT(T:List Tk)(S:List Sm)(a:Nat)(U:List ByteArray)(j:Nat):Bool:=bB S j a&&(((au S j).k.toList == [36,101])||(((au S j).k.toList == [36,102])&&aI U (tS T ((au S j).h+1))))
def cC(T:List Tk)(S:List Sm)(a:Nat):List Nat:=(List.range a).filter (tT T S a (Iq T S a))
theorem fK(p:Nat->Bool)(k:Nat):(List.range (k+1)).filter p=(List.range k).filter p++(if p k=true then [k] else []):=by
 rw[List.range_succ,List.filter_append]
 congr 1
 cases h:p k
 ·rw[List.filter_cons_of_neg (by rw[h];simp)];rfl
 ·rw[List.filter_cons_of_pos h];rfl
theorem Ir(T:List Tk)(S:List Sm)(a k:Nat)(h:Ca S a k=true):kF T S a (k+1)=kF T S a k++bV T (au S k).h:=by
 unfold kF;rw[fK,if_pos h,List.flatMap_append,List.append_assoc];simp
theorem JP(T:List Tk)(S:List Sm)(a k:Nat)(h:Ca S a k=false):kF T S a (k+1)=kF T S a k:=by
 unfold kF;rw[fK,if_neg (by rw[h];simp),List.append_nil]
theorem IN{k:ByteArray}(h1:(k.toList == [36,101])=true)(h2:(k.toList == [36,102])=true):False:=by
 have a1:k.toList=[36,101]:=by simpa using h1
 rw[a1]at h2;exact absurd h2 (by decide)
set_option maxRecDepth 100000 in
theorem ob(b n:Nat)(T:List Tk)(aoT:Option Addr)(cT:Nat)(S:List Sm)(aoS:Option Addr)(cS:Nat)(w:World)(hD:eW w b T aoT cT S aoS cS)(ok:mx T S n)(hn:n<S.length)(hE:eD T (au S n).h) :
  Calls Tryz.prog 62 #[.pointer (some ⟨b,0,none⟩),.int .i64 n] w fun e w'=>∃h',e=.returned (.slice h'.ao (cC T S n).length h'.cap)/\ir w w' h' (bq (cC T S n)):=by
 have HD:=(show Hid _ from hD);have hS:=ok.ok.s;have hT:=ok.ok.t;have hS2:=ok.sm;have hT2:=ok.tm;have HOK:=(show Hid _ from ok);have HB0:Hid (∀wx,ab [] w wx->Calls Tryz.prog 72 #[.pointer (some ⟨b,0,none⟩),.int .i64 n] wx fun e w'=>∃h',e=.returned (.slice h'.ao (bV T S[n].h).length h'.cap)/\sS wx w' h' (bV T S[n].h)):=fun wx kx=>ki b n T aoT cT S _ cS wx (hD.still kx) hn hT (by rw[bC S n hn];exact hE)
 have HBB:=(show Hid _ from HB0.out w (ab.refl _ _));rw[bC S n hn]at HBB;have HU0:Hid (kF T S n 0=bV T (au S n).h):=by show _=_;unfold kF;simp
 have hl0:=jR T (au S n).h;obtain⟨iS,hiS,hzS0,hzS1,hzS2⟩:=info_parts jI;obtain⟨iN,hiN,hzN0,hzN1,hzN2⟩:=info_parts xd;clear hD ok HB0;generalize bV T (au S n).h=B0 at *;go_enter Tryz.func62,Tryz.ntmps62
 go_upto_region 2 with (go_at_call 72;refine Calls.mono HBB.out ?_;rintro e w0 ⟨h0,rfl,x0⟩)
 have HX0:=(show Hid _ from x0.toL);clear x0 HBB;go_wp2
 go_loopg [5,6] n (fun g u i wr=>∃(k:Nat) (h':Hd) (O:List ByteArray),k<=n/\g=n-k/\u=.slice h'.ao O.length h'.cap/\i=.int .i64 k/\O.length<=10000*(k+1)/\Hid (O=kF T S n k)/\Hid (ir w wr h' (aD O)))
 case atStart=>exact⟨0,h0,B0,by omega,rfl,rfl,rfl,by omega,HU0.out.symm,HX0⟩
 case round =>
  obtain⟨k,h',O,hk,hg,rfl,rfl,hO,HE,HW⟩:=hrel
  by_cases hlt:k<n
  ·have hks:k<S.length:=by omega
   have HDr:=(show Hid _ from eW.still HD.out HW.out.kept);obtain⟨-,c1,hb⟩:=HDr.out.cells;obtain⟨gs,rfl,hgs,-,-,-,q3⟩:=HDr.out.s.2 k S[k] (List.getElem?_eq_getElem hks);have hki:(k:Int)<(n:Int):=by omega
   have hki2:(k:Int)<(S.length:Int):=by omega
   have HP:Hid (Ca S n k=((S[k].k.toList == [36,101])&&bB S k n)):=by show _=_;unfold Ca;rw[bC S k hks]
   have HBD:Hid ((S[k].k.toList == [36,101])=true->Calls Tryz.prog 72 #[.pointer (some ⟨b,0,none⟩),.int .i64 k] wr fun e w'=>∃h',e=.returned (.slice h'.ao (bV T S[k].h).length h'.cap)/\sS wr w' h' (bV T S[k].h)):=fun h=>ki b k T aoT cT S _ cS wr HDr.out hks hT (by have:=HOK.out.e k hlt;rw[<-bC S k hks]at this;exact this (fY h (by decide)))
   have HY:Hid (Ca S n k=true->O++bV T S[k].h=kF T S n (k+1)):=fun h=>by rw[Ir T S n k h,<-HE.out,bC S k hks]
   have HZ:Hid (Ca S n k=false->O=kF T S n (k+1)):=fun h=>by rw[JP T S n k h,<-HE.out]
   have HBL:=jR T S[k].h;have HAC:=(show Hid _ from jP b k n T aoT cT S _ cS wr HDr.out (by omega) (by omega) hS);generalize bV T S[k].h=B at *;generalize S[k].k=sk at *;obtain⟨ac,Hac⟩:∃ac,Hid (bB S k n=ac):=⟨_,rfl⟩
   rw[Hac.out]at HP HAC
   cases h1:(sk.toList == [36,101])
   ·have HM:=(show Hid _ from HZ.out (by rw[HP.out,h1];rfl))
    go_wp2_with (go_at_call 92;refine Calls.mono HAC.out ?_;rintro e w9 ⟨rfl,hw9⟩;rw[hw9];clear hw9)
    go_roundg (n-(k+1))
    case measure=>omega
    case rel=>exact⟨k+1,h',O,by omega,rfl,rfl,by go_num,by omega,HM,HW⟩
   ·cases ac
    ·have HM:=(show Hid _ from HZ.out (by rw[HP.out,h1];rfl))
     go_wp2_with (go_at_call 92;refine Calls.mono HAC.out ?_;rintro e w9 ⟨rfl,hw9⟩;rw[hw9];clear hw9)
     go_roundg (n-(k+1))
     case measure=>omega
     case rel=>exact⟨k+1,h',O,by omega,rfl,rfl,by go_num,by omega,HM,HW⟩
    ·have HM:=(show Hid _ from HY.out (by rw[HP.out,h1];rfl))
     have HB2:=(show Hid _ from HBD.out h1)
     go_upto_region 8 with (first | (go_at_call 92;refine Calls.mono HAC.out ?_;rintro e w9 ⟨rfl,hw9⟩;rw[hw9];clear hw9) | (go_at_call 72;refine Calls.mono HB2.out ?_;rintro e w2 ⟨h2,rfl,x2⟩))
     have HL2:=(show Hid _ from HW.out.still x2.kept);have hc2:=(show Hid _ from x2.own.srcX.cells);have HK2:=(show Hid _ from x2.kept)
     have hn2:h2.ao=none->B.length=0/\h2.cap=0:=fun e=>by
      rcases x2.own.ways with ⟨q1,q2,q3⟩ | ⟨g,cur,q1,-⟩
      ·exact⟨q2,by rw[q1]⟩
      ·rw[e]at q1;cases q1
     clear x2 c1 q3;go_wp2_with (at_builtin;refine eO _ rfl (.tmp 40) (.tmp 41) 61 rfl iS (.string ⟨#[]⟩) 16 h' (aD O) Tryz.underlying61 hiS hzS0 hzS1 hzS2 rfl Nat.one_pos rfl HL2.out.own h2.ao B.length h2.cap (dO B) rfl (by simp[aD,dO]) hn2 hc2.out (ku B) (by simp only[aD];omega) (by omega) ?_;intro h5 w5 hw5 hg5;rw[zx]at hw5;have HM2:=(show Hid _ from HL2.out.grew hg5 hw5);clear hw5 hg5)
     go_roundg (n-(k+1))
     case measure=>omega
     case rel=>exact⟨k+1,h5,O++B,by omega,rfl,by simp[aD],by go_num,by simp;omega,HM,HM2⟩
  ·have e:k=n:=by omega
   subst e;obtain⟨U,HU⟩:∃U,Hid (Iq T S k=U):=⟨_,rfl⟩
   have e2:O=U:=by rw[<-HU.out,HE.out];rfl
   subst e2;have HX:=(show Hid _ from HW.out.own.srcX);have HKW:=(show Hid _ from HW.out.kept);have HR:Hid (cC T S k=(List.range k).filter (tT T S k O)):=by show _=_;unfold cC;rw[HU.out]
   have HN0:Hid (ir wr wr ⟨none,0⟩ (bq [])):=⟨World.ownsRow_nil _ _ _ _,(by intro k hk;cases hk),ab.refl _ _⟩;clear HW HE;go_wp2
   go_loopg [9,10] k (fun g o i w2=>∃(m:Nat) (h2:Hd) (L:List Nat),m<=k/\g=k-m/\o=.slice h2.ao L.length h2.cap/\i=.int .i64 m/\L.length<=m/\Hid (L=(List.range m).filter (tT T S k O))/\Hid (ir wr w2 h2 (bq L)))
   case atStart=>exact⟨0,⟨none,0⟩,[],by omega,rfl,rfl,rfl,by simp,rfl,HN0⟩
   case round =>
    obtain⟨m,h2,L,hm,hg2,rfl,rfl,hL,HE,HW⟩:=hrel
    by_cases hlt2:m<k
    ·have hks:m<S.length:=by omega
     have HK2:=(show Hid _ from HKW.out.trans HW.out.kept);have HDr:=(show Hid _ from eW.still HD.out HK2.out);obtain⟨c0,c1,hb⟩:=HDr.out.cells;obtain⟨gs,rfl,hgs,-,-,q2,q3⟩:=HDr.out.s.2 m S[m] (List.getElem?_eq_getElem hks);have hki:(m:Int)<(k:Int):=by omega
     have hki2:(m:Int)<(S.length:Int):=by omega
     have HP:Hid (tT T S k O m=(bB S m k&&((S[m].k.toList == [36,101])||((S[m].k.toList == [36,102])&&aI O (tS T (S[m].h+1)))))):=by show _=_;unfold tT;rw[bC S m hks]
     have HFl:Hid ((S[m].k.toList == [36,102])=true->S[m].h+1<T.length):=fun h=>by have:=HOK.out.f m hlt2;rw[<-bC S m hks]at this;exact this h
     have HY:Hid (tT T S k O m=true->L++[m]=(List.range (m+1)).filter (tT T S k O)):=fun h=>by rw[fK,if_pos h,<-HE.out]
     have HZ:Hid (tT T S k O m=false->L=(List.range (m+1)).filter (tT T S k O)):=fun h=>by rw[fK,if_neg (by rw[h];simp),List.append_nil,<-HE.out]
     have HAC:=(show Hid _ from jP b m k T aoT cT S _ cS wr HDr.out (by omega) (by omega) hS);obtain⟨ac,Hac⟩:∃ac,Hid (bB S m k=ac):=⟨_,rfl⟩
     rw[Hac.out]at HP HAC;generalize S[m].k=sk at *;generalize S[m].h=sh at *;obtain⟨v,Hv⟩:∃v,Hid (tS T (sh+1)=v):=⟨_,rfl⟩
     rw[Hv.out]at HP;have HAM:Hid (∀wx,ab [] wr wx->Calls Tryz.prog 93 #[.slice h'.ao O.length h'.cap,.string v] wx fun e w'=>e=.returned (.bool (aI O v))/\w'=wx):=fun wx kx=>i9 O h'.ao h'.cap v wx (id.still HX.out (HW.out.kept.trans kx)) (by omega)
     obtain⟨hs,Hhs⟩:∃hs,Hid (aI O v=hs):=⟨_,rfl⟩
     rw[Hhs.out]at HAM HP;have hOw:=HW.out.own
     cases ac
     ·have HM:=(show Hid _ from HZ.out (by rw[HP.out];rfl))
      go_wp2_with (go_at_call 92;refine Calls.mono HAC.out ?_;rintro e w9 ⟨rfl,hw9⟩;rw[hw9];clear hw9)
      go_roundg (k-(m+1))
      case measure=>omega
      case rel=>exact⟨m+1,h2,L,by omega,rfl,rfl,by go_num,by omega,HM,HW⟩
     ·cases h1:(sk.toList == [36,101])
      ·cases h3:(sk.toList == [36,102])
       ·have HM:=(show Hid _ from HZ.out (by rw[HP.out,h1,h3];rfl))
        go_wp2_with (go_at_call 92;refine Calls.mono HAC.out ?_;rintro e w9 ⟨rfl,hw9⟩;rw[hw9];clear hw9)
        go_roundg (k-(m+1))
        case measure=>omega
        case rel=>exact⟨m+1,h2,L,by omega,rfl,rfl,by go_num,by omega,HM,HW⟩
       ·have hfl:=HFl.out h3
        obtain⟨gT,rfl,hgT,t0,-⟩:=HDr.out.t.2 (sh+1) _ (gg T (sh+1) hfl);replace t0:wr.cell? ⟨gT,(sh+1)*5,none⟩=some (.string (tS T (sh+1))):=t0;rw[Hv.out]at t0;have hfi:(sh:Int)+1<(T.length:Int):=by omega
        have hsw:IntKind.i64.wrap ((sh:Int)+1)=(sh:Int)+1:=by rw[IntKind.wrap_i64];omega
        have hsn:((sh:Int)+1).toNat=sh+1:=by omega
        have hs0:(0:Int)<=(sh:Int)+1:=by omega
        go_upto_region 17 with (go_at_call 92;refine Calls.mono HAC.out ?_;rintro e w9 ⟨rfl,hw9⟩;rw[hw9];clear hw9)
        have HWd:=(show Hid _ from HW.out.still (ab.refl [] wr).drew);have hOwd:=HWd.out.own
        go_region_with (go_at_call 93;refine(HAM.out _ (by exact(ab.refl [] wr).drew)).mono ?_;rintro e w9 ⟨rfl,hw9⟩;rw[hw9];clear hw9)
        all_goals
         clear c0 q2 t0
         cases hs
         ·have HM:=(show Hid _ from HZ.out (by rw[HP.out,h1,h3];rfl))
          go_wp2
          go_roundg (k-(m+1))
          case measure=>omega
          case rel=>exact⟨m+1,h2,L,by omega,rfl,rfl,by go_num,by omega,HM,HWd⟩
         ·have HM:=(show Hid _ from HY.out (by rw[HP.out,h1,h3];rfl))
          go_wp2_with (at_builtin;refine mu _ rfl (.tmp 93) (.tmp 95) 26 rfl iN (.int .i64 0) 8 h2 (bq L) [.int .i64 m] Tryz.underlying26 hiN hzN0 hzN1 hzN2 rfl Nat.one_pos rfl hOwd (by simp only[bq];omega) (by omega) rfl rfl (by simp[Value.oneCell']) ?_;intro h5 w5 hw5 hg5;rw[qk]at hw5;have HM2:=(show Hid _ from HWd.out.grew hg5 hw5);clear hw5 hg5)
          go_roundg (k-(m+1))
          case measure=>omega
          case rel=>exact⟨m+1,h5,L++[m],by omega,rfl,by simp[bq],by go_num,by simp;omega,HM,HM2⟩
      ·have HM:=(show Hid _ from HY.out (by rw[HP.out,h1];rfl))
       have h3:(sk.toList == [36,102])=false:=by
        cases h:(sk.toList == [36,102])
        ·rfl
        ·exact(IN h1 h).elim
       go_wp2_with (first | (go_at_call 92;refine Calls.mono HAC.out ?_;rintro e w9 ⟨rfl,hw9⟩;rw[hw9];clear hw9) | (at_builtin;refine mu _ rfl (.tmp 93) (.tmp 95) 26 rfl iN (.int .i64 0) 8 h2 (bq L) [.int .i64 m] Tryz.underlying26 hiN hzN0 hzN1 hzN2 rfl Nat.one_pos rfl hOw (by simp only[bq];omega) (by omega) rfl rfl (by simp[Value.oneCell']) ?_;intro h5 w5 hw5 hg5;rw[qk]at hw5;have HM2:=(show Hid _ from HW.out.grew hg5 hw5);clear hw5 hg5))
       go_roundg (k-(m+1))
       case measure=>omega
       case rel=>exact⟨m+1,h5,L++[m],by omega,rfl,by simp[bq],by go_num,by simp;omega,HM,HM2⟩
    ·have e:m=k:=by omega
     subst e;rw[<-HR.out]at HE;have HEE:Hid (cC T S m=L):=HE.out.symm;go_wp2;go_ret;exact⟨h2,by rw[HEE.out];rfl,by rw[HEE.out];exact HW.out.base HKW.out⟩
def dX(T:List Tk)(S:List Sm)(a:Nat)(x:ByteArray):Int :=
 if bn T S x a<0 then -1 else if(aE (au S (bn T S x a).toNat).k||bB S (bn T S x a).toNat a)=true then bn T S x a else -1
theorem oN(T:List Tk)(S:List Sm)(x:ByteArray)(n:Nat):bn T S x n=-1∨∃k,k<n/\bn T S x n=(k:Int):=by
 unfold bn
 cases h:(List.range n).find? (oE T S x) with
 | none=>exact Or.inl rfl
 | some j=>exact Or.inr ⟨j,List.mem_range.1 (List.mem_of_find?_eq_some h),rfl⟩
theorem nX(T:List Tk)(S:List Sm)(a:Nat)(x:ByteArray):dX T S a x=-1∨∃k,k<a/\dX T S a x=(k:Int):=by
 unfold dX
 split
 ·exact Or.inl rfl
 ·next h =>
  split
  ·rcases oN T S x a with e | ⟨k,hk,e⟩
   ·omega
   ·exact Or.inr ⟨k,hk,e⟩
  ·exact Or.inl rfl
set_option maxRecDepth 100000 in
theorem uN(b n:Nat)(x:ByteArray)(T:List Tk)(aoT:Option Addr)(cT:Nat)(S:List Sm)(aoS:Option Addr)(cS:Nat)(w:World)(hD:eW w b T aoT cT S aoS cS)(ok:mx T S n) :
  Calls Tryz.prog 128 #[.pointer (some ⟨b,0,none⟩),.int .i64 n,.string x] w fun e w'=>e=.returned (.int .i64 (dX T S n x))/\ab [] w w':=by
 have HLB:=(show Hid _ from mG b n x T aoT cT S aoS cS w hD ok.ok.m ok.ok.s ok.ok.a);have HR:Hid (dX T S n x=if bn T S x n<0 then -1 else if(aE (au S (bn T S x n).toNat).k||bB S (bn T S x n).toNat n)=true then bn T S x n else -1):=rfl;generalize dX T S n x=R at *;have hn:=ok.ok.m;have hS:=ok.ok.s
 rcases oN T S x n with e | ⟨k,hk,e⟩
 ·rw[e]at HLB HR
  rw[if_pos (by omega)]at HR;go_enter Tryz.func128,Tryz.ntmps128;go_wp2_with (go_at_call 171;refine Calls.mono HLB.out ?_;rintro e w1 ⟨rfl,k1⟩;have HK1:=(show Hid _ from k1);clear k1);go_ret;exact⟨am HR.out.symm,HK1.out⟩
 ·rw[e]at HLB HR
  rw[if_neg (by omega),Int.toNat_natCast]at HR;have hks:k<S.length:=by omega
  have hki:¬(k:Int)<0:=by omega
  have hki2:(k:Int)<(S.length:Int):=by omega
  have hki3:(0:Int)<=(k:Int):=by omega
  obtain⟨sk,Hsk⟩:∃sk,Hid ((au S k).k=sk):=⟨_,rfl⟩
  have HD:Hid (∀w',ab [] w w'->∃gs,aoS=some ⟨gs,0,none⟩/\gs<w'.heap.size/\w'.cell? ⟨gs,k*4+3,none⟩=some (.string sk)/\w'.cell? ⟨b,1,none⟩=some (.slice aoS S.length cS)/\b<w'.heap.size/\Calls Tryz.prog 92 #[.pointer (some ⟨b,0,none⟩),.int .i64 k,.int .i64 n] w' fun e w''=>e=.returned (.bool (bB S k n))/\w''=w'):=fun w' kw=>by
   have hd:=hD.still kw;obtain⟨-,c1,hb⟩:=hd.cells;obtain⟨gs,e1,hgs,-,-,-,q3⟩:=hd.s.2 k S[k] (List.getElem?_eq_getElem hks);rw[bC S k hks,Hsk.out]at q3;exact⟨gs,e1,hgs,q3,c1,hb,jP b k n T aoT cT S _ cS w' hd (by omega) hn hS⟩
  rw[Hsk.out]at HR;clear hD;go_enter Tryz.func128,Tryz.ntmps128
  go_upto_region 4 with (go_at_call 171;refine Calls.mono HLB.out ?_;rintro e w1 ⟨rfl,k1⟩;have HK1:=(show Hid _ from k1);clear k1)
  obtain⟨gs,rfl,hgs,q3,c1,hb,hac⟩:=HD.out w1 HK1.out;have HAC:=(show Hid _ from hac);clear hac;obtain⟨ac,Hac⟩:∃ac,Hid (bB S k n=ac):=⟨_,rfl⟩
  rw[Hac.out]at HAC HR;obtain⟨asr,Has⟩:∃asr,Hid (aE sk=asr):=⟨_,rfl⟩
  rw[Has.out]at HR
  cases hr:(asr||ac)
  ·rw[hr]at HR
   simp only[Bool.or_eq_false_iff]at hr;obtain⟨rfl,rfl⟩:=hr;rw[if_neg (by simp)]at HR;go_wp2_with (first | (go_at_call 92;refine Calls.mono HAC.out ?_;rintro e w9 ⟨rfl,hw9⟩;rw[hw9];clear hw9) | (go_at_call 122;refine(eZ sk _).mono ?_;rintro e w9 ⟨rfl,hw9⟩;rw[hw9,Has.out];clear hw9));go_ret;exact⟨am HR.out.symm,HK1.out⟩
  ·rw[hr,if_pos rfl]at HR
   cases asr
   ·have ea:ac=true:=by simpa using hr
    subst ea;go_wp2_with (first | (go_at_call 92;refine Calls.mono HAC.out ?_;rintro e w9 ⟨rfl,hw9⟩;rw[hw9];clear hw9) | (go_at_call 122;refine(eZ sk _).mono ?_;rintro e w9 ⟨rfl,hw9⟩;rw[hw9,Has.out];clear hw9));go_ret;exact⟨am HR.out.symm,HK1.out⟩
   ·go_wp2_with (first | (go_at_call 92;refine Calls.mono HAC.out ?_;rintro e w9 ⟨rfl,hw9⟩;rw[hw9];clear hw9) | (go_at_call 122;refine(eZ sk _).mono ?_;rintro e w9 ⟨rfl,hw9⟩;rw[hw9,Has.out];clear hw9))
    go_ret;exact⟨am HR.out.symm,HK1.out⟩
def gx(T:List Tk)(S:List Sm)(j:Int):Nat:=if j<0 then 0 else if aE (au S j.toNat).k=true then(cC T S j.toNat).length else 0
theorem Ef(v:Value)(T:List Tk)(S:List Sm)(w:World) :
  Calls Tryz.prog 129 #[v,.int .i64 (-1)] w fun e w'=>e=.returned (.int .i64 (gx T S (-1):Nat))/\ab [] w w':=by
 have HR:Hid (gx T S (-1)=0):=rfl;go_enter Tryz.func129,Tryz.ntmps129;go_wp2;go_ret;exact⟨by rw[HR.out];rfl,ab.refl _ _⟩
set_option maxRecDepth 100000 in
theorem vX(b n k:Nat)(T:List Tk)(aoT:Option Addr)(cT:Nat)(S:List Sm)(aoS:Option Addr)(cS:Nat)(w:World)(hD:eW w b T aoT cT S aoS cS)(ok:mx T S n)(hk:k<n) :
  Calls Tryz.prog 129 #[.pointer (some ⟨b,0,none⟩),.int .i64 k] w fun e w'=>e=.returned (.int .i64 (gx T S k:Nat))/\ab [] w w':=by
 have hn:=ok.ok.m;have hks:k<S.length:=by omega
 have hki:¬(k:Int)<0:=by omega
 have hki2:(k:Int)<(S.length:Int):=by omega
 have hki3:(0:Int)<=(k:Int):=by omega
 have HR:Hid (gx T S k=if aE (au S k).k=true then(cC T S k).length else 0):=by show _=_;unfold gx;rw[if_neg hki,Int.toNat_natCast]
 obtain⟨-,c1,hb⟩:=hD.cells;obtain⟨gs,rfl,hgs,-,-,-,q3⟩:=hD.s.2 k S[k] (List.getElem?_eq_getElem hks);rw[bC S k hks]at q3
 have HE:Hid (aE (au S k).k=true->Calls Tryz.prog 62 #[.pointer (some ⟨b,0,none⟩),.int .i64 k] w fun e w'=>∃h',e=.returned (.slice h'.ao (cC T S k).length h'.cap)/\ir w w' h' (bq (cC T S k))):=fun h=>ob b k T aoT cT S _ cS w hD (ok.mono (by omega)) hks (ok.e k hk (by
  unfold aE at h
  rcases Bool.or_eq_true _ _ ▸ h with h | h <;> exact fY h (by decide)))
 have HA:Hid (aE (au S k).k=(((au S k).k.toList == [36,97])||((au S k).k.toList == [36,112]))):=rfl;clear hD ok;generalize gx T S k=R at *;generalize (au S k).k=sk at *;generalize aE sk=asr at *
 cases asr
 ·rw[if_neg (by simp)]at HR
  have h2:=HA.out.symm;simp only[Bool.or_eq_false_iff]at h2;obtain⟨g1,g2⟩:=h2;go_enter Tryz.func129,Tryz.ntmps129;go_wp2;go_ret;exact⟨by rw[HR.out];rfl,ab.refl _ _⟩
 ·rw[if_pos rfl]at HR
  have HC:=(show Hid _ from HE.out rfl);have h2:=HA.out.symm
  cases g1:(sk.toList == [36,97])
  ·rw[g1,Bool.false_or]at h2
   go_enter Tryz.func129,Tryz.ntmps129;go_wp2_with (go_at_call 62;refine Calls.mono HC.out ?_;rintro e w1 ⟨h',rfl,x1⟩;have HK1:=(show Hid _ from x1.kept);clear x1);go_ret;exact⟨by rw[HR.out];rfl,HK1.out⟩
  ·go_enter Tryz.func129,Tryz.ntmps129
   go_wp2_with (go_at_call 62;refine Calls.mono HC.out ?_;rintro e w1 ⟨h',rfl,x1⟩;have HK1:=(show Hid _ from x1.kept);clear x1);go_ret;exact⟨by rw[HR.out];rfl,HK1.out⟩
def Kx(m:Nat):ByteArray:=⟨#[UInt8.ofNat (65+m % 20)]⟩
def DR(m:Nat):ByteArray:=⟨#[UInt8.ofNat (85+m % 5)]⟩
def vV:Nat->Nat->ByteArray->ByteArray
 | 0,_,s=>s
 | f+1,h,s=>if 0<h then vV f ((h-1) / 5) (DR (h-1)++s) else s
def lk(m:Nat):ByteArray:=vV (m+1) (m / 20) (Kx m)
theorem DQ(m:Nat)(wx:World):(convert 312 9 (.slice (some ⟨wx.heap.size,0,none⟩) 1 1)).run Tryz.prog (wx.alloc (.cells #[.int .u8 (65+(m:Int) % 20)] 5))=.ok (.string (Kx m)) (wx.alloc (.cells #[.int .u8 (65+(m:Int) % 20)] 5)):=by
 have e:(65+(m:Int) % 20)=((UInt8.ofNat (65+m % 20)).toNat:Int):=by
  rw[UInt8.toNat_ofNat'];omega
 rw[e]
 exact run_convert_bytes_back (wx.alloc (.cells #[.int .u8 ((UInt8.ofNat (65+m % 20)).toNat:Int)] 5)) 312 9 5 ⟨wx.heap.size,0,none⟩ 1 [UInt8.ofNat (65+m % 20)] Tryz.underlying312 Tryz.underlying5 Tryz.underlying9 (by
  intro j hj
  match j,hj with
  | 0,_=>simp[Addr.add])
theorem DT(m:Nat)(wx:World):(convert 312 9 (.slice (some ⟨wx.heap.size,0,none⟩) 1 1)).run Tryz.prog (wx.alloc (.cells #[.int .u8 (85+(m:Int) % 5)] 5))=.ok (.string (DR m)) (wx.alloc (.cells #[.int .u8 (85+(m:Int) % 5)] 5)):=by
 have e:(85+(m:Int) % 5)=((UInt8.ofNat (85+m % 5)).toNat:Int):=by
  rw[UInt8.toNat_ofNat'];omega
 rw[e]
 exact run_convert_bytes_back (wx.alloc (.cells #[.int .u8 ((UInt8.ofNat (85+m % 5)).toNat:Int)] 5)) 312 9 5 ⟨wx.heap.size,0,none⟩ 1 [UInt8.ofNat (85+m % 5)] Tryz.underlying312 Tryz.underlying5 Tryz.underlying9 (by
  intro j hj
  match j,hj with
  | 0,_=>simp[Addr.add])
theorem AU(f:Nat)(s:ByteArray):vV f 0 s=s:=by cases f <;> rfl
set_option maxRecDepth 100000 in
theorem yW(m:Nat)(w:World)(hm:m<=1000000000) :
  Calls Tryz.prog 240 #[.int .i64 ((m:Int)+1)] w fun e w'=>e=.returned (.string (lk m))/\ab [] w w':=by
 have hcv:=fun wx=>DQ m wx
 have hm20:0<=(m:Int) % 20/\(m:Int) % 20<=19:=by omega
 go_enter Tryz.func240,Tryz.ntmps240;go_wp2
 go_loopg [3,4] (m / 20) (fun g sv iv wr=>∃(f h:Nat) (s:ByteArray),g=h/\iv=.int .i64 h/\sv=.string s/\h<=f/\h<=1000000000/\s.size+f<=1000000003/\Hid (vV f h s=lk m)/\Hid (ab [] w wr))
 case atStart=>exact⟨m+1,m / 20,Kx m,rfl,by simp,rfl,by omega,by omega,(by show 1+_<=_;omega),rfl,(ab.refl _ _).alloc _⟩
 case round =>
  obtain⟨f,h,s,hg,rfl,rfl,hf,hh,hs,HD,HK⟩:=hrel;clear hcv hm20
  cases h with
  | zero =>
   have HE:Hid (s=lk m):=by show _=_;rw[<-HD.out,AU]
   go_wp2;go_ret;exact⟨by rw[<-HE.out];rfl,HK.out⟩
  | succ q =>
   obtain⟨f',rfl⟩:∃f',f=f'+1:=⟨f-1,by omega⟩
   have hcv:=fun wx=>DT q wx
   have hm5:0<=(q:Int) % 5/\(q:Int) % 5<=4:=by omega
   have hqi:(0:Int)<(q:Int)+1:=by omega
   have HE:Hid (vV f' (q / 5) (DR q++s)=lk m):=by
    show _=_
    rw[<-HD.out,vV,if_pos (by omega),Nat.add_sub_cancel]
   have hds:(DR q).size=1:=rfl;have Hsz:Hid ((DR q++s).size=1+s.size):=by show _=_;rw[ByteArray.size_append,hds]
   go_wp2
   go_roundg (q / 5)
   case measure=>omega
   case rel=>exact⟨f',q / 5,DR q++s,rfl,by simp,rfl,by omega,by omega,by have:=Hsz.out;omega,HE,HK.out.alloc _⟩
def xr(s:ByteArray)(i:Nat):Bool:=((lk i).toList==s.toList)
def gG(s:ByteArray)(top:Nat):Nat:=match (List.range top).find? (xr s) with
 | some i=>i+1
 | none=>0
theorem Be{s:ByteArray}{top k:Nat}(hk:k<top)(h:xr s k=true)(ha:∀j,j<k->xr s j=false):gG s top=k+1:=by
 have e:(List.range top).find? (xr s)=some k:=by
  rw[List.find?_range_eq_some];exact⟨h,List.mem_range.2 hk,fun j hj=>by rw[ha j hj];rfl⟩
 unfold gG;rw[e]
theorem Ek{s:ByteArray}{top:Nat}(ha:∀j,j<top->xr s j=false):gG s top=0:=by
 have e:(List.range top).find? (xr s)=none:=by
  rw[List.find?_eq_none];intro j hj;rw[ha j (List.mem_range.1 hj)];simp
 unfold gG;rw[e]
set_option maxRecDepth 100000 in
theorem Bd(s:ByteArray)(top:Nat)(w:World)(ht:top<=1000000000) :
  Calls Tryz.prog 213 #[.string s,.int .i64 top] w fun e w'=>e=.returned (.int .i64 (gG s top:Nat))/\ab [] w w':=by
 go_enter Tryz.func213,Tryz.ntmps213;go_wp2
 go_loopg [5] top (fun g i wr=>∃k:Nat,k<=top/\g=top-k/\i=.int .i64 ((k:Int)+1)/\Hid (∀j,j<k->xr s j=false)/\Hid (ab [] w wr))
 case atStart=>exact⟨0,by omega,rfl,by simp,(fun j hj=>by omega),ab.refl _ _⟩
 case round =>
  obtain⟨k,hk,hg,rfl,HN,HK⟩:=hrel
  by_cases hlt:k<top
  ·have hki:(k:Int)+1<=(top:Int):=by omega
   have HL:=(show Hid _ from yW k wr (by omega));have HP:Hid (xr s k=((lk k).toList==s.toList)):=rfl;generalize lk k=t at *
   cases hb:(t.toList==s.toList)
   ·have HM:=(show Hid _ from dC HN.out (by rw[HP.out,hb]))
    go_wp2_with (go_at_call 240;refine Calls.mono HL.out ?_;rintro e w1 ⟨rfl,k1⟩;have HK1:=(show Hid _ from HK.out.trans k1);clear k1)
    go_roundg (top-(k+1))
    case measure=>omega
    case rel=>exact⟨k+1,by omega,rfl,by go_num,HM,HK1⟩
   ·have HM:Hid (gG s top=k+1):=Be hlt (by rw[HP.out,hb]) HN.out
    go_wp2_with (go_at_call 240;refine Calls.mono HL.out ?_;rintro e w1 ⟨rfl,k1⟩;have HK1:=(show Hid _ from HK.out.trans k1);clear k1);go_ret;exact⟨by rw[HM.out];rfl,HK1.out⟩
  ·have HM:Hid (gG s top=0):=Ek (fun j hj=>HN.out j (by omega))
   have hki:¬(k:Int)+1<=(top:Int):=by omega
   go_wp2;go_ret;exact⟨by rw[HM.out];rfl,HK.out⟩
def kq{α:Type}(e s:Nat)(f:α->List Value)(L:List α):dK:=⟨e,s,L.length,L.flatMap f⟩
theorem JE{α:Type}{s:Nat}{f:α->List Value}(hs:∀x,(f x).length=s)(L:List α)(j:Nat)(t:α)(h:L[j]?=some t)(c:Nat)(hc:c<s):(L.flatMap f)[j*s+c]?=(f t)[c]?:=by
 induction L generalizing j with
 | nil=>cases h
 | cons a L ih =>
  rw[List.flatMap_cons]
  cases j with
  | zero =>
   simp at h;subst h;rw[List.getElem?_append_left (by rw[hs];omega)];simp
  | succ j =>
   rw[List.getElem?_append_right (by rw[hs,Nat.succ_mul];omega),show(j+1)*s+c-(f a).length=j*s+c by rw[hs,Nat.succ_mul];omega];exact ih j (by simpa using h)
theorem jY{α:Type}(e s:Nat)(f:α->List Value)(L:List α)(x:α):(⟨(kq e s f L).e,(kq e s f L).size,(kq e s f L).n+1,(kq e s f L).xs++f x⟩:dK)=kq e s f (L++[x]):=by
 simp[kq]
def cG{α:Type}(w:World)(ao:Option Addr)(s:Nat)(f:α->List Value)(L:List α):Prop:=∀(k:Nat) (x:α),L[k]?=some x->∃g,ao=some ⟨g,0,none⟩/\g<w.heap.size/\∀(c:Nat) (u:Value),(f x)[c]?=some u->w.cell? ⟨g,k*s+c,none⟩=some u
theorem cG.still{α:Type}{w w':World}{ao:Option Addr}{s:Nat}{f:α->List Value}{L:List α}(h:cG w ao s f L)(k:ab [] w w'):cG w' ao s f L:=by
 intro j x hj;obtain⟨g,e,hg,c0⟩:=h j x hj;exact⟨g,e,Nat.lt_of_lt_of_le hg k.size,fun c u hu=>by rw[World.cell?_of_block (k.block g hg (by simp))];exact c0 c u hu⟩
theorem aA.srcG{α:Type}{w:World}{h:Hd}{e s:Nat}{f:α->List Value}{L:List α}(o:aA w h (kq e s f L))(hs:∀x,(f x).length=s):cG w h.ao s f L:=by
 intro k x hk;have hkl:=(List.getElem?_eq_some_iff.1 hk).1;obtain⟨g,eg,hg,-⟩:=oe o (show 0<L.length by omega);refine⟨g,eg,hg,fun c u hu=>o.cell eg (k*s+c) u ?_⟩;have hc:c<s:=by rw[<-hs x];exact(List.getElem?_eq_some_iff.1 hu).1
 show(L.flatMap f)[k*s+c]?=some u
 rw[JE hs L k x hk c hc];exact hu
structure Lt where
 c:Int
 file:ByteArray
 line:Int
 col:Int
def Ls(l:Lt):List Value:=[.int .u8 l.c,.string l.file,.int .i64 l.line,.int .i64 l.col]
theorem Jj(l:Lt):(Ls l).length=4:=rfl
def rS(L:List Lt):dK:=kq 311 4 Ls L
theorem Kp:(Tryz.prog.info? 311).map (fun i=>(i.zero,i.size,i.bytes))=some (some (.agg #[.int .u8 0,.string ⟨#[]⟩,.int .i64 0,.int .i64 0]),4,40):=by kernel_rfl
def ev(T:List Tk):Prop:=∀t∈T,t.s.size<=1024/\0<=t.col/\t.col<=10000
def DW(t:Tk)(k:Nat):Lt:=⟨aF t.s k,t.file,t.line,t.col+k⟩
def rm(t:Tk):List Lt:=(List.range t.s.size).map (DW t)
def dW(T:List Tk)(a z:Nat):List Lt:=((T.drop a).take (z-a)).flatMap rm
theorem zH(T:List Tk)(a k:Nat)(h1:a<=k)(h2:k<T.length):dW T a (k+1)=dW T a k++rm T[k]:=by
 unfold dW;have e:k+1-a=(k-a)+1:=by omega
 have hl:k-a<(T.drop a).length:=by rw[List.length_drop];omega
 rw[e,List.take_succ_eq_append_getElem hl,List.flatMap_append];have e2:(T.drop a)[k-a]=T[k]:=by rw[List.getElem_drop];congr 1;omega
 rw[e2];simp
theorem EZ(t:Tk)(k:Nat)(h:k<t.s.size):(rm t).take (k+1)=(rm t).take k++[DW t k]:=by
 unfold rm;rw[List.take_succ_eq_append_getElem (by simpa using h)];simp
set_option maxRecDepth 100000 in
theorem BC(T:List Tk)(ao:Option Addr)(cap a z:Nat)(w:World)(hT:jN w ao cap T)(hl:T.length<=10000)(ha:a<=z)(hz:z<=T.length)(hO:ev T) :
  Calls Tryz.prog 175 #[.slice ao T.length cap,.int .i64 a,.int .i64 z] w fun e w'=>∃h',e=.returned (.slice h'.ao (dW T a z).length h'.cap)/\ir w w' h' (rS (dW T a z)):=by
 have hcap:=hT.1;have HT:=(show Hid _ from hT);have HN0:Hid (ir w w ⟨none,0⟩ (rS [])):=⟨World.ownsRow_nil _ _ _ _,(by intro k hk;cases hk),ab.refl _ _⟩;obtain⟨iL,hiL,hzL0,hzL1,hzL2⟩:=info_parts Kp;have HE0:Hid (([]:List Lt)=dW T a a):=by show _=_;unfold dW;simp
 clear hT;go_enter Tryz.func175,Tryz.ntmps175;go_wp2
 go_loopg [7,8] (z-a) (fun g o i wr=>∃(k:Nat) (h':Hd) (O:List Lt),(a<=k/\k<=z)/\g=z-k/\o=.slice h'.ao O.length h'.cap/\i=.int .i64 k/\O.length<=1024*k/\Hid (O=dW T a k)/\Hid (ir w wr h' (rS O)))
 case atStart=>exact⟨a,⟨none,0⟩,[],⟨by omega,by omega⟩,rfl,rfl,rfl,by simp,HE0,HN0⟩
 case round =>
  obtain⟨k,h',O,⟨hk1,hk2⟩,hg,rfl,rfl,hOl,HE,HW⟩:=hrel
  by_cases hlt:k<z
  ·have hks:k<T.length:=by omega
   have hki:(k:Int)<(z:Int):=by omega
   have hki2:(k:Int)<(T.length:Int):=by omega
   have HNX:Hid (O++rm T[k]=dW T a (k+1)):=by show _=_;rw[zH T a k hk1 hks,<-HE.out]
   obtain⟨o1,o2,o3⟩:=hO T[k] (List.getElem_mem hks);obtain⟨gT,rfl,hgT,-⟩:=HT.out.2 k T[k] (List.getElem?_eq_getElem hks)
   have HC:Hid (∀w',ab [] w w'->w'.cell? ⟨gT,k*5,none⟩=some (.string T[k].s)/\w'.cell? ⟨gT,k*5+2,none⟩=some (.string T[k].file)/\w'.cell? ⟨gT,k*5+3,none⟩=some (.int .i64 T[k].line)/\w'.cell? ⟨gT,k*5+4,none⟩=some (.int .i64 T[k].col)):=fun w' kw=>by
    obtain⟨g,e,hg,c0,c1,c2,c3,c4⟩:=(jN.still HT.out kw).2 k T[k] (List.getElem?_eq_getElem hks)
    cases e
    exact⟨c0,c2,c3,c4⟩
   generalize T[k]=t at *;obtain⟨ts,tr,tf,tl,tc⟩:=t;simp only at o1 o2 o3 HC;go_wp2_with fail
   go_loopg [7,9] ts.size (fun g o i wr=>∃(m:Nat) (h2:Hd) (P:List Lt),m<=ts.size/\g=ts.size-m/\o=.slice h2.ao P.length h2.cap/\i=.int .i64 m/\P.length<=O.length+m/\Hid (P=O++(rm ⟨ts,tr,tf,tl,tc⟩).take m)/\Hid (ir w wr h2 (rS P)))
   case atStart=>exact⟨0,h',O,by omega,rfl,rfl,rfl,by omega,by show _=_;simp,HW⟩
   case round =>
    obtain⟨m,h2,P,hm,hg2,rfl,rfl,hP,HE2,HW2⟩:=hrel;obtain⟨c0,c2,c3,c4⟩:=HC.out wr HW2.out.kept;have hgw:gT<wr.heap.size:=Nat.lt_of_lt_of_le hgT HW2.out.kept.size
    by_cases hlt2:m<ts.size
    ·have hmi:(m:Int)<(ts.size:Int):=by omega
     have HE3:Hid (P++[DW ⟨ts,tr,tf,tl,tc⟩ m]=O++(rm ⟨ts,tr,tf,tl,tc⟩).take (m+1)):=by show _=_;rw[HE2.out,EZ _ m hlt2,List.append_assoc]
     have HLA:Hid (Ls (DW ⟨ts,tr,tf,tl,tc⟩ m)=[.int .u8 ((ts[m]'hlt2).toNat:Int),.string tf,.int .i64 tl,.int .i64 (tc+m)]):=by show _=_;unfold Ls DW;simp only;rw[bI ts m hlt2]
     obtain⟨W,HWW⟩:∃W,Hid (wr.alloc (.cells #[.string tf,.int .i64 tl,.int .i64 (tc+m)] 36)=W):=⟨_,rfl⟩
     have kW:ab [] wr W:=by rw[<-HWW.out];exact(ab.refl [] _).alloc _
     have BW:W.heap[wr.heap.size]?=some (.cells #[.string tf,.int .i64 tl,.int .i64 (tc+m)] 36 (0,0)):=by rw[<-HWW.out];exact heap_alloc_new _ _
     have HLW:=(show Hid _ from HW2.out.still kW);have hOw:=HLW.out.own;have d0:W.cell? ⟨gT,k*5,none⟩=some (.string ts):=by rw[World.cell?_of_block (kW.block gT hgw (by simp))];exact c0
     have d1:W.cell? ⟨wr.heap.size,0,none⟩=some (.string tf):=by rw[aa BW];rfl
     have d2:W.cell? ⟨wr.heap.size,1,none⟩=some (.int .i64 tl):=by rw[aa BW];rfl
     have d3:W.cell? ⟨wr.heap.size,2,none⟩=some (.int .i64 (tc+m)):=by rw[aa BW];rfl
     have HS:Hid (∀w5 h5,bh W w5 h2 h5->w5.cell? ⟨gT,k*5,none⟩=some (.string ts)/\w5.cell? ⟨wr.heap.size,0,none⟩=some (.string tf)/\w5.cell? ⟨wr.heap.size,1,none⟩=some (.int .i64 tl)/\w5.cell? ⟨wr.heap.size,2,none⟩=some (.int .i64 (tc+m))):=fun w5 h5 gr=>by
      have q1:w5.heap[gT]?=W.heap[gT]?:=gr.kept.block gT (Nat.lt_of_lt_of_le hgw kW.size) (fun hq=>by have:=HW2.out.far _ (aK hq);omega);have q2:w5.heap[wr.heap.size]?=W.heap[wr.heap.size]?:=gr.kept.block _ (ae BW) (fun hq=>by have:=HW2.out.own.lt (aK hq);omega);exact⟨by rw[World.cell?_of_block q1];exact d0,by rw[World.cell?_of_block q2];exact d1,by rw[World.cell?_of_block q2];exact d2,by rw[World.cell?_of_block q2];exact d3⟩
     have hzA:wr.heap.size<W.heap.size:=ae BW;have hgW:gT<W.heap.size:=by omega
     clear BW kW
     go_upto_region 10 with fail
     rw[HWW.out]
     have s3:Hid (∀u∈([.int .u8 ((ts[m]'hlt2).toNat:Int),.string tf,.int .i64 tl,.int .i64 (tc+m)]:List Value),u.oneCell'=true):=by
      intro u hu;simp only[List.mem_cons,List.not_mem_nil,or_false]at hu;rcases hu with rfl | rfl | rfl | rfl <;> rfl
     have s4:Hid ((rS P).n<=900000000):=by show P.length<=_;omega
     go_region_held3 (fun w'=>w'.cell? ⟨gT,k*5,none⟩=some (.string ts)/\w'.cell? ⟨wr.heap.size,0,none⟩=some (.string tf)/\w'.cell? ⟨wr.heap.size,1,none⟩=some (.int .i64 tl)/\w'.cell? ⟨wr.heap.size,2,none⟩=some (.int .i64 (tc+m))) (go_keep) ((refine bD W (by rfl) (.tmp 37) (.tmp 47) 267 (by rfl) iL (.agg #[.int .u8 0,.string ⟨#[]⟩,.int .i64 0,.int .i64 0]) 40 h2 (rS P) [.int .u8 ((ts[m]'hlt2).toNat:Int),.string tf,.int .i64 tl,.int .i64 (tc+m)] Tryz.underlying267 hiL hzL0 hzL1 hzL2 rfl (show 0<4 by omega) (by simp[Act.eval] <;> rfl) hOw s4.out (by omega) (by simp[Act.eval]) rfl s3.out ?_;intro ao5 cap5 w5 hw5 hg5;obtain⟨q1,q2,q3,q4⟩:=HS.out w5 _ hg5))
     rw[<-HLA.out,rS,jY]at hw5;have HM2:=(show Hid _ from HLW.out.grew hg5 hw5);clear hw5 hg5;go_wp2
     go_roundg (ts.size-(m+1))
     case measure=>omega
     case rel=>exact⟨m+1,⟨ao5,cap5⟩,P++[DW ⟨ts,tr,tf,tl,tc⟩ m],by omega,rfl,by simp[rS,kq],by go_num,by simp;omega,HE3,HM2⟩
    ·have e:m=ts.size:=by omega
     subst e
     have HM:Hid (P=dW T a (k+1)):=by
      show _=_
      rw[HE2.out,<-HNX.out]
      congr 1
      rw[List.take_of_length_le (by unfold rm;simp)]
     go_wp2
     go_roundg (z-(k+1))
     case measure=>omega
     case rel=>exact⟨k+1,h2,P,⟨by omega,by omega⟩,rfl,rfl,by go_num,by omega,HM,HW2⟩
  ·have e:k=z:=by omega
   subst e;have HM:Hid (dW T a k=O):=HE.out.symm;go_wp2;go_ret;exact⟨h',by rw[HM.out];rfl,by rw[HM.out];exact HW.out⟩
structure cQ where
  ref:Int
  back:Nat
  need:Nat
  file:ByteArray
  line:Int
  col:Int
def j5(s:cQ):List Value:=[.int .i64 s.ref,.int .i64 s.back,.int .i64 s.need,.string s.file,.int .i64 s.line,.int .i64 s.col]
theorem Ia(s:cQ):(j5 s).length=6:=rfl
def dN(L:List cQ):dK:=kq 162 6 j5 L
theorem lq(L:List cQ)(x:cQ):(⟨(dN L).e,(dN L).size,(dN L).n+1,(dN L).xs++j5 x⟩:dK)=dN (L++[x]):=jY _ _ _ _ _
theorem qt(x:cQ):∀u∈j5 x,u.oneCell'=true:=by
  intro u hu;simp only[j5,List.mem_cons,List.not_mem_nil,or_false]at hu
  rcases hu with rfl | rfl | rfl | rfl | rfl | rfl <;> rfl
structure jD where
  st:List cQ
  why:Int
  file:ByteArray
  line:Int
  col:Int
def Lu(p:jD)(h:Hd):Value:=.agg #[.slice h.ao p.st.length h.cap,.int .i64 p.why,.string p.file,.int .i64 p.line,.int .i64 p.col]
theorem Gx:(Tryz.prog.info? 162).map (fun i=>(i.zero,i.size,i.bytes))=some (some (.agg #[.int .i64 0,.int .i64 0,.int .i64 0,.string ⟨#[]⟩,.int .i64 0,.int .i64 0]),6,56):=by kernel_rfl
theorem eC{w:World}{B:Nat}{a0 a1 a2 a3 a4:Value}(h:w.heap[B]?=some (.cells #[a0,a1,a2,a3,a4] 122 (0,0)))(v0 v1 v2 v3 v4:Value) :
    (w.setCell ⟨B,0,none⟩ v0).cell? ⟨B,0,none⟩=some v0/\((w.setCell ⟨B,0,none⟩ v0).setCell ⟨B,1,none⟩ v1).cell? ⟨B,1,none⟩=some v1/\(((w.setCell ⟨B,0,none⟩ v0).setCell ⟨B,1,none⟩ v1).setCell ⟨B,2,none⟩ v2).cell? ⟨B,2,none⟩=some v2/\((((w.setCell ⟨B,0,none⟩ v0).setCell ⟨B,1,none⟩ v1).setCell ⟨B,2,none⟩ v2).setCell ⟨B,3,none⟩ v3).cell? ⟨B,3,none⟩=some v3/\(((((w.setCell ⟨B,0,none⟩ v0).setCell ⟨B,1,none⟩ v1).setCell ⟨B,2,none⟩ v2).setCell ⟨B,3,none⟩ v3).setCell ⟨B,4,none⟩ v4).cell? ⟨B,4,none⟩=some v4:=by
  have b0:=ah h 0 v0;have b1:=ah b0 1 v1;have b2:=ah b1 2 v2;have b3:=ah b2 3 v3;have b4:=ah b3 4 v4;exact⟨by rw[aa b0];rfl,by rw[aa b1];rfl,by rw[aa b2];rfl,by rw[aa b3];rfl,by rw[aa b4];rfl⟩
def Aa(c:Int):ByteArray:=⟨#[UInt8.ofNat c.toNat]⟩
theorem IL(c:Int)(hc:0<=c/\c<256)(wx:World):(convert 312 9 (.slice (some ⟨wx.heap.size,0,none⟩) 1 1)).run Tryz.prog (wx.alloc (.cells #[.int .u8 c] 5))=.ok (.string (Aa c)) (wx.alloc (.cells #[.int .u8 c] 5)):=by
  have e:c=((UInt8.ofNat c.toNat).toNat:Int):=by
    rw[UInt8.toNat_ofNat'];omega
  unfold Aa;generalize UInt8.ofNat c.toNat=u at *;rw[e]
  exact run_convert_bytes_back (wx.alloc (.cells #[.int .u8 (u.toNat:Int)] 5)) 312 9 5 ⟨wx.heap.size,0,none⟩ 1 [u] Tryz.underlying312 Tryz.underlying5 Tryz.underlying9 (by
    intro j hj
    match j,hj with
    | 0,_=>simp[Addr.add])
def lP(why:Int)(l:Lt):jD:=⟨[],why,l.file,l.line,l.col⟩
def pB(T:List Tk)(S:List Sm)(refs tags:List Nat)(n:Nat)(l:Lt):cQ :=
  if n<=refs.length then⟨(refs.getD (n-1) 0:Nat),0,gx T S (refs.getD (n-1) 0:Nat),l.file,l.line,l.col⟩ else⟨-2,tags.getD (n-refs.length-1) 0,0,l.file,l.line,l.col⟩
def lM(T:List Tk)(S:List Sm)(refs:List Nat)(en:Lt):List Lt->List cQ->List Nat->ByteArray->Bool->jD
  | [],P,_,num,_=>if(num.toList == [])=false then lP 4 en else if P.length=0 then lP 1 en else⟨P,0,⟨#[]⟩,0,0⟩
  | l :: r,P,tags,num,fr =>
    if 85<=l.c/\l.c<=89 then lM T S refs en r P tags (num++Aa l.c) false
    else if 65<=l.c/\l.c<=84 then
      (if gG (num++Aa l.c) (refs.length+tags.length)=0 then lP 5 l
       else lM T S refs en r (P++[pB T S refs tags (gG (num++Aa l.c) (refs.length+tags.length)) l]) tags ⟨#[]⟩ true)
    else if l.c=90/\fr=true then lM T S refs en r P (tags++[P.length-1]) num false
    else if l.c=63/\(num.toList == [])=true then lM T S refs en r (P++[⟨-1,0,0,l.file,l.line,l.col⟩]) tags num false
    else lP 4 l
def iY(T:List Tk)(S:List Sm)(refs:List Nat)(en:Lt)(L:List Lt):jD:=lM T S refs en L [] [] ⟨#[]⟩ false
theorem vY(s:ByteArray)(top:Nat):gG s top<=top:=by
  unfold gG
  cases h:(List.range top).find? (xr s) with
  | none=>exact Nat.zero_le _
  | some i=>have:=List.mem_range.1 (List.mem_of_find?_eq_some h);show i+1<=top;omega
structure Cn(w wr:World)(en:Lt)(P:List cQ)(h:Hd)(tags:List Nat)(ht:Hd):Prop where
  e:wr.heap[w.heap.size]?=some (.cells #[.string en.file,.int .i64 en.line,.int .i64 en.col] 36 (0,0))
  r:wr.heap[w.heap.size+1]?=some (.cells #[.slice none 0 0,.int .i64 0,.string ⟨#[]⟩,.int .i64 0,.int .i64 0] 122 (0,0))
  p:wr.heap[w.heap.size+2]?=some (.cells #[.slice h.ao P.length h.cap,.int .i64 0,.string ⟨#[]⟩,.int .i64 0,.int .i64 0] 122 (0,0))
  op:aA wr h (dN P)
  ot:aA wr ht (bq tags)
  fp:∀k,h.blk=some k->w.heap.size+2<k
  ft:∀k,ht.blk=some k->w.heap.size+2<k
  ap:∀k,h.blk=some k->ht.blk≠some k
  kept:ab [] w wr
theorem Cn.still{w wr wr':World}{en:Lt}{P:List cQ}{h:Hd}{tags:List Nat}{ht:Hd}(a:Cn w wr en P h tags ht)(k:ab [] wr wr'):Cn w wr' en P h tags ht :=
  ⟨k.get a.e (by simp),k.get a.r (by simp),k.get a.p (by simp),a.op.still k,a.ot.still k,a.fp,a.ft,a.ap,a.kept.trans k⟩
theorem nI{w wr w':World}{S:List Nat}(k:ab S wr w')(hS:∀q∈S,w.heap.size<=q)(h0:ab [] w wr):ab [] w w' :=
  ⟨k.os.trans h0.os,k.tape.trans h0.tape,k.output.trans h0.output,Nat.le_trans h0.size k.size,fun q hq _=>by
    rw[k.block q (Nat.lt_of_lt_of_le hq h0.size) (fun hm=>by have:=hS q hm;omega),h0.block q hq (by simp)]⟩
theorem Cn.addT{w wr w5:World}{en:Lt}{P:List cQ}{h:Hd}{tags tags':List Nat}{ht h5:Hd}(a:Cn w wr en P h tags ht)(g:bh wr w5 ht h5)(o:aA w5 h5 (bq tags')):Cn w w5 en P h tags' h5:=by
  have no:∀q,q<=w.heap.size+2->q∉ht.blk.toList:=fun q hq hm=>by have:=a.ft q (aK hm);omega
  have hz:=ae a.p;refine⟨g.kept.get a.e (no _ (by omega)),g.kept.get a.r (no _ (by omega)),g.kept.get a.p (no _ (by omega)),g.beside a.op (fun k hk=>a.ap k hk),o,a.fp,fun k hk=>?_,fun k hk hk2=>?_,nI g.kept (fun q hq=>by have:=a.ft q (aK hq);omega) a.kept⟩
  · rcases g.blk with e | ⟨q,e,hq⟩
    · exact a.ft k (by rw[<-e];exact hk)
    · rw[e]at hk;cases hk;omega
  · rcases g.blk with e | ⟨q,e,hq⟩
    · exact a.ap k hk (by rw[<-e];exact hk2)
    · rw[e]at hk2;cases hk2
      have:=a.op.lt hk;omega
theorem Cn.addP{w wr w5:World}{en:Lt}{P P':List cQ}{h:Hd}{tags:List Nat}{ht h5:Hd}(a:Cn w wr en P h tags ht)(g:bh wr w5 h h5)(o:aA w5 h5 (dN P')){m:Nat}(hm:m=P'.length):Cn w (w5.setCell ⟨w.heap.size+2,0,none⟩ (.slice h5.ao m h5.cap)) en P' h5 tags ht:=by
  subst hm;have no:∀q,q<=w.heap.size+2->q∉h.blk.toList:=fun q hq hm=>by have:=a.fp q (aK hm);omega
  have hz:=ae a.p;have e5:=g.kept.get a.e (no _ (by omega));have r5:=g.kept.get a.r (no _ (by omega));have p5:=g.kept.get a.p (no _ (by omega))
  have fp5:∀k,h5.blk=some k->w.heap.size+2<k:=fun k hk=>by
    rcases g.blk with e | ⟨q,e,hq⟩
    · exact a.fp k (by rw[<-e];exact hk)
    · rw[e]at hk;cases hk;omega
  have ot5:aA w5 ht (bq tags):=g.beside a.ot (fun k hk hk2=>a.ap k hk2 hk);have kS:ab [w.heap.size+2] w5 (w5.setCell ⟨w.heap.size+2,0,none⟩ (.slice h5.ao P'.length h5.cap)):=(ab.refl _ _).setCell (Or.inl (by simp)) _;refine⟨kS.get e5 (by simp),kS.get r5 (by simp),by rw[ah p5];rfl,o.moved (fun q hq=>kS.block q (o.lt hq) (by simp;have:=fp5 q hq;omega)),ot5.moved (fun q hq=>kS.block q (ot5.lt hq) (by simp;have:=a.ft q hq;omega)),fp5,a.ft,fun k hk hk2=>?_,?_⟩
  · rcases g.blk with e | ⟨q,e,hq⟩
    · exact a.ap k (by rw[<-e];exact hk) hk2
    · rw[e]at hk;cases hk
      have:=a.ot.lt hk2;omega
  · have k5:ab [] w w5:=nI g.kept (fun q hq=>by have:=a.fp q (aK hq);omega) a.kept
    exact k5.setCell (Or.inr (by simp)) _
theorem Cn.cells{w wr:World}{en:Lt}{P:List cQ}{h:Hd}{tags:List Nat}{ht:Hd}(a:Cn w wr en P h tags ht) :
    (wr.cell? ⟨w.heap.size,0,none⟩=some (.string en.file)/\wr.cell? ⟨w.heap.size,1,none⟩=some (.int .i64 en.line)/\wr.cell? ⟨w.heap.size,2,none⟩=some (.int .i64 en.col)) /\
    (wr.cell? ⟨w.heap.size+1,0,none⟩=some (.slice none 0 0)/\wr.cell? ⟨w.heap.size+1,1,none⟩=some (.int .i64 0)/\wr.cell? ⟨w.heap.size+1,2,none⟩=some (.string ⟨#[]⟩)/\wr.cell? ⟨w.heap.size+1,3,none⟩=some (.int .i64 0)/\wr.cell? ⟨w.heap.size+1,4,none⟩=some (.int .i64 0)) /\
    (wr.cell? ⟨w.heap.size+2,0,none⟩=some (.slice h.ao P.length h.cap)/\wr.cell? ⟨w.heap.size+2,1,none⟩=some (.int .i64 0)/\wr.cell? ⟨w.heap.size+2,2,none⟩=some (.string ⟨#[]⟩)/\wr.cell? ⟨w.heap.size+2,3,none⟩=some (.int .i64 0)/\wr.cell? ⟨w.heap.size+2,4,none⟩=some (.int .i64 0)) /\
    (wr.frozen? ⟨w.heap.size+1,0,none⟩=false/\wr.frozen? ⟨w.heap.size+1,1,none⟩=false/\wr.frozen? ⟨w.heap.size+1,2,none⟩=false/\wr.frozen? ⟨w.heap.size+1,3,none⟩=false/\wr.frozen? ⟨w.heap.size+1,4,none⟩=false)/\wr.frozen? ⟨w.heap.size+2,0,none⟩=false/\w.heap.size+2<wr.heap.size:=by
  refine⟨⟨?_,?_,?_⟩,⟨?_,?_,?_,?_,?_⟩,⟨?_,?_,?_,?_,?_⟩,⟨ak a.r 0,ak a.r 1,ak a.r 2,ak a.r 3,ak a.r 4⟩,ak a.p 0,ae a.p⟩
  all_goals first | (rw[aa a.e];rfl) | (rw[aa a.r];rfl) | (rw[aa a.p];rfl)
end Go.Proofs.YtpddjjabfbfifaaGreat
