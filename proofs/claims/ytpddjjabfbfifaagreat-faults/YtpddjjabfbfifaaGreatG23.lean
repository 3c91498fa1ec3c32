import Derived.Deep.RegionHeld3
import Derived.Laws.OwnMore
import Derived.Test.YtpddjjabfbfifaaGreatG22
namespace Go.Proofs.YtpddjjabfbfifaaGreat
open Go.RowKit
set_option maxHeartbeats 40000000
def lQ(i:Nat):List Sm->Nat
 | []=>0
 | s :: r=>if s.z<=i then lQ i r+1 else 0
def g9(S:List Sm)(i:Nat):Nat:=lQ i S
def ji(S:List Sm)(n:Nat):Nat:=if 0<n then(au S (n-1)).z else 0
def eE(T:List Tk)(h i:Nat):List ByteArray:=((T.drop h).take (i-h)).map (·.s)
theorem xZ(T:List Tk)(h k:Nat)(h1:h<=k)(h2:k<T.length):eE T h (k+1)=eE T h k++[tS T k]:=by
 unfold eE;have e:k+1-h=(k-h)+1:=by omega
 have hl:k-h<(T.drop h).length:=by rw[List.length_drop];omega
 rw[e,List.take_succ_eq_append_getElem hl,List.map_append];have e2:(T.drop h)[k-h]=T[k]:=by rw[List.getElem_drop];congr 1;omega
 rw[e2];unfold tS;rw[List.getD_eq_getElem?_getD,List.getElem?_eq_getElem h2];rfl
theorem Kk(i:Nat)(S:List Sm):lQ i S<=S.length:=by
 induction S with
 | nil=>exact Nat.le_refl _
 | cons s r ih=>rw[lQ];split <;> simp;omega
theorem ym(i:Nat)(S:List Sm)(j:Nat)(h:j<lQ i S):∃s,S[j]?=some s/\s.z<=i:=by
 induction S generalizing j with
 | nil=>simp[lQ]at h
 | cons s r ih =>
  rw[lQ]at h
  split at h
  ·cases j with
   | zero=>exact⟨s,rfl,by assumption⟩
   | succ j=>exact ih j (by omega)
  ·omega
theorem FS(S:List Sm)(i:Nat):ji S (g9 S i)<=i:=by
 unfold ji
 split
 ·next h =>
  obtain⟨s,h1,h2⟩:=ym i S (g9 S i-1) (by unfold g9 at h ⊢;omega);unfold au;rw[List.getD_eq_getElem?_getD,h1];exact h2
 ·omega
def kp(T:List Tk)(S:List Sm)(key x:ByteArray)(n:Nat)(before:List ByteArray):Int :=
 if(x.toList == [36,46])=true then fV key before
 else if((x.toList == [36,61])&&((key.toList == [36,112]) && !(aI before ⟨#[36,61]⟩)))=true then(if before.length=0 then 15 else 0)
 else if ge x ⟨#[36]⟩=true then 8
 else if aI before ⟨#[36,61]⟩=true then 0
 else if((key.toList == [36,99])||(key.toList == [36,118]))=true then iV T S x n (key.toList == [36,99]) before
 else il T S key x n before
def aZ(T:List Tk)(S:List Sm)(i:Nat):Int :=
 if i=ji S (g9 S i) then cZ T S (tS T i) (g9 S i)
 else if i<(dY T (ji S (g9 S i))).2 then(if(aE (tS T i)||aH (tS T i))=true then 0 else 14)
 else kp T S (dY T (ji S (g9 S i))).1 (tS T i) (g9 S i) (eE T (dY T (ji S (g9 S i))).2 i)
set_option maxRecDepth 100000 in
theorem ye(b i:Nat)(T:List Tk)(aoT:Option Addr)(cT:Nat)(S:List Sm)(aoS:Option Addr)(cS:Nat)(w:World)(hD:eW w b T aoT cT S aoS cS)(hi:i<T.length)(ok:jg T S (g9 S i))(hf:kG T S (g9 S i))(hs:∀i,(tS T i).size<=1073741824) :
  Calls Tryz.prog 86 #[.pointer (some ⟨b,0,none⟩),.int .i64 i] w fun e w'=>e=.returned (.int .i64 (aZ T S i))/\ab [] w w':=by
 have HD:=(show Hid _ from hD);have hT:=ok.t;have hSl:=ok.s;obtain⟨c0,c1,hb⟩:=hD.cells;obtain⟨gT,rfl,hgT,t0,-⟩:=hD.t.2 i _ (gg T i hi);replace t0:w.cell? ⟨gT,i*5,none⟩=some (.string (tS T i)):=t0;have hii:(i:Int)<(T.length:Int):=by omega
 have HFI:=(show Hid _ from AC b (g9 S i) (tS T i) T (some ⟨gT,0,none⟩) cT S aoS cS w hD ok (hs i));have hbl:=FS S i;have HKY:=(show Hid _ from CI b (ji S (g9 S i)) T (some ⟨gT,0,none⟩) cT S aoS cS w hD (by omega) hT hs)
 have HR:Hid (aZ T S i=if i=ji S (g9 S i) then cZ T S (tS T i) (g9 S i)
  else if i<(dY T (ji S (g9 S i))).2 then(if(aE (tS T i)||aH (tS T i))=true then 0 else 14)
  else kp T S (dY T (ji S (g9 S i))).1 (tS T i) (g9 S i) (eE T (dY T (ji S (g9 S i))).2 i)):=rfl
 have hxs:=hs i;have HB:Hid (ji S (g9 S i)=if 0<g9 S i then(au S (g9 S i-1)).z else 0):=rfl;obtain⟨x,Hx⟩:∃x,Hid (tS T i=x):=⟨_,rfl⟩
 rw[Hx.out]at t0 HFI HR hxs;obtain⟨n,Hn⟩:∃n,Hid (g9 S i=n):=⟨_,rfl⟩
 have HCN:Hid (n=lQ i S):=Hn.out.symm;rw[Hn.out]at HFI HKY HR HB hbl ok hf;obtain⟨bg,Hbg⟩:∃bg,Hid (ji S n=bg):=⟨_,rfl⟩
 rw[Hbg.out]at HKY HR HB hbl;obtain⟨kw,Hkw⟩:∃kw,Hid (dY T bg=kw):=⟨_,rfl⟩
 rw[Hkw.out]at HKY HR;obtain⟨key,hd⟩:=kw;simp only at HKY HR;have hnl:n<=S.length:=ok.m;clear hD;go_enter Tryz.func86,Tryz.ntmps86;go_wp2
 go_loopg [5] S.length (fun g o wr=>∃k:Nat,k<=S.length/\g=S.length-k/\o=.int .i64 k/\Hid (k+lQ i (S.drop k)=n)/\wr=w)
 case atStart=>exact⟨0,by omega,rfl,rfl,by show _=_;rw[List.drop_zero,Nat.zero_add];exact HCN.out.symm,rfl⟩
 case round =>
  obtain⟨k,hk,hg,rfl,HC,rfl⟩:=hrel
  obtain⟨tst,HT1,HT2,HT3⟩:∃tst:Bool,Hid (∀h:k<S.length,S[k].z<=i->tst=true)/\Hid (tst=true->k<S.length/\k+1+lQ i (S.drop (k+1))=n)/\Hid ((∀h:k<S.length,¬S[k].z<=i)->tst=false):=by
   by_cases hks:k<S.length
   ·have hd2:=HC.out
    rw[List.drop_eq_getElem_cons hks,lQ]at hd2;refine⟨decide (S[k].z<=i),fun h hz=>by simpa using hz,fun h=>⟨hks,?_⟩,fun h=>by simpa using h hks⟩;rw[if_pos (by simpa using h)]at hd2;omega
   ·exact⟨false,(fun h=>absurd h hks),(fun h=>by cases h),(fun _=>rfl)⟩
  have HT4:Hid (tst=false->k=n):=fun h=>by
   have hd2:=HC.out
   by_cases hks:k<S.length
   ·rw[List.drop_eq_getElem_cons hks,lQ]at hd2
    by_cases hz:S[k].z<=i
    ·have:=HT1.out hks hz;rw[h]at this;cases this
    ·rw[if_neg hz]at hd2;omega
   ·rw[List.drop_eq_nil_of_le (by omega),lQ]at hd2;omega
  go_upto_region 2 with fail
  go_cut [34] from 16 to 34 (fun s34 wd=>s34=.bool tst/\wd=wr)
  case first =>
   by_cases hks:k<S.length
   ·obtain⟨gs,rfl,hgs,-,q1,-⟩:=HD.out.s.2 k S[k] (List.getElem?_eq_getElem hks)
    have hki2:(k:Int)<(S.length:Int):=by omega
    by_cases hz:S[k].z<=i
    ·have hzi:(S[k].z:Int)<=(i:Int):=by omega
     have HV:=(show Hid _ from HT1.out hks hz);go_wp2_with fail
     go_meet
     case rel=>exact⟨by rw[HV.out],rfl⟩
    ·have hzi:¬(S[k].z:Int)<=(i:Int):=by omega
     have HV:=(show Hid _ from HT3.out (fun _=>hz));go_wp2_with fail
     go_meet
     case rel=>exact⟨by rw[HV.out],rfl⟩
   ·have hki2:¬(k:Int)<(S.length:Int):=by omega
    have HV:=(show Hid _ from HT3.out (fun h=>absurd h hks));go_wp2_with fail
    go_meet
    case rel=>exact⟨by rw[HV.out],rfl⟩
  case rest =>
   obtain⟨rfl,hwc⟩:=hcut;subst hwc
   cases tst
   ·have hkn:=HT4.out rfl
    subst hkn;go_upto_if 38 with fail
    go_cut [6] from 37 to 47 (fun s6 wd=>s6=.int .i64 bg/\wd=wc)
    case first =>
     by_cases hk0:0<k
     ·have hk1:k-1<S.length:=by omega
      obtain⟨gs,rfl,hgs,-,q1,-⟩:=HD.out.s.2 (k-1) S[k-1] (List.getElem?_eq_getElem hk1);have HBG:Hid (S[k-1].z=bg):=by show _=_;rw[HB.out,if_pos hk0,bC S (k-1) hk1]
      rw[HBG.out]at q1;have hwr:IntKind.i64.wrap ((k:Int)-1)=(k:Int)-1:=by rw[IntKind.wrap_i64];omega
      have htn:((k:Int)-1).toNat=k-1:=by omega
      have b1:(0:Int)<=(k:Int)-1:=by omega
      have b2:(k:Int)-1<(S.length:Int):=by omega
      have b3:(1:Int)<=(k:Int):=by omega
      have b4:(0:Int)<(k:Int):=by omega
      go_wp2_with fail
      go_meet
      case rel=>exact⟨rfl,rfl⟩
     ·have HBG:Hid (bg=0):=by show _=_;rw[HB.out,if_neg hk0]
      have b4:¬(0:Int)<(k:Int):=by omega
      go_wp2_with fail
      go_meet
      case rel=>exact⟨by rw[HBG.out];rfl,rfl⟩
    case rest =>
     obtain⟨rfl,hwc⟩:=hcut;subst hwc
     by_cases hib:i=bg
     ·have HE:Hid (aZ T S i=cZ T S x k):=by show _=_;rw[HR.out,if_pos hib]
      subst hib;clear HKY;go_wp2_with (go_at_call 121;refine Calls.mono HFI.out ?_;rintro e w9 ⟨rfl,k9⟩);go_ret;exact⟨am HE.out.symm,k9⟩
     ·rw[if_neg hib]at HR
      have hibi:((i:Int)==(bg:Int))=false:=by simp;omega
      go_upto_region 11 with (go_at_call 85;refine Calls.mono HKY.out ?_;rintro e w9 ⟨rfl,hw9⟩;rw[hw9];clear hw9)
      by_cases hih:i<hd
      ·rw[if_pos hih]at HR
       have hihi:(i:Int)<(hd:Int):=by omega
       go_upto_region 14 with (first | (go_at_call 122;refine(eZ x _).mono ?_;rintro e w9 ⟨rfl,hw9⟩;rw[hw9];clear hw9) | (go_at_call 123;refine(kg x _).mono ?_;rintro e w9 ⟨rfl,hw9⟩;rw[hw9];clear hw9))
       obtain⟨ya,Hya⟩:∃ya,Hid (aE x=ya):=⟨_,rfl⟩
       obtain⟨yu,Hyu⟩:∃yu,Hid (aH x=yu):=⟨_,rfl⟩
       rw[Hya.out,Hyu.out]at HR ⊢
       cases ya
       ·cases yu
        ·have HE:Hid (aZ T S i=14):=by show _=_;rw[HR.out];rfl
         go_wp2;go_ret;exact⟨am HE.out.symm,ab.refl _ _⟩
        ·have HE:Hid (aZ T S i=0):=by show _=_;rw[HR.out];rfl
         go_wp2;go_ret;exact⟨am HE.out.symm,ab.refl _ _⟩
       ·have HE:Hid (aZ T S i=0):=by show _=_;rw[HR.out];rfl
        go_wp2;go_ret;exact⟨am HE.out.symm,ab.refl _ _⟩
      ·rw[if_neg hih]at HR
       have hihi:¬(i:Int)<(hd:Int):=by omega
       have HX:=(show Hid _ from sS.nil wc);clear HFI HKY c1;go_wp2
       go_loopg [12,13] (i-hd) (fun g o q wr=>∃(m:Nat) (h':Hd) (O:List ByteArray),(hd<=m/\m<=i)/\g=i-m/\o=.slice h'.ao O.length h'.cap/\q=.int .i64 m/\O.length<=m/\Hid (O=eE T hd m)/\Hid (sS wc wr h' O))
       case atStart=>exact⟨hd,⟨none,0⟩,[],⟨by omega,by omega⟩,rfl,rfl,rfl,by simp,by show _=_;unfold eE;rw[Nat.sub_self];rfl,HX⟩
       case round =>
        obtain⟨m,h',O,⟨hm1,hm2⟩,hg2,rfl,rfl,hOl,HO,HW⟩:=hrel;have HDr:=(show Hid _ from eW.still HD.out HW.out.kept);obtain⟨d0,-,hbr⟩:=HDr.out.cells
        by_cases hmi:m<i
        ·have hmt:m<T.length:=by omega
         obtain⟨gT2,e5,hgr,q0,-⟩:=HDr.out.t.2 m _ (gg T m hmt)
         cases e5
         replace q0:wr.cell? ⟨gT,m*5,none⟩=some (.string (tS T m)):=q0;have hmii:(m:Int)<(i:Int):=by omega
         have hmti:(m:Int)<(T.length:Int):=by omega
         have HNX:Hid (O++[tS T m]=eE T hd (m+1)):=by show _=_;rw[xZ T hd m hm1 hmt,HO.out]
         generalize tS T m=y at *;have hOw:=HW.out.own;go_wp2_with (at_builtin;refine nk _ rfl (.tmp 86) (.tmp 95) rfl h' O y rfl hOw (by omega) rfl ?_;intro h5 w5 hw5 hg5;have HM2:=(show Hid _ from HW.out.grew hg5 hw5);clear hw5 hg5)
         go_roundg (i-(m+1))
         case measure=>omega
         case rel=>exact⟨m+1,h5,O++[y],⟨by omega,by omega⟩,rfl,by simp,by go_num,by simp;omega,HNX,HM2⟩
        ·have emi:m=i:=by omega
         subst emi;rw[<-HO.out]at HR;have hXO:=HW.out.own.srcX;have HK:=(show Hid _ from HW.out.kept);have HAM:=(show Hid _ from i9 O h'.ao h'.cap ⟨#[36,61]⟩ wr hXO (by omega));have HCL:=(show Hid _ from yl key O h'.ao h'.cap wr hXO (by omega));have HNA:Hid (∀con,Calls Tryz.prog 125 #[.pointer (some ⟨b,0,none⟩),.string x,.int .i64 k,.bool con,.slice h'.ao O.length h'.cap] wr fun e w'=>e=.returned (.int .i64 (iV T S x k con O))/\ab [] wr w'):=fun con=>Ed b k x con O h'.ao h'.cap T (some ⟨gT,0,none⟩) cT S aoS cS wr HDr.out ok hXO (by omega)
         have HSY:=(show Hid _ from BH b k key x O h'.ao h'.cap T (some ⟨gT,0,none⟩) cT S aoS cS wr HDr.out ok hf hXO (by omega));unfold kp at HR;obtain⟨pf,Hpf⟩:∃pf,Hid (aI O ⟨#[36,61]⟩=pf):=⟨_,rfl⟩
         obtain⟨dl,Hdl⟩:∃dl,Hid (ge x ⟨#[36]⟩=dl):=⟨_,rfl⟩
         rw[Hpf.out]at HAM HR;rw[Hdl.out]at HR
         go_upto_region 24 with (first | (go_at_call 93;refine Calls.mono HAM.out ?_;rintro e w9 ⟨rfl,hw9⟩;rw[hw9];clear hw9) | (go_at_call 120;refine(eL x _ _ (by omega) (by show 1<=_;omega)).mono ?_;rintro e w9 ⟨rfl,hw9⟩;rw[hw9];clear hw9))
         rw[Hdl.out];clear HAM hXO HX d0 HW HDr;generalize O.length=ol at *
         cases h1:(x.toList == [36,46])
         ·rw[if_neg (by rw[h1];simp)]at HR
          obtain⟨tb,Htb⟩:∃tb,Hid (((x.toList == [36,61])&&((key.toList == [36,112]) && !pf))=tb):=⟨_,rfl⟩
          rw[Htb.out]at HR
          go_upto_region 26 with fail
          go_cut [107] from 108 to 117 (fun s107 wd=>s107=.bool tb/\wd=wr)
          case first =>
           cases h2:(x.toList == [36,61])
           ·go_wp2_with fail
            go_meet
            case rel=>exact⟨by rw[<-Htb.out,h2];rfl,rfl⟩
           ·cases h3:(key.toList == [36,112])
            ·go_wp2_with fail
             go_meet
             case rel=>exact⟨by rw[<-Htb.out,h2,h3];rfl,rfl⟩
            ·go_wp2_with fail
             go_meet
             case rel=>exact⟨by rw[<-Htb.out,h2,h3];rfl,rfl⟩
          case rest =>
           obtain⟨rfl,hwc⟩:=hcut;subst hwc
           cases tb
           ·cases dl
            ·cases pf
             ·cases h4:(key.toList == [36,99])
              ·cases h5:(key.toList == [36,118])
               ·have HE:Hid (aZ T S m=il T S key x k O):=by show _=_;rw[HR.out,h4,h5];rfl
                go_wp2_with (go_at_call 126;refine Calls.mono HSY.out ?_;rintro e w9 ⟨rfl,k9⟩);go_ret;exact⟨am HE.out.symm,HK.out.trans k9⟩
               ·have HE:Hid (aZ T S m=iV T S x k false O):=by show _=_;rw[HR.out,h4,h5];rfl
                have HN2:=(show Hid _ from HNA.out false);go_wp2_with (go_at_call 125;refine Calls.mono HN2.out ?_;rintro e w9 ⟨rfl,k9⟩);go_ret;exact⟨am HE.out.symm,HK.out.trans k9⟩
              ·have HE:Hid (aZ T S m=iV T S x k true O):=by show _=_;rw[HR.out,h4];rfl
               have HN2:=(show Hid _ from HNA.out true);go_wp2_with (go_at_call 125;refine Calls.mono HN2.out ?_;rintro e w9 ⟨rfl,k9⟩);go_ret;exact⟨am HE.out.symm,HK.out.trans k9⟩
             ·have HE:Hid (aZ T S m=0):=by show _=_;rw[HR.out];rfl
              go_wp2;go_ret;exact⟨am HE.out.symm,HK.out⟩
            ·have HE:Hid (aZ T S m=8):=by show _=_;rw[HR.out];rfl
             go_wp2;go_ret;exact⟨am HE.out.symm,HK.out⟩
           ·rw[if_pos rfl]at HR
            by_cases ho:ol=0
            ·have HE:Hid (aZ T S m=15):=by show _=_;rw[HR.out,if_pos ho]
             have hoi:((ol:Int)==0)=true:=by simpa using ho
             go_wp2;go_ret;exact⟨am HE.out.symm,HK.out⟩
            ·have HE:Hid (aZ T S m=0):=by show _=_;rw[HR.out,if_neg ho]
             have hoi:((ol:Int)==0)=false:=by simpa using ho
             go_wp2;go_ret;exact⟨am HE.out.symm,HK.out⟩
         ·have HE:Hid (aZ T S m=fV key O):=by show _=_;rw[HR.out,if_pos h1]
          go_wp2_with (go_at_call 124;refine Calls.mono HCL.out ?_;rintro e w9 ⟨rfl,hw9⟩;rw[hw9];clear hw9);go_ret;exact⟨am HE.out.symm,HK.out⟩
   ·obtain⟨hks,hm⟩:=HT2.out rfl
    have HM:=(show Hid _ from hm);clear hm;go_wp2
    go_roundg (S.length-(k+1))
    case measure=>omega
    case rel=>exact⟨k+1,by omega,rfl,by go_num,HM,rfl⟩
def K0(T:List Tk)(S:List Sm)(i:Nat):Bool:=!(aZ T S i==0)
def vI(T:List Tk)(S:List Sm):Tk:=match (List.range T.length).find? (K0 T S) with
 | some i=>⟨⟨#[]⟩,aZ T S i,(T.getD i ic).file,(T.getD i ic).line,(T.getD i ic).col⟩
 | none=>ic
theorem Gf{T:List Tk}{S:List Sm}{k:Nat}(hk:k<T.length)(h:(aZ T S k==0)=false)(ha:∀j,j<k->aZ T S j=0):vI T S=⟨⟨#[]⟩,aZ T S k,(T.getD k ic).file,(T.getD k ic).line,(T.getD k ic).col⟩:=by
 have e:(List.range T.length).find? (K0 T S)=some k:=by
  rw[List.find?_range_eq_some];exact⟨by unfold K0;rw[h];rfl,List.mem_range.2 hk,fun j hj=>by unfold K0;rw[ha j hj];rfl⟩
 unfold vI;rw[e]
theorem JX{T:List Tk}{S:List Sm}(ha:∀j,j<T.length->aZ T S j=0):vI T S=ic:=by
 have e:(List.range T.length).find? (K0 T S)=none:=by
  rw[List.find?_eq_none];intro j hj;unfold K0;rw[ha j (List.mem_range.1 hj)];simp
 unfold vI;rw[e]
def Lf(T:List Tk)(S:List Sm):Prop:=∀i,i<T.length->(∀j,j<i->aZ T S j=0)->jg T S (g9 S i)/\kG T S (g9 S i)
set_option maxRecDepth 100000 in
theorem tL(b:Nat)(T:List Tk)(aoT:Option Addr)(cT:Nat)(S:List Sm)(aoS:Option Addr)(cS:Nat)(w:World)(hD:eW w b T aoT cT S aoS cS)(hT:T.length<=100000)(hO:Lf T S)(hs:∀i,(tS T i).size<=1073741824) :
  Calls Tryz.prog 56 #[.pointer (some ⟨b,0,none⟩)] w fun e w'=>e=.returned (.agg #[.int .i64 (vI T S).rule,.string (vI T S).file,.int .i64 (vI T S).line,.int .i64 (vI T S).col])/\ab [] w w':=by
 have HD:=(show Hid _ from hD);obtain⟨W,HW⟩:∃W,Hid (w.alloc (.cells #[.int .i64 0,.string ⟨#[]⟩,.int .i64 0,.int .i64 0] 87)=W):=⟨_,rfl⟩
 have BF:W.heap[w.heap.size]?=some (.cells #[.int .i64 0,.string ⟨#[]⟩,.int .i64 0,.int .i64 0] 87 (0,0)):=by rw[<-HW.out];exact heap_alloc_new _ _
 have HKW:Hid (ab [] w W):=by show ab [] w W;rw[<-HW.out];exact(ab.refl [] _).alloc _
 clear hD;go_enter Tryz.func56,Tryz.ntmps56
 go_upto_region 1 with fail
 rw[HW.out];go_wp2
 go_loopg [3] T.length (fun g i wr=>∃k:Nat,k<=T.length/\g=T.length-k/\i=.int .i64 k/\Hid (∀j,j<k->aZ T S j=0)/\Hid (ab [] W wr))
 case atStart=>exact⟨0,by omega,rfl,rfl,(fun j hj=>by omega),ab.refl _ _⟩
 case round =>
  obtain⟨k,hk,hg,rfl,HN,HK⟩:=hrel;have HKr:=(show Hid _ from HKW.out.trans HK.out);have HDr:=(show Hid _ from eW.still HD.out HKr.out);obtain⟨c0,-,hb⟩:=HDr.out.cells;have BR:=HK.out.get BF (by simp)
  by_cases hlt:k<T.length
  ·obtain⟨ok,hf⟩:=hO k hlt HN.out
   have hki:(k:Int)<(T.length:Int):=by omega
   have HBK:=(show Hid _ from ye b k T aoT cT S aoS cS wr HDr.out hlt ok hf hs);obtain⟨r,Hr⟩:∃r,Hid (aZ T S k=r):=⟨_,rfl⟩
   rw[Hr.out]at HBK;clear ok hf
   cases hr:(r==0)
   ·have HE:Hid (vI T S=⟨⟨#[]⟩,r,(T.getD k ic).file,(T.getD k ic).line,(T.getD k ic).col⟩):=by show _=_;rw[Gf hlt (by rw[Hr.out];exact hr) HN.out,Hr.out]
    go_upto_region 5 with (go_at_call 86;refine Calls.mono HBK.out ?_;rintro e w2 ⟨rfl,k2⟩)
    have HK2:=(show Hid _ from HKr.out.trans k2);have HD2:=(show Hid _ from eW.still HD.out HK2.out);have B2:=k2.get BR (by simp);clear c0 hb;obtain⟨c0,-,hb⟩:=HD2.out.cells;obtain⟨gT,rfl,hgT,-,-,t2,t3,t4⟩:=HD2.out.t.2 k _ (gg T k hlt);generalize T.getD k ic=t at *;obtain⟨ts,tr,tf,tl,tc⟩:=t;simp only at t2 t3 t4 HE;have f0:=ak B2 0;have f1:=ak B2 1;have f2:=ak B2 2;have f3:=ak B2 3;have g0:w2.cell? ⟨w.heap.size,0,none⟩=some (.int .i64 0):=by rw[aa B2];rfl
    have g1:w2.cell? ⟨w.heap.size,1,none⟩=some (.string ⟨#[]⟩):=by rw[aa B2];rfl
    have g2:w2.cell? ⟨w.heap.size,2,none⟩=some (.int .i64 0):=by rw[aa B2];rfl
    have g3:w2.cell? ⟨w.heap.size,3,none⟩=some (.int .i64 0):=by rw[aa B2];rfl
    have y2:=ae B2;go_wp2;obtain⟨x0,x1,x2,x3⟩:=pU B2 (.int .i64 r) (.string tf) (.int .i64 tl) (.int .i64 tc);exact bodyPost_ret (v:=.agg #[.int .i64 r,.string tf,.int .i64 tl,.int .i64 tc]) (by simp[results,Tryz.results56,go_sem,x0,x1,x2,x3]) rfl ⟨by rw[HE.out],(((HK2.out.setCell (Or.inr (by simp)) _).setCell (Or.inr (by simp)) _).setCell (Or.inr (by simp)) _).setCell (Or.inr (by simp)) _⟩
   ·have hr0:r=0:=by simpa using hr
    subst hr0
    have HM:Hid (∀j,j<k+1->aZ T S j=0):=fun j hj=>by
     by_cases e:j=k
     ·rw[e];exact Hr.out
     ·exact HN.out j (by omega)
    go_wp2_with (go_at_call 86;refine Calls.mono HBK.out ?_;rintro e w2 ⟨rfl,k2⟩;have HK3:=(show Hid _ from HK.out.trans k2))
    go_roundg (T.length-(k+1))
    case measure=>omega
    case rel=>exact⟨k+1,by omega,rfl,by go_num,HM,HK3⟩
  ·have HE:Hid (vI T S=ic):=JX (fun j hj=>HN.out j (by omega))
   have f0:=ak BR 0;have f1:=ak BR 1;have f2:=ak BR 2;have f3:=ak BR 3;have g0:wr.cell? ⟨w.heap.size,0,none⟩=some (.int .i64 0):=by rw[aa BR];rfl
   have g1:wr.cell? ⟨w.heap.size,1,none⟩=some (.string ⟨#[]⟩):=by rw[aa BR];rfl
   have g2:wr.cell? ⟨w.heap.size,2,none⟩=some (.int .i64 0):=by rw[aa BR];rfl
   have g3:wr.cell? ⟨w.heap.size,3,none⟩=some (.int .i64 0):=by rw[aa BR];rfl
   have y2:=ae BR;have hki:¬(k:Int)<(T.length:Int):=by omega
   go_wp2;obtain⟨x0,x1,x2,x3⟩:=pU BR (.int .i64 0) (.string ⟨#[]⟩) (.int .i64 0) (.int .i64 0);exact bodyPost_ret (v:=.agg #[.int .i64 0,.string ⟨#[]⟩,.int .i64 0,.int .i64 0]) (by simp[results,Tryz.results56,go_sem,x0,x1,x2,x3]) rfl ⟨by rw[HE.out];rfl,(((HKr.out.setCell (Or.inr (by simp)) _).setCell (Or.inr (by simp)) _).setCell (Or.inr (by simp)) _).setCell (Or.inr (by simp)) _⟩
theorem wh(S:List Sm)(s:Sm)(j:Nat)(h:j<S.length):au (S++[s]) j=au S j:=by
 unfold au;rw[List.getD_eq_getElem?_getD,List.getD_eq_getElem?_getD,List.getElem?_append_left h]
theorem rk(S:List Sm)(s:Sm):au (S++[s]) S.length=s:=by
 unfold au;rw[List.getD_eq_getElem?_getD,List.getElem?_append_right (Nat.le_refl _),Nat.sub_self];rfl
theorem yb(S:List Sm)(s:Sm)(j:Nat)(h:j<=S.length):ji (S++[s]) j=ji S j:=by
 unfold ji
 split
 ·rw[wh S s (j-1) (by omega)]
 ·rfl
structure LL(T:List Tk)(S:List Sm)(j:Nat)(s:Sm):Prop where
 a:s.a=ji S j
 lt:s.a<s.z
 e:bZ (tS T (s.z-1))=true
 n:∀q,s.a<=q->q<s.z-1->bZ (tS T q)=false
 k:(s.k,s.h)=dY T s.a
structure z9(T:List Tk)(i:Nat)(S:List Sm)(f:Nat):Prop where
 s:∀j,j<S.length->LL T S j (au S j)/\(au S j).z<=i
 fr:f=ji S S.length
 n:∀q,f<=q->q<i->bZ (tS T q)=false
 le:f<=i
theorem Eh(T:List Tk)(i:Nat):z9 T i (dU T i).1 (dU T i).2:=by
 induction i with
 | zero=>exact⟨fun j hj=>by simp[dU]at hj,rfl,fun q _ h=>by omega,Nat.le_refl _⟩
 | succ i ih =>
  rw[dU]
  split
  ·next he =>
   generalize (dU T i).1=S at *;generalize (dU T i).2=f at *;refine⟨fun j hj=>?_,?_,fun q h1 h2=>by simp only at h1;omega,Nat.le_refl _⟩
   ·simp only[List.length_append,List.length_cons,List.length_nil]at hj
    by_cases e:j<S.length
    ·obtain⟨p,hz⟩:=ih.s j e
     rw[wh S _ j e];exact⟨⟨by rw[yb S _ j (by omega)];exact p.a,p.lt,p.e,p.n,p.k⟩,by omega⟩
    ·have e:j=S.length:=by omega
     subst e;rw[rk];have:=ih.le;exact⟨⟨by rw[yb S _ _ (Nat.le_refl _)];exact ih.fr,by show f<i+1;omega,he,fun q h1 h2=>ih.n q h1 (by simp only at h2;omega),rfl⟩,Nat.le_refl _⟩
   ·simp only[List.length_append,List.length_cons,List.length_nil]
    unfold ji;rw[if_pos (by omega),Nat.add_sub_cancel,rk]
  ·next he =>
   refine⟨fun j hj=>?_,ih.fr,fun q h1 h2=>?_,by have:=ih.le;omega⟩
   ·obtain⟨p,hz⟩:=ih.s j hj
    exact⟨p,by omega⟩
   ·by_cases e:q=i
    ·rw[e];simpa using he
    ·exact ih.n q h1 (by omega)
theorem fL(T:List Tk):z9 T T.length (LS T) (dU T T.length).2:=Eh T T.length
theorem F7(i:Nat)(S:List Sm)(j:Nat)(h1:∀q,q<j->∃s,S[q]?=some s/\s.z<=i)(h2:∀s,S[j]?=some s->¬s.z<=i):lQ i S=j:=by
 induction S generalizing j with
 | nil =>
  cases j with
  | zero=>rfl
  | succ j=>obtain⟨s,h,-⟩:=h1 0 (by omega);cases h
 | cons s r ih =>
  cases j with
  | zero=>rw[lQ,if_neg (h2 s rfl)]
  | succ j =>
   obtain⟨s',e,hz⟩:=h1 0 (by omega);simp at e;subst e;rw[lQ,if_pos hz,ih j (fun q hq=>by simpa using h1 (q+1) (by omega)) (fun t ht=>h2 t (by simpa using ht))]
section
variable {T:List Tk} {i0 f:Nat} {S:List Sm}
theorem C1(S:List Sm)(j:Nat)(h:j<S.length):S[j]?=some (au S j):=by
 unfold au;rw[List.getD_eq_getElem?_getD,List.getElem?_eq_getElem h];rfl
theorem z9.step(p:z9 T i0 S f)(j:Nat)(h:j+1<S.length):(au S j).z<(au S (j+1)).z:=by
 have q:=(p.s (j+1) h).1;have:=q.lt;rw[q.a]at this;unfold ji at this;rw[if_pos (by omega),Nat.add_sub_cancel]at this;exact this
theorem z9.mono(p:z9 T i0 S f)(j k:Nat)(h:j<=k)(hk:k<S.length):(au S j).z<=(au S k).z:=by
 induction k with
 | zero =>
  have:j=0:=by omega
  rw[this];exact Nat.le_refl _
 | succ k ih =>
  by_cases e:j=k+1
  ·rw[e];exact Nat.le_refl _
  ·have:=ih (by omega) (by omega)
   have:=p.step k hk;omega
theorem z9.cnt(p:z9 T i0 S f)(j:Nat)(h:j<S.length)(i:Nat)(h1:(au S j).a<=i)(h2:i<(au S j).z):g9 S i=j:=by
 refine F7 i S j (fun q hq=>⟨au S q,C1 S q (by omega),?_⟩) (fun s hs=>?_)
 ·have e:=(p.s j h).1.a
  unfold ji at e;rw[if_pos (by omega)]at e;have:=p.mono q (j-1) (by omega) (by omega);omega
 ·rw[C1 S j h]at hs;cases hs
  omega
theorem z9.beg(p:z9 T i0 S f)(j:Nat)(h:j<S.length)(i:Nat)(h1:(au S j).a<=i)(h2:i<(au S j).z):ji S (g9 S i)=(au S j).a:=by
 rw[p.cnt j h i h1 h2];exact((p.s j h).1.a).symm
end
theorem mI{x:ByteArray}{l:List UInt8}(h:(x.toList==l)=true):x=⟨l.toArray⟩:=by
 have h':x.toList=l:=by simpa using h
 apply ByteArray.ext
 apply Array.toList_inj.1
 rw[<-ByteArray.toList_eq,h']
theorem kz{x:ByteArray}(h:bZ x=true):ge x ⟨#[36]⟩=true/\(x.toList == [36,99])=false/\(x.toList == [36,118])=false/\(x.toList == [36,102])=false:=by
 unfold bZ at h
 rcases Bool.or_eq_true _ _ ▸ h with h | h
 ·rcases Bool.or_eq_true _ _ ▸ h with h | h <;> (rw[mI h];decide +kernel)
 ·rw[mI h];decide +kernel
theorem Da{T:List Tk}{i0 f:Nat}{S:List Sm}(p:z9 T i0 S f)(j:Nat)(h:j<S.length)(q:Nat)(h1:(au S j).a<=q)(h2:q<(au S j).z):aZ T S q =
  if q=(au S j).a then cZ T S (tS T q) j
  else if q<(au S j).h then(if(aE (tS T q)||aH (tS T q))=true then 0 else 14)
  else kp T S (au S j).k (tS T q) j (eE T (au S j).h q):=by
 unfold aZ;rw[p.beg j h q h1 h2,p.cnt j h q h1 h2,<-(p.s j h).1.k]
theorem uo{T:List Tk}{S:List Sm}{key x:ByteArray}{n:Nat}{B:List ByteArray}(he:bZ x=true)(h:kp T S key x n B=0):(x.toList == [36,46])=true/\fV key B=0:=by
 unfold kp at h
 cases h1:(x.toList == [36,46])
 ·rw[if_neg (by rw[h1];simp)]at h
  have hs:=(kz he).1
  have h2:(x.toList == [36,61])=false:=by
   unfold bZ at he;rw[h1,Bool.false_or]at he
   rcases Bool.or_eq_true _ _ ▸ he with e | e <;> (rw[mI e];decide +kernel)
  rw[h2,Bool.false_and,if_neg (by simp),if_pos hs]at h
  cases h
 ·rw[if_pos h1]at h
  exact⟨rfl,h⟩
theorem qs{x:ByteArray}(h:(x.toList == [36,46])=true):lL x=true:=by unfold lL;rw[h];simp
theorem IS{T:List Tk}{S:List Sm}{x:ByteArray}{n:Nat}(h:(x.toList == [36,102])=true):cZ T S x n=11:=by
 have e:=mI h;have d:((x.toList == [36,123])||((x.toList == [36,118])||(x.toList == [36,100])))=false/\(x.toList == [36,125])=false/\(x.toList == [36,99])=false/\(aE x||aH x)=true:=by rw[e];decide +kernel
 obtain⟨d1,d2,d3,d4⟩:=d;unfold cZ;rw[d1,d2,d3,d4];simp
theorem Gy{x:ByteArray}(h:(aE x||aH x)=true):(x.toList == [36,99])=false/\(x.toList == [36,118])=false/\bZ x=false:=by
 unfold aE aH at h
 rcases Bool.or_eq_true _ _ ▸ h with h | h
 ·rcases Bool.or_eq_true _ _ ▸ h with h | h <;> (rw[mI h];decide +kernel)
 ·rcases Bool.or_eq_true _ _ ▸ h with h | h <;> (rw[mI h];decide +kernel)
theorem zY{T:List Tk}{f:Nat}{S:List Sm}(p:z9 T T.length S f)(j:Nat)(h:j<S.length)(hq:∀q,(au S j).a<=q->q<(au S j).z->aZ T S q=0) :
  (((au S j).k.toList == [36,99])=true->eD T (au S j).h)/\(((au S j).k.toList == [36,118])=true->eD T (au S j).h)/\(((au S j).k.toList == [36,102])=true->(au S j).h+1<T.length):=by
 have hW:=Da p j h;obtain⟨P,hzT⟩:=p.s j h;generalize au S j=s at *;obtain⟨a,z,hd,k⟩:=s;obtain⟨-,lt,en,-,ky⟩:=P;simp only at *;have L0:=hq (z-1) (by omega) (by omega);rw[hW (z-1) (by omega) (by omega)]at L0;have A0:=hq a (Nat.le_refl _) lt;rw[hW a (Nat.le_refl _) lt,if_pos rfl]at A0;unfold dY at ky;have hend:=kz en
 by_cases hA:(ge (tS T a) ⟨#[36]⟩||decide (T.length<=a+1))=true
 ·rw[if_pos hA]at ky
  cases ky
  have body:¬(z-1=a)->eD T (a+1):=fun hne=>by
   rw[if_neg hne,if_neg (by omega)]at L0;have:=uo en L0;exact⟨z-1,by omega,by omega,qs this.1⟩
  refine⟨fun hk=>body (fun e=>?_),fun hk=>body (fun e=>?_),fun hk=>?_⟩
  ·rw[e,hk]at hend;exact absurd hend.2.1 (by simp)
  ·rw[e,hk]at hend;exact absurd hend.2.2.1 (by simp)
  ·rw[IS hk]at A0;cases A0
 ·rw[if_neg hA]at ky
  cases ky
  have hno:ge (tS T a) ⟨#[36]⟩=false:=by
   cases e:ge (tS T a) ⟨#[36]⟩
   ·rfl
   ·rw[e]at hA;exact absurd rfl hA
  have hne:¬(z-1=a):=fun e=>by
   rw[e,hno]at hend;exact absurd hend.1 (by simp)
  have B0:=hq (a+1) (by omega) (by omega);rw[hW (a+1) (by omega) (by omega),if_neg (by omega),if_pos (by omega)]at B0
  have hkk:(aE (tS T (a+1))||aH (tS T (a+1)))=true:=by
   cases e:(aE (tS T (a+1))||aH (tS T (a+1)))
   ·rw[e]at B0;cases B0
   ·rfl
  obtain⟨n1,n2,n3⟩:=Gy hkk;refine⟨fun hk=>absurd hk (by rw[n1];simp),fun hk=>absurd hk (by rw[n2];simp),fun hk=>?_⟩;have hne2:¬(z-1=a+1):=fun e=>by rw[e,n3]at en;cases en
  rw[if_neg hne,if_neg (by omega)]at L0;have hc:=(uo en L0).2;unfold fV at hc
  split at hc
  ·cases hc
  ·split at hc
   ·cases hc
   ·next h1 h2 =>
    have hl:¬(eE T (a+2) (z-1)).length<2:=fun hl=>h2 (by rw[hk];simp[hl])
    unfold eE at hl;rw[List.length_map,List.length_take,List.length_drop]at hl;omega
theorem JY(T:List Tk)(hT:T.length<=100000):Lf T (LS T):=by
 intro i hi hall;have p:=fL T;have hl:(LS T).length<=T.length:=sI T T.length;have hn:g9 (LS T) i<=(LS T).length:=Kk i (LS T);generalize LS T=S at *
 have hz:∀j,j<g9 S i->(au S j).z<=i:=fun j hj=>by
  obtain⟨s,h1,h2⟩:=ym i S j hj;rw[C1 S j (by omega)]at h1
  cases h1;exact h2
 have hw:=fun j (hj:j<g9 S i)=>zY p j (by omega) (fun q _ h2=>hall q (by have:=hz j hj;omega))
 refine⟨⟨hn,by omega,hT,fun j hj=>(hw j hj).1,fun j hj=>(hw j hj).2.1,fun j hj=>?_⟩,fun j hj=>(hw j hj).2.2⟩;have:=(p.s j (by omega)).1.lt;have:=hz j hj;omega
set_option maxRecDepth 100000 in
theorem pm(s:ByteArray)(w:World)(hs:s.size<=1073741824) :
  Calls Tryz.prog 52 #[.string s] w fun e w'=>e=.returned (.bool (fc s))/\w'=w:=by
 by_cases h0:s.size=0
 ·have HE:Hid (fc s=false):=kQ s (Or.inl (by omega))
  have h0i:((s.size:Int)==0)=true:=by simpa using h0
  go_enter Tryz.func52,Tryz.ntmps52;go_wp2;go_ret;exact⟨aB HE.out.symm,rfl⟩
 ·have h0i:((s.size:Int)==0)=false:=by simpa using h0
  by_cases h8:8<s.size
  ·have HE:Hid (fc s=false):=kQ s (Or.inr (by omega))
   have h8i:(8:Int)<(s.size:Int):=by omega
   go_enter Tryz.func52,Tryz.ntmps52;go_wp2;go_ret;exact⟨aB HE.out.symm,rfl⟩
  ·have h8i:¬(8:Int)<(s.size:Int):=by omega
   have HI:Hid (fc s=(List.range s.size).all (fun i=>jt (aF s i))):=by
    show _=_
    unfold fc;rw[show decide (1<=s.size)=true by simp;omega,show decide (s.size<=8)=true by simp;omega];rfl
   go_enter Tryz.func52,Tryz.ntmps52;go_wp2
   go_loopg [3] s.size (fun g i wr=>∃k:Nat,k<=s.size/\g=s.size-k/\i=.int .i64 k/\Hid (∀i,i<k->jt (aF s i)=true)/\wr=w)
   case atStart=>exact⟨0,by omega,by omega,rfl,fun i h=>by omega,rfl⟩
   case round =>
    obtain⟨k,hk,hg,rfl,hall,rfl⟩:=hrel
    by_cases hlt:k<s.size
    ·have HNB:Hid (jt (s[k].toNat:Int)=(eG (s[k].toNat:Int) && !((s[k].toNat:Int)==36))):=rfl
     have HNO:Hid (jt (s[k].toNat:Int)=false->fc s=false):=fun hb=>by rw[HI.out];exact Ai k hlt (by rw[bI s k hlt];exact hb)
     have HYE:Hid (jt (s[k].toNat:Int)=true->∀i,i<k+1->jt (aF s i)=true):=fun hb i hi=>by
      by_cases e:i=k
      ·subst e;rw[bI s i hlt];exact hb
      ·exact hall.out i (by omega)
     have hki:(k:Int)<(s.size:Int):=by omega
     cases hp:eG (s[k].toNat:Int)
     ·have HN:=(show Hid _ from HNO.out (by rw[HNB.out,hp];rfl))
      go_wp2_with (go_at_call 78;refine(jU _ _).mono ?_;rintro e w1 ⟨rfl,hw1⟩;rw[hw1];clear hw1);go_ret;exact⟨aB HN.out.symm,rfl⟩
     ·cases hd:((s[k].toNat:Int)==36)
      ·have HN:=(show Hid _ from HYE.out (by rw[HNB.out,hp,hd];rfl))
       go_wp2_with (go_at_call 78;refine(jU _ _).mono ?_;rintro e w1 ⟨rfl,hw1⟩;rw[hw1];clear hw1)
       go_roundg (s.size-(k+1))
       case measure=>omega
       case rel=>exact⟨k+1,by omega,rfl,by go_num,HN,rfl⟩
      ·have HN:=(show Hid _ from HNO.out (by rw[HNB.out,hp,hd];rfl))
       go_wp2_with (go_at_call 78;refine(jU _ _).mono ?_;rintro e w1 ⟨rfl,hw1⟩;rw[hw1];clear hw1);go_ret;exact⟨aB HN.out.symm,rfl⟩
    ·have HY:Hid (fc s=true):=by show _=_;rw[HI.out];exact wJ (fun i hi=>hall.out i (by omega))
     go_wp2;go_ret;exact⟨aB HY.out.symm,rfl⟩
theorem yI(n d:ByteArray)(w:World)(hn:n.size<=1073741824)(hd:d.size<=4294967296) :
  Calls Tryz.prog 34 #[.string n,.string d] w fun e w'=>e=.returned (.int .i64 (cn n d))/\w'=w:=by
 cases h1:fc n
 ·have HE:Hid (cn n d=2):=by show _=_;unfold cn;rw[if_pos h1]
  go_enter Tryz.func34,Tryz.ntmps34;go_wp2_with (go_at_call 52;refine(pm n _ hn).mono ?_;rintro e w1 ⟨rfl,hw1⟩;rw[hw1];clear hw1);go_ret;exact⟨am HE.out.symm,rfl⟩
 ·by_cases h2:1024<d.size
  ·have HE:Hid (cn n d=3):=by show _=_;unfold cn;rw[if_neg (by rw[h1];simp),if_pos h2]
   have h2i:(1024:Int)<(d.size:Int):=by omega
   go_enter Tryz.func34,Tryz.ntmps34;go_wp2_with (go_at_call 52;refine(pm n _ hn).mono ?_;rintro e w1 ⟨rfl,hw1⟩;rw[hw1];clear hw1);go_ret;exact⟨am HE.out.symm,rfl⟩
  ·have HE:Hid (cn n d=0):=by show _=_;unfold cn;rw[if_neg (by rw[h1];simp),if_neg h2]
   have h2i:¬(1024:Int)<(d.size:Int):=by omega
   go_enter Tryz.func34,Tryz.ntmps34;go_wp2_with (go_at_call 52;refine(pm n _ hn).mono ?_;rintro e w1 ⟨rfl,hw1⟩;rw[hw1];clear hw1);go_ret;exact⟨am HE.out.symm,rfl⟩
structure mx(T:List Tk)(S:List Sm)(n:Nat):Prop where
 ok:jg T S n
 sm:S.length<=10000
 tm:T.length<=10000
 e:∀j,j<n->bZ (au S j).k=false->eD T (au S j).h
 f:kG T S n
theorem mx.mono{T:List Tk}{S:List Sm}{n m:Nat}(h:mx T S n)(hm:m<=n):mx T S m :=
 ⟨⟨Nat.le_trans hm h.ok.m,h.ok.s,h.ok.t,fun j hj=>h.ok.c j (by omega),fun j hj=>h.ok.v j (by omega),fun j hj=>h.ok.a j (by omega)⟩,h.sm,h.tm,fun j hj=>h.e j (by omega),fun j hj=>h.f j (by omega)⟩
def LD(T:List Tk)(S:List Sm)(x y:ByteArray)(a j:Nat):Bool:=((au S j).k.toList == [36,100])&&(!(x.toList==y.toList)&&(aI (bV T (au S j).h) x&&(aI (bV T (au S j).h) y&&bB S j a)))
def iw(T:List Tk)(S:List Sm)(x y:ByteArray)(a:Nat):Bool:=(List.range a).any (LD T S x y a)
theorem fY{k:ByteArray}{l:List UInt8}(h:(k.toList==l)=true)(hl:(l == [36,46])=false/\(l == [36,123])=false/\(l == [36,125])=false):bZ k=false:=by
 have:k.toList=l:=by simpa using h
 unfold bZ;rw[this,hl.1,hl.2.1,hl.2.2];rfl
set_option maxRecDepth 100000 in
theorem sX(b n:Nat)(x y:ByteArray)(T:List Tk)(aoT:Option Addr)(cT:Nat)(S:List Sm)(aoS:Option Addr)(cS:Nat)(w:World)(hD:eW w b T aoT cT S aoS cS)(ok:mx T S n) :
  Calls Tryz.prog 94 #[.pointer (some ⟨b,0,none⟩),.string x,.string y,.int .i64 n] w fun e w'=>e=.returned (.bool (iw T S x y n))/\ab [] w w':=by
 have HD:=(show Hid _ from hD);have hn:=ok.ok.m;have hS:=ok.ok.s;have hT:=ok.ok.t;have HOK:=(show Hid _ from ok);clear hD ok;go_enter Tryz.func94,Tryz.ntmps94;go_wp2
 go_loopg [9] n (fun g i wr=>∃k:Nat,k<=n/\g=n-k/\i=.int .i64 k/\Hid (∀j,j<k->LD T S x y n j=false)/\Hid (ab [] w wr))
 case atStart=>exact⟨0,by omega,rfl,rfl,(fun j hj=>by omega),ab.refl _ _⟩
 case round =>
  obtain⟨k,hk,hg,rfl,HN,HK⟩:=hrel
  by_cases hlt:k<n
  ·have hks:k<S.length:=by omega
   have HDr:=(show Hid _ from eW.still HD.out HK.out);obtain⟨-,c1,hb⟩:=HDr.out.cells;obtain⟨gs,rfl,hgs,-,-,-,q3⟩:=HDr.out.s.2 k S[k] (List.getElem?_eq_getElem hks);have hki:(k:Int)<(n:Int):=by omega
   have hki2:(k:Int)<(S.length:Int):=by omega
   have HP:Hid (LD T S x y n k=((S[k].k.toList == [36,100])&&(!(x.toList==y.toList)&&(aI (bV T S[k].h) x&&(aI (bV T S[k].h) y&&bB S k n))))):=by show _=_;unfold LD;rw[bC S k hks]
   have HEk:Hid ((S[k].k.toList == [36,100])=true->eD T S[k].h):=fun h=>by have:=HOK.out.e k hlt;rw[<-bC S k hks]at this;exact this (fY h (by decide))
   have HBD:Hid ((S[k].k.toList == [36,100])=true->∀wx,ab [] w wx->Calls Tryz.prog 72 #[.pointer (some ⟨b,0,none⟩),.int .i64 k] wx fun e w'=>∃h',e=.returned (.slice h'.ao (bV T S[k].h).length h'.cap)/\sS wx w' h' (bV T S[k].h)):=fun h wx kx=>ki b k T aoT cT S _ cS wx (eW.still HD.out kx) hks hT (HEk.out h)
   have HBL:=jR T S[k].h;have HAC:Hid (∀wx,ab [] w wx->Calls Tryz.prog 92 #[.pointer (some ⟨b,0,none⟩),.int .i64 k,.int .i64 n] wx fun e w'=>e=.returned (.bool (bB S k n))/\w'=wx):=fun wx kx=>jP b k n T aoT cT S _ cS wx (eW.still HD.out kx) (by omega) hn hS
   clear HEk;generalize bV T S[k].h=B at *;generalize S[k].k=sk at *;obtain⟨ac,Hac⟩:∃ac,Hid (bB S k n=ac):=⟨_,rfl⟩
   rw[Hac.out]at HP HAC
   cases h1:(sk.toList == [36,100])
   ·have HM:=(show Hid _ from dC HN.out (by rw[HP.out,h1];rfl))
    go_wp2
    go_roundg (n-(k+1))
    case measure=>omega
    case rel=>exact⟨k+1,by omega,rfl,by go_num,HM,HK⟩
   ·cases h2:(x.toList==y.toList)
    ·have HB2:=(show Hid _ from HBD.out h1)
     go_upto_region 6 with (go_at_call 72;refine(HB2.out _ (by exact HK.out)).mono ?_;rintro e w2 ⟨h3,rfl,x2⟩)
     have HK2:=(show Hid _ from HK.out.trans x2.kept);have HAM:=(show Hid _ from i9 B h3.ao h3.cap x w2 x2.own.srcX (by omega));have HAN:=(show Hid _ from i9 B h3.ao h3.cap y w2 x2.own.srcX (by omega));have HA2:=(show Hid _ from HAC.out w2 HK2.out);clear x2 c1 q3;obtain⟨p,Hp⟩:∃p,Hid (aI B x=p):=⟨_,rfl⟩
     rw[Hp.out]at HAM HP;obtain⟨q,Hq⟩:∃q,Hid (aI B y=q):=⟨_,rfl⟩
     rw[Hq.out]at HAN HP
     go_upto_region 7 with (go_at_call 93;refine Calls.mono HAM.out ?_;rintro e w9 ⟨rfl,hw9⟩;rw[hw9];clear hw9)
     go_upto_region 8 with (go_at_call 93;refine Calls.mono HAN.out ?_;rintro e w9 ⟨rfl,hw9⟩;rw[hw9];clear hw9)
     go_upto_region 9 with (go_at_call 92;refine Calls.mono HA2.out ?_;rintro e w9 ⟨rfl,hw9⟩;rw[hw9];clear hw9)
     cases hr:(p&&(q&&ac))
     ·have HM:=(show Hid _ from dC HN.out (by rw[HP.out,hr];simp))
      cases p <;> cases q <;> cases ac <;> first | (exact absurd hr (by decide)) | skip
      all_goals
       go_wp2
       go_roundg (n-(k+1))
       case measure=>omega
       case rel=>exact⟨k+1,by omega,rfl,by go_num,HM,HK2⟩
     ·have HM:Hid (iw T S x y n=true):=lD k hlt (by rw[HP.out,h1,h2,hr];rfl)
      simp only[Bool.and_eq_true]at hr;obtain⟨rfl,rfl,rfl⟩:=hr;go_wp2;go_ret;exact⟨aB HM.out.symm,HK2.out⟩
    ·have HM:=(show Hid _ from dC HN.out (by rw[HP.out,h2];simp))
     go_wp2
     go_roundg (n-(k+1))
     case measure=>omega
     case rel=>exact⟨k+1,by omega,rfl,by go_num,HM,HK⟩
  ·have HM:Hid (iw T S x y n=false):=sV (fun j hj=>HN.out j (by omega))
   go_wp2;go_ret;exact⟨aB HM.out.symm,HK.out⟩
structure ir(w wr:World)(h:Hd)(r:dK):Prop where
 own:aA wr h r
 far:∀k,h.blk=some k->w.heap.size<=k
 kept:ab [] w wr
theorem ir.still{w wr wr':World}{h:Hd}{r:dK}(a:ir w wr h r)(k:ab [] wr wr'):ir w wr' h r:=⟨a.own.still k,a.far,a.kept.trans k⟩
theorem ir.grew{w wr wr':World}{h h':Hd}{r r':dK}(a:ir w wr h r)(g:bh wr wr' h h')(o:aA wr' h' r'):ir w wr' h' r':=by
 refine⟨o,fun k hk=>?_,⟨g.kept.os.trans a.kept.os,g.kept.tape.trans a.kept.tape,g.kept.output.trans a.kept.output,Nat.le_trans a.kept.size g.kept.size,fun k hk _=>?_⟩⟩
 ·rcases g.blk with e | ⟨q,e,hq⟩
  ·exact a.far k (by rw[<-e];exact hk)
  ·rw[e]at hk;cases hk
   exact Nat.le_trans a.kept.size hq
 ·rw[g.kept.block k (Nat.lt_of_lt_of_le hk a.kept.size) (fun hq=>by have:=a.far _ (aK hq);omega),a.kept.block k hk (by simp)]
theorem sS.toL{w wr:World}{h:Hd}{O:List ByteArray}(a:sS w wr h O):ir w wr h (aD O):=⟨a.own,a.far,a.kept⟩
theorem ir.base{w w1 wr:World}{h:Hd}{r:dK}(a:ir w1 wr h r)(k:ab [] w w1):ir w wr h r:=⟨a.own,fun q hq=>Nat.le_trans k.size (a.far q hq),k.trans a.kept⟩
theorem bh.beside{w w':World}{h h':Hd}(g:bh w w' h h'){o:Hd}{r:dK}(ho:aA w o r)(hne:∀k,o.blk=some k->h.blk≠some k):aA w' o r :=
 ho.moved (fun q hq=>g.kept.block q (ho.lt hq) (fun hm=>hne q hq (aK hm)))
theorem mu{P:Program}(w:World){ops:Array Oper}{rest:List Oper}{o:Oper}{a:Act}{Q:Exit->Act->World->Prop}
  (hg:o.guard=none) (s x:Operand) (t:TypeId) (hop:o.op=Op.call { callee:=Callee.builtin Builtin.append,args:=#[s,x],argTypes:=#[t,t] })
  (i:TypeInfo) (z:Value) (bytes:Nat) (h:Hd) (r:dK) (news:List Value) (h1:P.underlying t=some (.slice r.e)) (h2:P.info? r.e=some i) (h3:i.zero=some z) (h4:i.size=r.size) (h5:i.bytes=bytes) (h6:z.cells.size=r.size) (h7:0<r.size)
  (hs:a.eval s=.slice h.ao r.n h.cap) (hown:aA w h r) (hL:r.n<=1000000) (hb:bytes<=1000) (hx:a.eval x=.slice (some ⟨w.heap.size,0,none⟩) 1 1) (hn:news.length=r.size) (h1c:∀u∈news,u.oneCell'=true)
  (hK:∀h' w',aA w' h' ⟨r.e,r.size,r.n+1,r.xs++news⟩->bh w w' h h'->wpList P ops Q rest (a.put o.dst (.slice h'.ao (r.n+1) h'.cap)) w') :
  wpList P ops Q (o :: rest) a (w.alloc (.cells news.toArray r.e)):=by
 have k1:ab [] w (w.alloc (.cells news.toArray r.e)):=(ab.refl [] _).alloc _;have hk:(w.alloc (.cells news.toArray r.e)).heap[w.heap.size]?=some (.cells news.toArray r.e (0,0)):=heap_alloc_new _ _;refine aM _ hg s x t hop i z bytes h r h1 h2 h3 h4 h5 h6 h7 hs (hown.still k1) ⟨w.heap.size,0,none⟩ 1 1 news hx (by omega) ?_ h1c Nat.one_pos (by unfold maxLen;omega) (Nat.le_trans (Nat.mul_le_mul (show r.n+1<=1000001 by omega) hb) (by omega)) ?_
 ·intro j u hj
  rw[bK,aa hk];simpa using hj
 ·intro g5 cap5 w5 hw5 hgr5 hf5
  exact hK ⟨some ⟨g5,0,none⟩,cap5⟩ w5 hw5 ((bh.still k1).trans (bh.made hgr5 hf5))
def oX(w:World)(ao:Option Addr)(L:List Nat):Prop:=∀(k n:Nat),L[k]?=some n->∃g,ao=some ⟨g,0,none⟩/\g<w.heap.size/\w.cell? ⟨g,k,none⟩=some (.int .i64 n)
theorem oX.still{w w':World}{ao:Option Addr}{L:List Nat}(h:oX w ao L)(k:ab [] w w'):oX w' ao L:=by
 intro j x hj;obtain⟨g,e,hg,c0⟩:=h j x hj;exact⟨g,e,Nat.lt_of_lt_of_le hg k.size,by rw[World.cell?_of_block (k.block g hg (by simp))];exact c0⟩
theorem id.still{w w':World}{ao:Option Addr}{L:List ByteArray}(h:id w ao L)(k:ab [] w w'):id w' ao L:=by
 intro j x hj;obtain⟨g,e,hg,c0⟩:=h j x hj;exact⟨g,e,Nat.lt_of_lt_of_le hg k.size,by rw[World.cell?_of_block (k.block g hg (by simp))];exact c0⟩
theorem aA.srcN{w:World}{h:Hd}{L:List Nat}(o:aA w h (bq L)):oX w h.ao L:=by
 intro k x hk
 rcases o.ways with ⟨_,h0,_⟩ | ⟨g,cur,e1,e2,e3,-⟩
 ·have h0:L.length=0:=h0
  have:=(List.getElem?_eq_some_iff.1 hk).1;omega
 ·exact⟨g,e1,ae e2,o.cell e1 k (.int .i64 x) (by simp[bq,iW,hk])⟩
theorem qk(L:List Nat)(n:Nat):(⟨(bq L).e,(bq L).size,(bq L).n+1,(bq L).xs++[.int .i64 n]⟩:dK)=bq (L++[n]):=by
 simp[bq,iW]
theorem zx(L M:List ByteArray):(⟨(aD L).e,(aD L).size,(aD L).n+M.length,(aD L).xs++dO M⟩:dK)=aD (L++M):=by
 simp[aD,dO]
theorem xd:(Tryz.prog.info? 3).map (fun i=>(i.zero,i.size,i.bytes))=some (some (.int .i64 0),1,8):=by kernel_rfl
theorem id.cells{w:World}{ao:Option Addr}{L:List ByteArray}(h:id w ao L):∀ad,ao=some ad->∀j u,(dO L)[j]?=some u->w.cell? (ad.add j)=some u:=by
 intro ad e j u hj;rw[dO,List.getElem?_map]at hj
 cases hx:L[j]? with
 | none=>rw[hx]at hj;cases hj
 | some x =>
  rw[hx]at hj
  cases hj
  obtain⟨g,e2,-,c⟩:=h j x hx;rw[e]at e2
  cases e2
  rw[bK];simpa using c
end Go.Proofs.YtpddjjabfbfifaaGreat
