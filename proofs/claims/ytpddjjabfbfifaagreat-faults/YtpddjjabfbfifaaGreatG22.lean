import Derived.Deep.CutRange
import Derived.Test.YtpddjjabfbfifaaGreatG21
namespace Go.Proofs.YtpddjjabfbfifaaGreat
open Go.RowKit
set_option maxHeartbeats 40000000
structure jg(T:List Tk)(S:List Sm)(n:Nat):Prop where
 m:n<=S.length
 s:S.length<=100000
 t:T.length<=100000
 c:sx T S n [36,99]
 v:sx T S n [36,118]
 a:∀j,j<n->(au S j).a<T.length
def iC(T:List Tk)(S:List Sm)(x:ByteArray)(n:Nat):Bool:=decide (0<=bn T S x n)||(dM T S x n||im T S ⟨#[36,118]⟩ x n false)
set_option maxRecDepth 100000 in
theorem uM(b n:Nat)(x:ByteArray)(T:List Tk)(aoT:Option Addr)(cT:Nat)(S:List Sm)(aoS:Option Addr)(cS:Nat)(w:World)(hD:eW w b T aoT cT S aoS cS)(ok:jg T S n) :
  Calls Tryz.prog 170 #[.pointer (some ⟨b,0,none⟩),.string x,.int .i64 n] w fun e w'=>e=.returned (.bool (iC T S x n))/\ab [] w w':=by
 have H1:=(show Hid _ from mG b n x T aoT cT S aoS cS w hD ok.m ok.s ok.a);have H2:Hid (∀wx,ab [] w wx->Calls Tryz.prog 172 #[.pointer (some ⟨b,0,none⟩),.string x,.int .i64 n] wx fun e w'=>e=.returned (.bool (dM T S x n))/\ab [] wx w'):=fun wx k=>qI b n x T aoT cT S aoS cS wx (hD.still k) ok.m ok.s ok.t ok.c
 have H3:Hid (∀wx,ab [] w wx->Calls Tryz.prog 212 #[.pointer (some ⟨b,0,none⟩),.string ⟨#[36,118]⟩,.string x,.int .i64 n,.bool false] wx fun e w'=>e=.returned (.bool (im T S ⟨#[36,118]⟩ x n false))/\ab [] wx w'):=fun wx k=>mz b n ⟨#[36,118]⟩ x false T aoT cT S aoS cS wx (hD.still k) ok.m ok.s ok.t (by rw[l5.2];exact ok.v)
 have HR:Hid (iC T S x n=(decide (0<=bn T S x n)||(dM T S x n||im T S ⟨#[36,118]⟩ x n false))):=rfl;generalize iC T S x n=R at *;generalize bn T S x n=l at *;generalize dM T S x n=c at *;generalize im T S ⟨#[36,118]⟩ x n false=v at *;clear hD;go_enter Tryz.func170,Tryz.ntmps170
 go_upto_region 2 with (go_at_call 171;refine Calls.mono H1.out ?_;rintro e w1 ⟨rfl,k1⟩)
 have H2:=(show Hid _ from H2.out w1 k1)
 go_upto_region 3 with (go_at_call 172;refine Calls.mono H2.out ?_;rintro e w2 ⟨rfl,k2⟩)
 have H3:=(show Hid _ from H3.out w2 (k1.trans k2))
 go_upto_region 4 with (go_at_call 212;refine Calls.mono H3.out ?_;rintro e w3 ⟨rfl,k3⟩)
 have HK:=(show Hid _ from(k1.trans k2).trans k3)
 by_cases h1:0<=l
 ·have HE:Hid (R=true):=by show _=_;rw[HR.out];simp[h1]
  go_wp2;go_ret;exact⟨aB HE.out.symm,HK.out⟩
 ·cases c
  ·have HE:Hid (R=v):=by show _=_;rw[HR.out];simp[h1]
   go_wp2;go_ret;exact⟨aB HE.out.symm,HK.out⟩
  ·have HE:Hid (R=true):=by show _=_;rw[HR.out];simp
   go_wp2;go_ret;exact⟨aB HE.out.symm,HK.out⟩
def iV(T:List Tk)(S:List Sm)(x:ByteArray)(n:Nat)(con:Bool)(before:List ByteArray):Int :=
 if aI before x=true then 13 else if(con&&iC T S x n)=true then 13 else if(!con&&(decide (0<=bn T S x n)||(dM T S x n||jG T S x n)))=true then 13 else 0
set_option maxRecDepth 100000 in
theorem Ed(b n:Nat)(x:ByteArray)(con:Bool)(before:List ByteArray)(aoB:Option Addr)(cB:Nat)(T:List Tk)(aoT:Option Addr)(cT:Nat)(S:List Sm)(aoS:Option Addr)(cS:Nat)(w:World)(hD:eW w b T aoT cT S aoS cS)(ok:jg T S n)(hB:id w aoB before)(hBl:before.length<=1000000) :
  Calls Tryz.prog 125 #[.pointer (some ⟨b,0,none⟩),.string x,.int .i64 n,.bool con,.slice aoB before.length cB] w fun e w'=>e=.returned (.int .i64 (iV T S x n con before))/\ab [] w w':=by
 have H0:=(show Hid _ from i9 before aoB cB x w hB (by omega));have H1:=(show Hid _ from uM b n x T aoT cT S aoS cS w hD ok);have H2:Hid (∀wx,ab [] w wx->Calls Tryz.prog 171 #[.pointer (some ⟨b,0,none⟩),.string x,.int .i64 n] wx fun e w'=>e=.returned (.int .i64 (bn T S x n))/\ab [] wx w'):=fun wx k=>mG b n x T aoT cT S aoS cS wx (hD.still k) ok.m ok.s ok.a
 have H3:Hid (∀wx,ab [] w wx->Calls Tryz.prog 172 #[.pointer (some ⟨b,0,none⟩),.string x,.int .i64 n] wx fun e w'=>e=.returned (.bool (dM T S x n))/\ab [] wx w'):=fun wx k=>qI b n x T aoT cT S aoS cS wx (hD.still k) ok.m ok.s ok.t ok.c
 have H4:Hid (∀wx,ab [] w wx->Calls Tryz.prog 173 #[.pointer (some ⟨b,0,none⟩),.string x,.int .i64 n] wx fun e w'=>e=.returned (.bool (jG T S x n))/\ab [] wx w'):=fun wx k=>xK b n x T aoT cT S aoS cS wx (hD.still k) ok.m ok.s ok.t ok.v
 have HR:Hid (iV T S x n con before=if aI before x=true then 13 else if(con&&iC T S x n)=true then 13 else if(!con&&(decide (0<=bn T S x n)||(dM T S x n||jG T S x n)))=true then 13 else 0):=rfl;generalize iV T S x n con before=R at *;generalize aI before x=ag at *;generalize iC T S x n=tk at *;generalize bn T S x n=l at *;generalize dM T S x n=c at *;generalize jG T S x n=v at *;clear hD;go_enter Tryz.func125,Tryz.ntmps125
 go_upto_region 2 with (go_at_call 93;refine Calls.mono H0.out ?_;rintro e w9 ⟨rfl,hw9⟩;rw[hw9];clear hw9)
 go_upto_region 3 with (go_at_call 170;refine Calls.mono H1.out ?_;rintro e w1 ⟨rfl,k1⟩)
 have H2:=(show Hid _ from H2.out w1 k1)
 go_upto_region 4 with (go_at_call 171;refine Calls.mono H2.out ?_;rintro e w2 ⟨rfl,k2⟩)
 have H3:=(show Hid _ from H3.out w2 (k1.trans k2))
 go_upto_region 5 with (go_at_call 172;refine Calls.mono H3.out ?_;rintro e w3 ⟨rfl,k3⟩)
 have H4:=(show Hid _ from H4.out w3 ((k1.trans k2).trans k3))
 go_upto_region 6 with (go_at_call 173;refine Calls.mono H4.out ?_;rintro e w4 ⟨rfl,k4⟩)
 have HK:=(show Hid _ from((k1.trans k2).trans k3).trans k4);clear H0 H1 H2 H3 H4 k1 k2 k3 k4
 cases ag
 ·cases con
  ·by_cases h1:0<=l
   ·have HE:Hid (R=13):=by show _=_;rw[HR.out];simp[h1]
    go_wp2;go_ret;exact⟨am HE.out.symm,HK.out⟩
   ·cases c
    ·cases v
     ·have HE:Hid (R=0):=by show _=_;rw[HR.out];simp[h1]
      go_wp2;go_ret;exact⟨am HE.out.symm,HK.out⟩
     ·have HE:Hid (R=13):=by show _=_;rw[HR.out];simp
      go_wp2;go_ret;exact⟨am HE.out.symm,HK.out⟩
    ·have HE:Hid (R=13):=by show _=_;rw[HR.out];simp
     go_wp2;go_ret;exact⟨am HE.out.symm,HK.out⟩
  ·cases tk
   ·have HE:Hid (R=0):=by show _=_;rw[HR.out];simp
    go_wp2;go_ret;exact⟨am HE.out.symm,HK.out⟩
   ·have HE:Hid (R=13):=by show _=_;rw[HR.out];simp
    go_wp2;go_ret;exact⟨am HE.out.symm,HK.out⟩
 ·have HE:Hid (R=13):=by show _=_;rw[HR.out];simp
  go_wp2;go_ret;exact⟨am HE.out.symm,HK.out⟩
def fV(key:ByteArray)(before:List ByteArray):Int :=
 if before.length=0 then 15 else if(((key.toList == [36,100])||(key.toList == [36,102]))&&decide (before.length<2))=true then 15 else if((key.toList == [36,112]) && !(aI before ⟨#[36,61]⟩))=true then 23 else 0
set_option maxRecDepth 100000 in
theorem yl(key:ByteArray)(before:List ByteArray)(aoB:Option Addr)(cB:Nat)(w:World)(hB:id w aoB before)(hBl:before.length<=1000000) :
  Calls Tryz.prog 124 #[.string key,.slice aoB before.length cB] w fun e w'=>e=.returned (.int .i64 (fV key before))/\w'=w:=by
 have H0:=(show Hid _ from i9 before aoB cB ⟨#[36,61]⟩ w hB (by omega));have HR:Hid (fV key before=if before.length=0 then 15 else if(((key.toList == [36,100])||(key.toList == [36,102]))&&decide (before.length<2))=true then 15 else if((key.toList == [36,112]) && !(aI before ⟨#[36,61]⟩))=true then 23 else 0):=rfl;generalize fV key before=R at *;generalize aI before ⟨#[36,61]⟩=pf at *;generalize before.length=n at *;clear hB
 by_cases hn:n=0
 ·have HE:Hid (R=15):=by show _=_;rw[HR.out,if_pos hn]
  subst hn;go_enter Tryz.func124,Tryz.ntmps124;go_wp2_with (go_at_call 93;refine Calls.mono H0.out ?_;rintro e w9 ⟨rfl,hw9⟩;rw[hw9];clear hw9);go_ret;exact⟨am HE.out.symm,rfl⟩
 ·rw[if_neg hn]at HR
  have hni:((n:Int)==0)=false:=by simpa using hn
  go_enter Tryz.func124,Tryz.ntmps124
  go_upto_region 3 with (go_at_call 93;refine Calls.mono H0.out ?_;rintro e w9 ⟨rfl,hw9⟩;rw[hw9];clear hw9)
  by_cases h2:n<2
  ·have h2i:(n:Int)<2:=by omega
   cases h3:(key.toList == [36,100]) <;> cases h4:(key.toList == [36,102]) <;> cases h5:(key.toList == [36,112]) <;> cases pf
   all_goals
    go_wp2;go_ret;exact⟨am (by rw[HR.out];simp[h2,h3,h4,h5]),rfl⟩
  ·have h2i:¬(n:Int)<2:=by omega
   cases h3:(key.toList == [36,100]) <;> cases h4:(key.toList == [36,102]) <;> cases h5:(key.toList == [36,112]) <;> cases pf
   all_goals
    go_wp2;go_ret;exact⟨am (by rw[HR.out];simp[h2,h3,h4,h5]),rfl⟩
set_option maxRecDepth 100000 in
theorem xl(s:ByteArray)(w:World)(hs:s.size<=1073741824) :
  Calls Tryz.prog 169 #[.string s] w fun e w'=>e=.returned (.bool (fB s))/\w'=w:=by
 go_enter Tryz.func169,Tryz.ntmps169;go_wp2
 go_loopg [3] s.size (fun g i wr=>∃k:Nat,k<=s.size/\g=s.size-k/\i=.int .i64 k/\Hid (∀i,i<k->iz (aF s i)=true)/\wr=w)
 case atStart=>exact⟨0,by omega,by omega,rfl,fun i h=>by omega,rfl⟩
 case round =>
  obtain⟨k,hk,hg,rfl,hall,rfl⟩:=hrel
  by_cases hlt:k<s.size
  ·have HNO:Hid (iz (s[k].toNat:Int)=false->fB s=false):=fun hb=>Ai k hlt (by rw[bI s k hlt];exact hb)
   have HYE:Hid (iz (s[k].toNat:Int)=true->∀i,i<k+1->iz (aF s i)=true):=fun hb i hi=>by
    by_cases e:i=k
    ·subst e;rw[bI s i hlt];exact hb
    ·exact hall.out i (by omega)
   have hki:(k:Int)<(s.size:Int):=by omega
   go_upto_region 5 with fail
   obtain⟨c,hc⟩:∃c:Int,(s[k].toNat:Int)=c:=⟨_,rfl⟩
   have Hc:=(show Hid _ from hc);clear hc;rw[Hc.out]at HNO HYE ⊢
   go_cut [5] from 18 to 23 (fun s5 wd=>s5=.bool (decide (97<=c)&&decide (c<=122))/\wd=wr)
   case first =>
    by_cases h1:97<=c
    ·by_cases h2:c<=122
     ·go_wp2_with fail
      go_meet
      case rel=>exact⟨by simp;omega,rfl⟩
     ·go_wp2_with fail
      go_meet
      case rel=>exact⟨by simp;omega,rfl⟩
    ·go_wp2_with fail
     go_meet
     case rel=>exact⟨by simp;omega,rfl⟩
   case rest =>
    obtain⟨rfl,hwc⟩:=hcut;subst hwc;obtain⟨a1,Ha1⟩:∃a1,Hid ((decide (97<=c)&&decide (c<=122))=a1):=⟨_,rfl⟩
    rw[Ha1.out]
    go_upto_region 6 with fail
    go_cut [6] from 24 to 29 (fun s6 wd=>s6=.bool (decide (65<=c)&&decide (c<=90))/\wd=wc)
    case first =>
     by_cases h1:65<=c
     ·by_cases h2:c<=90
      ·go_wp2_with fail
       go_meet
       case rel=>exact⟨by simp;omega,rfl⟩
      ·go_wp2_with fail
       go_meet
       case rel=>exact⟨by simp;omega,rfl⟩
     ·go_wp2_with fail
      go_meet
      case rel=>exact⟨by simp;omega,rfl⟩
    case rest =>
     obtain⟨rfl,hwc⟩:=hcut;subst hwc;obtain⟨a2,Ha2⟩:∃a2,Hid ((decide (65<=c)&&decide (c<=90))=a2):=⟨_,rfl⟩
     rw[Ha2.out]
     go_upto_region 7 with fail
     go_cut [7] from 30 to 35 (fun s7 wd=>s7=.bool (decide (48<=c)&&decide (c<=57))/\wd=wc)
     case first =>
      by_cases h1:48<=c
      ·by_cases h2:c<=57
       ·go_wp2_with fail
        go_meet
        case rel=>exact⟨by simp;omega,rfl⟩
       ·go_wp2_with fail
        go_meet
        case rel=>exact⟨by simp;omega,rfl⟩
      ·go_wp2_with fail
       go_meet
       case rel=>exact⟨by simp;omega,rfl⟩
     case rest =>
      obtain⟨rfl,hwc⟩:=hcut;subst hwc;obtain⟨a3,Ha3⟩:∃a3,Hid ((decide (48<=c)&&decide (c<=57))=a3):=⟨_,rfl⟩
      rw[Ha3.out]
      go_upto_region 8 with fail
      go_cut [8] from 36 to 45 (fun s8 wd=>s8=.bool ((c==45)||(c==95)||(c==46))/\wd=wc)
      case first =>
       cases h1:(c==45)
       ·cases h2:(c==95)
        ·go_wp2_with fail
         go_meet
         case rel=>exact⟨by rw[h1,h2];simp,rfl⟩
        ·go_wp2_with fail
         go_meet
         case rel=>exact⟨by rw[h1,h2];simp,rfl⟩
       ·go_wp2_with fail
        go_meet
        case rel=>exact⟨by rw[h1];simp,rfl⟩
      case rest =>
       obtain⟨rfl,hwc⟩:=hcut;subst hwc;obtain⟨a4,Ha4⟩:∃a4,Hid (((c==45)||(c==95)||(c==46))=a4):=⟨_,rfl⟩
       rw[Ha4.out];have HL:Hid (iz c=(a1||(a2||(a3||a4)))):=by show _=_;rw[<-Ha1.out,<-Ha2.out,<-Ha3.out,<-Ha4.out];unfold iz;simp only[Bool.or_assoc]
       clear Ha1 Ha2 Ha3 Ha4
       cases a1 <;> cases a2 <;> cases a3 <;> cases a4
       ·have HN:=(show Hid _ from HNO.out (by rw[HL.out];rfl))
        go_wp2;go_ret;exact⟨aB HN.out.symm,rfl⟩
       all_goals
        have HN:=(show Hid _ from HYE.out (by rw[HL.out];rfl));go_wp2
        go_roundg (s.size-(k+1))
        case measure=>omega
        case rel=>exact⟨k+1,by omega,rfl,by go_num,HN,rfl⟩
  ·have HY:Hid (fB s=true):=wJ (fun i hi=>hall.out i (by omega))
   go_wp2;go_ret;exact⟨aB HY.out.symm,rfl⟩
def cZ(T:List Tk)(S:List Sm)(x:ByteArray)(n:Nat):Int :=
 if((x.toList == [36,123])||((x.toList == [36,118])||(x.toList == [36,100])))=true then 0
 else if((x.toList == [36,125])&&(bF S n==0))=true then 9
 else if(x.toList == [36,125])=true then 0
 else if((x.toList == [36,99])&&decide (0<bF S n))=true then 10
 else if(x.toList == [36,99])=true then 0
 else if(aE x||aH x)=true then 11
 else if ge x ⟨#[36]⟩=true then 8
 else if fB x=false then 12
 else if iC T S x n=true then 13 else 0
set_option maxRecDepth 100000 in
theorem AC(b n:Nat)(x:ByteArray)(T:List Tk)(aoT:Option Addr)(cT:Nat)(S:List Sm)(aoS:Option Addr)(cS:Nat)(w:World)(hD:eW w b T aoT cT S aoS cS)(ok:jg T S n)(hx:x.size<=1073741824) :
  Calls Tryz.prog 121 #[.pointer (some ⟨b,0,none⟩),.string x,.int .i64 n] w fun e w'=>e=.returned (.int .i64 (cZ T S x n))/\ab [] w w':=by
 have H1:=(show Hid _ from Au b n T aoT cT S aoS cS w hD ok.m ok.s);have H2:=(show Hid _ from uM b n x T aoT cT S aoS cS w hD ok)
 have HR:Hid (cZ T S x n=if((x.toList == [36,123])||((x.toList == [36,118])||(x.toList == [36,100])))=true then 0
  else if((x.toList == [36,125])&&(bF S n==0))=true then 9
  else if(x.toList == [36,125])=true then 0
  else if((x.toList == [36,99])&&decide (0<bF S n))=true then 10
  else if(x.toList == [36,99])=true then 0
  else if(aE x||aH x)=true then 11
  else if ge x ⟨#[36]⟩=true then 8
  else if fB x=false then 12
  else if iC T S x n=true then 13 else 0):=rfl
 generalize cZ T S x n=R at *;generalize bF S n=dp at *;generalize iC T S x n=tk at *;clear hD;go_enter Tryz.func121,Tryz.ntmps121
 go_upto_region 5 with (first | (go_at_call 168;refine Calls.mono H1.out ?_;rintro e w9 ⟨rfl,hw9⟩;rw[hw9];clear hw9) | (go_at_call 120;refine(eL x _ _ (by omega) (by show 1<=_;omega)).mono ?_;rintro e w9 ⟨rfl,hw9⟩;rw[hw9];clear hw9) | (go_at_call 169;refine(xl x _ hx).mono ?_;rintro e w9 ⟨rfl,hw9⟩;rw[hw9];clear hw9) | (go_at_call 170;refine Calls.mono H2.out ?_;rintro e w1 ⟨rfl,k1⟩))
 go_upto_region 7 with (first | (go_at_call 122;refine(eZ x _).mono ?_;rintro e w9 ⟨rfl,hw9⟩;rw[hw9];clear hw9) | (go_at_call 123;refine(kg x _).mono ?_;rintro e w9 ⟨rfl,hw9⟩;rw[hw9];clear hw9))
 have HK:=(show Hid _ from k1);generalize aE x=ya at *;generalize aH x=yu at *;generalize ge x ⟨#[36]⟩=yd at *;generalize fB x=yg at *;clear H1 H2 k1
 cases h1:(x.toList == [36,123])
 ·cases h2:(x.toList == [36,118])
  ·cases h3:(x.toList == [36,100])
   ·cases h4:(x.toList == [36,125])
    ·cases h5:(x.toList == [36,99])
     ·cases ya
      ·cases yu
       ·cases yd
        ·cases yg
         ·have HE:Hid (R=12):=by show _=_;rw[HR.out];simp[h1,h2,h3,h4,h5]
          go_wp2;go_ret;exact⟨am HE.out.symm,HK.out⟩
         ·cases tk
          ·have HE:Hid (R=0):=by show _=_;rw[HR.out];simp[h1,h2,h3,h4,h5]
           go_wp2;go_ret;exact⟨am HE.out.symm,HK.out⟩
          ·have HE:Hid (R=13):=by show _=_;rw[HR.out];simp[h1,h2,h3,h4,h5]
           go_wp2;go_ret;exact⟨am HE.out.symm,HK.out⟩
        ·have HE:Hid (R=8):=by show _=_;rw[HR.out];simp[h1,h2,h3,h4,h5]
         go_wp2;go_ret;exact⟨am HE.out.symm,HK.out⟩
       ·have HE:Hid (R=11):=by show _=_;rw[HR.out];simp[h1,h2,h3,h4,h5]
        go_wp2;go_ret;exact⟨am HE.out.symm,HK.out⟩
      ·have HE:Hid (R=11):=by show _=_;rw[HR.out];simp[h1,h2,h3,h4,h5]
       go_wp2;go_ret;exact⟨am HE.out.symm,HK.out⟩
     ·by_cases hp:0<dp
      ·have HE:Hid (R=10):=by show _=_;rw[HR.out];simp[h1,h2,h3,h4,h5,hp]
       go_wp2;go_ret;exact⟨am HE.out.symm,HK.out⟩
      ·have HE:Hid (R=0):=by show _=_;rw[HR.out];simp[h1,h2,h3,h4,h5,hp]
       go_wp2;go_ret;exact⟨am HE.out.symm,HK.out⟩
    ·cases hz:(dp==0)
     ·have HE:Hid (R=0):=by show _=_;rw[HR.out];simp[h1,h2,h3,h4,hz]
      go_wp2;go_ret;exact⟨am HE.out.symm,HK.out⟩
     ·have HE:Hid (R=9):=by show _=_;rw[HR.out];simp[h1,h2,h3,h4,hz]
      go_wp2;go_ret;exact⟨am HE.out.symm,HK.out⟩
   ·have HE:Hid (R=0):=by show _=_;rw[HR.out];simp[h1,h2,h3]
    go_wp2;go_ret;exact⟨am HE.out.symm,HK.out⟩
  ·have HE:Hid (R=0):=by show _=_;rw[HR.out];simp[h1,h2]
   go_wp2;go_ret;exact⟨am HE.out.symm,HK.out⟩
 ·have HE:Hid (R=0):=by show _=_;rw[HR.out];simp[h1]
  go_wp2;go_ret;exact⟨am HE.out.symm,HK.out⟩
def qQ(T:List Tk)(S:List Sm)(v:ByteArray)(n j:Nat):Bool:=((au S j).k.toList == [36,102])&&(((tS T ((au S j).h+1)).toList==v.toList)&&bB S j n)
def fg(T:List Tk)(S:List Sm)(v:ByteArray)(n:Nat):Int:=match (List.range n).find? (qQ T S v n) with
 | some j=>j
 | none=>-1
theorem DH{T:List Tk}{S:List Sm}{v:ByteArray}{n k:Nat}(hk:k<n)(h:qQ T S v n k=true)(ha:∀j,j<k->qQ T S v n j=false):fg T S v n=k:=by
 have e:(List.range n).find? (qQ T S v n)=some k:=by
  rw[List.find?_range_eq_some];exact⟨h,List.mem_range.2 hk,fun j hj=>by rw[ha j hj];rfl⟩
 unfold fg;rw[e]
theorem Gl{T:List Tk}{S:List Sm}{v:ByteArray}{n:Nat}(ha:∀j,j<n->qQ T S v n j=false):fg T S v n=-1:=by
 have e:(List.range n).find? (qQ T S v n)=none:=by
  rw[List.find?_eq_none];intro j hj;rw[ha j (List.mem_range.1 hj)];simp
 unfold fg;rw[e]
set_option maxRecDepth 100000 in
theorem DE(b n:Nat)(v:ByteArray)(T:List Tk)(aoT:Option Addr)(cT:Nat)(S:List Sm)(aoS:Option Addr)(cS:Nat)(w:World)(hD:eW w b T aoT cT S aoS cS)(ok:jg T S n)(hf:∀j,j<n->((au S j).k.toList == [36,102])=true->(au S j).h+1<T.length) :
  Calls Tryz.prog 174 #[.pointer (some ⟨b,0,none⟩),.string v,.int .i64 n] w fun e w'=>e=.returned (.int .i64 (fg T S v n))/\ab [] w w':=by
 have HD:=(show Hid _ from hD);have hn:=ok.m;have hS:=ok.s;have hT:=ok.t;clear hD;go_enter Tryz.func174,Tryz.ntmps174;go_wp2
 go_loopg [7] n (fun g i wr=>∃k:Nat,k<=n/\g=n-k/\i=.int .i64 k/\Hid (∀j,j<k->qQ T S v n j=false)/\Hid (ab [] w wr))
 case atStart=>exact⟨0,by omega,rfl,rfl,(fun j hj=>by omega),ab.refl _ _⟩
 case round =>
  obtain⟨k,hk,hg,rfl,HN,HK⟩:=hrel
  by_cases hlt:k<n
  ·have hks:k<S.length:=by omega
   have HDr:=(show Hid _ from eW.still HD.out HK.out);obtain⟨c0,c1,hb⟩:=HDr.out.cells;obtain⟨gs,rfl,hgs,-,-,q2,q3⟩:=HDr.out.s.2 k S[k] (List.getElem?_eq_getElem hks);have hki:(k:Int)<(n:Int):=by omega
   have hki2:(k:Int)<(S.length:Int):=by omega
   have HP:Hid (qQ T S v n k=((S[k].k.toList == [36,102])&&(((tS T (S[k].h+1)).toList==v.toList)&&bB S k n))):=by show _=_;unfold qQ;rw[bC S k hks]
   have HF:Hid ((S[k].k.toList == [36,102])=true->S[k].h+1<T.length):=by have:=hf k hlt;rw[<-bC S k hks]at this;exact this
   have HAC:Hid (∀wx,ab [] w wx->Calls Tryz.prog 92 #[.pointer (some ⟨b,0,none⟩),.int .i64 k,.int .i64 n] wx fun e w'=>e=.returned (.bool (bB S k n))/\w'=wx):=fun wx kx=>jP b k n T aoT cT S _ cS wx (eW.still HD.out kx) (by omega) hn hS
   generalize S[k]=s at *;obtain⟨sa,sz,sh,sk⟩:=s;simp only at q2 q3 HP HF;obtain⟨ac,Hac⟩:∃ac,Hid (bB S k n=ac):=⟨_,rfl⟩
   rw[Hac.out]at HP HAC
   cases h1:(sk.toList == [36,102])
   ·have HM:=(show Hid _ from dC HN.out (by rw[HP.out,h1];rfl))
    go_upto_region 4 with fail
    go_region
    all_goals
     have HK1:=(show Hid _ from HK.out.drew);go_wp2
     go_roundg (n-(k+1))
     case measure=>omega
     case rel=>exact⟨k+1,by omega,rfl,by go_num,HM,HK1⟩
   ·have hsl:=HF.out h1
    obtain⟨gT,rfl,hgT,t0,-⟩:=HDr.out.t.2 (sh+1) _ (gg T (sh+1) hsl);replace t0:wr.cell? ⟨gT,(sh+1)*5,none⟩=some (.string (tS T (sh+1))):=t0;obtain⟨y,Hy⟩:∃y,Hid (tS T (sh+1)=y):=⟨_,rfl⟩
    rw[Hy.out]at t0 HP;have hsi:(sh:Int)+1<(T.length:Int):=by omega
    have hsw:IntKind.i64.wrap ((sh:Int)+1)=(sh:Int)+1:=by rw[IntKind.wrap_i64];omega
    have hsn:((sh:Int)+1).toNat=sh+1:=by omega
    have hs0:(0:Int)<=(sh:Int)+1:=by omega
    cases h2:(y.toList==v.toList)
    ·have HM:=(show Hid _ from dC HN.out (by rw[HP.out,h1,h2];rfl))
     go_upto_region 4 with fail
     go_region
     all_goals
      have HK1:=(show Hid _ from HK.out.drew);go_wp2
      go_roundg (n-(k+1))
      case measure=>omega
      case rel=>exact⟨k+1,by omega,rfl,by go_num,HM,HK1⟩
    ·go_upto_region 4 with fail
     go_region
     all_goals
      have HK1:=(show Hid _ from HK.out.drew);have HA2:=(show Hid _ from HAC.out wr.drew HK1.out)
     cases ac
     ·have HM:=(show Hid _ from dC HN.out (by rw[HP.out,h1,h2];rfl))
      go_wp2_with (go_at_call 92;refine Calls.mono HA2.out ?_;rintro e w9 ⟨rfl,hw9⟩;rw[hw9];clear hw9)
      go_roundg (n-(k+1))
      case measure=>omega
      case rel=>exact⟨k+1,by omega,rfl,by go_num,HM,HK1⟩
     ·have HM:Hid (fg T S v n=k):=DH hlt (by rw[HP.out,h1,h2];rfl) HN.out
      go_wp2_with (go_at_call 92;refine Calls.mono HA2.out ?_;rintro e w9 ⟨rfl,hw9⟩;rw[hw9];clear hw9);go_ret;exact⟨am HM.out.symm,HK1.out⟩
  ·have HM:Hid (fg T S v n=-1):=Gl (fun j hj=>HN.out j (by omega))
   go_wp2;go_ret;exact⟨am HM.out.symm,HK.out⟩
def kG(T:List Tk)(S:List Sm)(n:Nat):Prop:=∀j,j<n->((au S j).k.toList == [36,102])=true->(au S j).h+1<T.length
def il(T:List Tk)(S:List Sm)(key x:ByteArray)(n:Nat)(before:List ByteArray):Int :=
 if(key.toList == [36,100])=true then(if jG T S x n=false then 18 else if aI before x=true then 19 else 0)
 else if(before.length==0)=true then(if dM T S x n=false then 17 else 0)
 else if(key.toList == [36,102])=true then(if 1<before.length then 16 else if jG T S x n=false then 18 else if 0<=fg T S x n then 20 else 0)
 else if dM T S x n=true then 0 else if jG T S x n=false then 21 else if fg T S x n<0 then 22 else 0
set_option maxRecDepth 100000 in
theorem BH(b n:Nat)(key x:ByteArray)(before:List ByteArray)(aoB:Option Addr)(cB:Nat)(T:List Tk)(aoT:Option Addr)(cT:Nat)(S:List Sm)(aoS:Option Addr)(cS:Nat)(w:World)(hD:eW w b T aoT cT S aoS cS)(ok:jg T S n)(hf:kG T S n)(hB:id w aoB before)(hBl:before.length<=1000000) :
  Calls Tryz.prog 126 #[.pointer (some ⟨b,0,none⟩),.string key,.string x,.int .i64 n,.slice aoB before.length cB] w fun e w'=>e=.returned (.int .i64 (il T S key x n before))/\ab [] w w':=by
 have H3:=(show Hid _ from qI b n x T aoT cT S aoS cS w hD ok.m ok.s ok.t ok.c);have H4:Hid (∀wx,ab [] w wx->Calls Tryz.prog 173 #[.pointer (some ⟨b,0,none⟩),.string x,.int .i64 n] wx fun e w'=>e=.returned (.bool (jG T S x n))/\ab [] wx w'):=fun wx k=>xK b n x T aoT cT S aoS cS wx (hD.still k) ok.m ok.s ok.t ok.v
 have H5:Hid (∀wx,ab [] w wx->Calls Tryz.prog 174 #[.pointer (some ⟨b,0,none⟩),.string x,.int .i64 n] wx fun e w'=>e=.returned (.int .i64 (fg T S x n))/\ab [] wx w'):=fun wx k=>DE b n x T aoT cT S aoS cS wx (hD.still k) ok hf
 have H6:Hid (∀wx,ab [] w wx->Calls Tryz.prog 93 #[.slice aoB before.length cB,.string x] wx fun e w'=>e=.returned (.bool (aI before x))/\w'=wx):=fun wx k=>i9 before aoB cB x wx (fun i y hy=>by
  obtain⟨g,e,hg,c⟩:=hB i y hy;exact⟨g,e,Nat.lt_of_lt_of_le hg k.size,by rw[World.cell?_of_block (k.block g hg (by simp))];exact c⟩) (by omega)
 have HR:Hid (il T S key x n before=if(key.toList == [36,100])=true then(if jG T S x n=false then 18 else if aI before x=true then 19 else 0)
  else if(before.length==0)=true then(if dM T S x n=false then 17 else 0)
  else if(key.toList == [36,102])=true then(if 1<before.length then 16 else if jG T S x n=false then 18 else if 0<=fg T S x n then 20 else 0)
  else if dM T S x n=true then 0 else if jG T S x n=false then 21 else if fg T S x n<0 then 22 else 0):=rfl
 generalize il T S key x n before=R at *;generalize aI before x=ag at *;generalize fg T S x n=fl at *;generalize dM T S x n=c at *;generalize jG T S x n=v at *;generalize before.length=p at *;clear hD hB;go_enter Tryz.func126,Tryz.ntmps126
 go_upto_region 3 with (go_at_call 172;refine Calls.mono H3.out ?_;rintro e w3 ⟨rfl,k3⟩)
 have H4:=(show Hid _ from H4.out w3 k3)
 go_upto_region 4 with (go_at_call 173;refine Calls.mono H4.out ?_;rintro e w4 ⟨rfl,k4⟩)
 have H5:=(show Hid _ from H5.out w4 (k3.trans k4))
 go_upto_region 5 with (go_at_call 174;refine Calls.mono H5.out ?_;rintro e w5 ⟨rfl,k5⟩)
 have HK:=(show Hid _ from(k3.trans k4).trans k5);have H6:=(show Hid _ from H6.out w5 HK.out)
 go_upto_region 6 with (go_at_call 93;refine Calls.mono H6.out ?_;rintro e w9 ⟨rfl,hw9⟩;rw[hw9];clear hw9)
 clear H3 H4 H5 H6 k3 k4 k5
 cases hd:(key.toList == [36,100])
 ·by_cases hp:p=0
  ·have hpi:((p:Int)==0)=true:=by simpa using hp
   cases c
   ·have HE:Hid (R=17):=by show _=_;rw[HR.out];simp[hd,hp]
    go_wp2;go_ret;exact⟨am HE.out.symm,HK.out⟩
   ·have HE:Hid (R=0):=by show _=_;rw[HR.out];simp[hd,hp]
    go_wp2;go_ret;exact⟨am HE.out.symm,HK.out⟩
  ·have hpi:((p:Int)==0)=false:=by simpa using hp
   cases hk:(key.toList == [36,102])
   ·cases c
    ·cases v
     ·have HE:Hid (R=21):=by show _=_;rw[HR.out];simp[hd,hp,hk]
      go_wp2;go_ret;exact⟨am HE.out.symm,HK.out⟩
     ·by_cases hf0:fl<0
      ·have hf1:fl<0:=hf0
       have HE:Hid (R=22):=by show _=_;rw[HR.out];simp[hd,hp,hk,hf0]
       go_wp2;go_ret;exact⟨am HE.out.symm,HK.out⟩
      ·have hf1:¬fl<0:=hf0
       have HE:Hid (R=0):=by show _=_;rw[HR.out];simp[hd,hp,hk,hf0]
       go_wp2;go_ret;exact⟨am HE.out.symm,HK.out⟩
    ·have HE:Hid (R=0):=by show _=_;rw[HR.out];simp[hd,hp,hk]
     go_wp2;go_ret;exact⟨am HE.out.symm,HK.out⟩
   ·by_cases h1:1<p
    ·have h1i:(1:Int)<(p:Int):=by omega
     have HE:Hid (R=16):=by show _=_;rw[HR.out];simp[hd,hp,hk,h1]
     go_wp2;go_ret;exact⟨am HE.out.symm,HK.out⟩
    ·have h1i:¬(1:Int)<(p:Int):=by omega
     cases v
     ·have HE:Hid (R=18):=by show _=_;rw[HR.out];simp[hd,hp,hk,h1]
      go_wp2;go_ret;exact⟨am HE.out.symm,HK.out⟩
     ·by_cases hf0:0<=fl
      ·have hf1:0<=fl:=hf0
       have HE:Hid (R=20):=by show _=_;rw[HR.out];simp[hd,hp,hk,h1,hf0]
       go_wp2;go_ret;exact⟨am HE.out.symm,HK.out⟩
      ·have hf1:¬0<=fl:=hf0
       have HE:Hid (R=0):=by show _=_;rw[HR.out];simp[hd,hp,hk,h1,hf0]
       go_wp2;go_ret;exact⟨am HE.out.symm,HK.out⟩
 ·cases v
  ·have HE:Hid (R=18):=by show _=_;rw[HR.out];simp[hd]
   go_wp2;go_ret;exact⟨am HE.out.symm,HK.out⟩
  ·cases ag
   ·have HE:Hid (R=0):=by show _=_;rw[HR.out];simp[hd]
    go_wp2;go_ret;exact⟨am HE.out.symm,HK.out⟩
   ·have HE:Hid (R=19):=by show _=_;rw[HR.out];simp[hd]
    go_wp2;go_ret;exact⟨am HE.out.symm,HK.out⟩
def Bz(s:Sm):List Value:=[.int .i64 s.a,.int .i64 s.z,.int .i64 s.h,.string s.k]
def Lb(L:List Sm):List Value:=L.flatMap Bz
def qj(L:List Sm):dK:=⟨145,4,L.length,Lb L⟩
theorem KQ(L:List Sm)(j:Nat)(t:Sm)(h:L[j]?=some t)(c:Nat)(hc:c<4):(Lb L)[j*4+c]?=(Bz t)[c]?:=by
 induction L generalizing j with
 | nil=>cases h
 | cons a L ih =>
  have e:Lb (a :: L)=Bz a++Lb L:=rfl
  cases j with
  | zero =>
   simp at h;subst h;rw[e,List.getElem?_append_left (by simp[Bz];omega)];simp
  | succ j =>
   rw[e,List.getElem?_append_right (by simp[Bz];omega),show(j+1)*4+c-(Bz a).length=j*4+c by simp[Bz];omega];exact ih j (by simpa using h)
theorem EM(L:List Sm)(t:Sm):(⟨(qj L).e,(qj L).size,(qj L).n+1,(qj L).xs++Bz t⟩:dK)=qj (L++[t]):=by
 simp[qj,Lb]
theorem aA.srcS{w:World}{h:Hd}{L:List Sm}(o:aA w h (qj L)):xU w h.ao h.cap L:=by
 refine⟨?_,fun k t ht=>?_⟩
 ·rcases o.ways with ⟨e,h0,_⟩ | ⟨g,cur,e1,e2,e3,-⟩
  ·have h0:L.length=0:=h0
   omega
  ·exact e3
 ·have hk:=(List.getElem?_eq_some_iff.1 ht).1
  obtain⟨g,eg,hg,-⟩:=oe o (show 0<L.length by omega);have e:∀c,c<4->∀u,(Bz t)[c]?=some u->w.cell? ⟨g,k*4+c,none⟩=some u:=fun c hc u hu=>o.cell eg (k*4+c) u (by show(Lb L)[k*4+c]?=some u;rw[KQ L k t ht c hc];exact hu)
  exact⟨g,eg,hg,e 0 (by omega) _ rfl,e 1 (by omega) _ rfl,e 2 (by omega) _ rfl,e 3 (by omega) _ rfl⟩
theorem Ku:(Tryz.prog.info? 145).map (fun i=>(i.zero,i.size,i.bytes))=some (some (.agg #[.int .i64 0,.int .i64 0,.int .i64 0,.string ⟨#[]⟩]),4,40):=by kernel_rfl
theorem rC(w:World){ops:Array Oper}{rest:List Oper}{o:Oper}{a:Act}{Q:Exit->Act->World->Prop}
  (hg:o.guard=none) (s x:Operand) (hop:o.op=Op.call { callee:=Callee.builtin Builtin.append,args:=#[s,x],argTypes:=#[139,139] })
  (h:Hd) (L:List Sm) (t:Sm) (hs:a.eval s=.slice h.ao L.length h.cap) (hown:aA w h (qj L)) (hL:L.length<=1000000) (hx:a.eval x=.slice (some ⟨w.heap.size,0,none⟩) 1 1)
  (hK:∀h' w',aA w' h' (qj (L++[t]))->bh w w' h h'->wpList Tryz.prog ops Q rest (a.put o.dst (.slice h'.ao (L.length+1) h'.cap)) w') :
  wpList Tryz.prog ops Q (o :: rest) a (w.alloc (.cells (Bz t).toArray 145)):=by
 obtain⟨i0,hi,hz0,hz1,hz2⟩:=info_parts Ku;have k1:ab [] w (w.alloc (.cells (Bz t).toArray 145)):=(ab.refl [] _).alloc _;have hk:(w.alloc (.cells (Bz t).toArray 145)).heap[w.heap.size]?=some (.cells (Bz t).toArray 145 (0,0)):=heap_alloc_new _ _;refine aM _ hg s x 139 hop i0 (.agg #[.int .i64 0,.int .i64 0,.int .i64 0,.string ⟨#[]⟩]) 40 h (qj L) Tryz.underlying139 hi hz0 hz1 hz2 rfl (show 0<4 by omega) hs (hown.still k1) ⟨w.heap.size,0,none⟩ 1 1 (Bz t) hx rfl ?_ ?_ Nat.one_pos (by simp only[qj];unfold maxLen;omega) (by simp only[qj];omega) ?_
 ·intro j u hj
  rw[bK,aa hk];simpa using hj
 ·intro u hu
  simp only[Bz,List.mem_cons,List.not_mem_nil,or_false]at hu
  rcases hu with rfl | rfl | rfl | rfl <;> rfl
 ·intro g5 cap5 w5 hw5 hgr5 hf5
  rw[EM]at hw5;exact hK ⟨some ⟨g5,0,none⟩,cap5⟩ w5 hw5 ((bh.still k1).trans (bh.made hgr5 hf5))
def dU(T:List Tk):Nat->List Sm×Nat
 | 0=>([],0)
 | i+1=>if bZ (tS T i)=true then((dU T i).1++[⟨(dU T i).2,i+1,(dY T (dU T i).2).2,(dY T (dU T i).2).1⟩],i+1) else dU T i
def LS(T:List Tk):List Sm:=(dU T T.length).1
theorem GH(T:List Tk)(i:Nat):(dU T i).2<=i:=by
 induction i with
 | zero=>exact Nat.le_refl _
 | succ i ih =>
  rw[dU]
  split
  ·exact Nat.le_refl _
  ·omega
theorem sI(T:List Tk)(i:Nat):(dU T i).1.length<=i:=by
 induction i with
 | zero=>exact Nat.le_refl _
 | succ i ih =>
  rw[dU]
  split
  ·simp;omega
  ·omega
structure Lh(w wr:World)(T:List Tk)(aoT:Option Addr)(cT:Nat)(S:List Sm)(h:Hd):Prop where
 d:wr.heap[w.heap.size]?=some (.cells #[.slice aoT T.length cT,.slice h.ao S.length h.cap] 141 (0,0))
 own:aA wr h (qj S)
 far:∀k,h.blk=some k->w.heap.size<k
 kept:ab [] w wr
theorem Lh.add{w wr w5:World}{T:List Tk}{aoT:Option Addr}{cT:Nat}{S S':List Sm}{h h5:Hd}(a:Lh w wr T aoT cT S h)(o:aA w5 h5 (qj S'))(g:bh wr w5 h h5):Lh w (w5.setCell ⟨w.heap.size,1,none⟩ (.slice h5.ao S'.length h5.cap)) T aoT cT S' h5:=by
 have hz:=ae a.d;have d5:=g.kept.get a.d (fun hq=>by have:=a.far _ (aK hq);omega)
 have far5:∀k,h5.blk=some k->w.heap.size<k:=fun k hk=>by
  rcases g.blk with e | ⟨q,e,hq⟩
  ·exact a.far k (by rw[<-e];exact hk)
  ·rw[e]at hk;cases hk;omega
 have kS:ab [w.heap.size] w5 (w5.setCell ⟨w.heap.size,1,none⟩ (.slice h5.ao S'.length h5.cap)):=(ab.refl _ _).setCell (Or.inl (by simp)) _;have k5:ab [] w w5:=⟨g.kept.os.trans a.kept.os,g.kept.tape.trans a.kept.tape,g.kept.output.trans a.kept.output,Nat.le_trans a.kept.size g.kept.size,fun k hk _=>by rw[g.kept.block k (Nat.lt_of_lt_of_le hk a.kept.size) (fun hq=>by have:=a.far _ (aK hq);omega),a.kept.block k hk (by simp)]⟩;exact⟨by rw[ah d5];rfl,o.moved (fun q hq=>kS.block q (o.lt hq) (by simp;have:=far5 q hq;omega)),far5,k5.setCell (Or.inr (by simp)) _⟩
set_option maxRecDepth 100000 in
theorem GG(T:List Tk)(aoT:Option Addr)(cT:Nat)(w:World)(hT:jN w aoT cT T)(hl:T.length<=100000)(hs:∀i,(tS T i).size<=1073741824) :
  Calls Tryz.prog 55 #[.slice aoT T.length cT] w fun e w'=>e=.returned (.pointer (some ⟨w.heap.size,0,none⟩))/\∃aoS cS,eW w' w.heap.size T aoT cT (LS T) aoS cS/\ab [] w w':=by
 have S0:Hid (Lh w (w.alloc (.cells #[.slice aoT T.length cT,.slice none 0 0] 141)) T aoT cT [] ⟨none,0⟩):=⟨heap_alloc_new _ _,World.ownsRow_nil _ _ _ _,(by intro k hk;cases hk),(ab.refl [] _).alloc _⟩;have HT:=(show Hid _ from hT);have hcap:=hT.1;clear hT;go_enter Tryz.func55,Tryz.ntmps55;go_wp2
 go_loopg [4,5] T.length (fun g f i wr=>∃(k fr:Nat) (S:List Sm) (h:Hd),k<=T.length/\g=T.length-k/\f=.int .i64 fr/\i=.int .i64 k/\(fr<=k/\S.length<=k)/\Hid (dU T k=(S,fr))/\Hid (Lh w wr T aoT cT S h))
 case atStart=>exact⟨0,0,[],⟨none,0⟩,by omega,rfl,rfl,rfl,⟨by omega,by simp⟩,rfl,S0⟩
 case round =>
  obtain⟨k,fr,S,h,hk,hg,rfl,rfl,⟨hf,hSl⟩,HN,HW⟩:=hrel
  by_cases hlt:k<T.length
  ·have HTr:=(show Hid _ from jN.still HT.out HW.out.kept)
   obtain⟨gT,rfl,hgT,t0,-⟩:=HTr.out.2 k _ (gg T k hlt);replace t0:wr.cell? ⟨gT,k*5,none⟩=some (.string (tS T k)):=t0;have hki:(k:Int)<(T.length:Int):=by omega
   have HG:Hid (dU T (k+1)=if bZ (tS T k)=true then(S++[⟨fr,k+1,(dY T fr).2,(dY T fr).1⟩],k+1) else(S,fr)):=by show _=_;rw[dU,HN.out]
   obtain⟨x,Hx⟩:∃x,Hid (tS T k=x):=⟨_,rfl⟩
   rw[Hx.out]at t0 HG;have HDB:Hid (eW wr w.heap.size T (some ⟨gT,0,none⟩) cT S h.ao h.cap):=⟨HW.out.d,HTr.out,HW.out.own.srcS⟩;have HKY:=(show Hid _ from CI w.heap.size fr T (some ⟨gT,0,none⟩) cT S h.ao h.cap wr HDB.out (by omega) hl hs);obtain⟨kw,Hkw⟩:∃kw,Hid (dY T fr=kw):=⟨_,rfl⟩
   rw[Hkw.out]at HKY HG;obtain⟨ks,kh⟩:=kw;have c1:wr.cell? ⟨w.heap.size,1,none⟩=some (.slice h.ao S.length h.cap):=by rw[aa HW.out.d];rfl
   have hz:=ae HW.out.d;have hOw:=HW.out.own;obtain⟨en,Hen⟩:∃en,Hid (bZ x=en):=⟨_,rfl⟩
   rw[Hen.out]at HG
   cases en
   ·have HM:Hid (dU T (k+1)=(S,fr)):=by show _=_;rw[HG.out,if_neg (by simp)]
    go_wp2_with (go_at_call 84;refine(qN x _).mono ?_;rintro e w9 ⟨rfl,hw9⟩;rw[hw9,Hen.out];clear hw9)
    go_roundg (T.length-(k+1))
    case measure=>omega
    case rel=>exact⟨k+1,fr,S,h,by omega,rfl,rfl,by go_num,⟨by omega,by omega⟩,HM,HW⟩
   ·have HM:Hid (dU T (k+1)=(S++[⟨fr,k+1,kh,ks⟩],k+1)):=by show _=_;rw[HG.out,if_pos rfl]
    have hc1:((k+1:Nat):Int)=(k:Int)+1:=by omega
    go_upto_region 9 with (first | (go_at_call 84;refine(qN x _).mono ?_;rintro e w9 ⟨rfl,hw9⟩;rw[hw9,Hen.out];clear hw9) | (go_at_call 85;refine Calls.mono HKY.out ?_;rintro e w9 ⟨rfl,hw9⟩;rw[hw9];clear hw9))
    go_wp2_with (at_builtin;rw[<-hc1];refine rC _ rfl (.tmp 35) (.tmp 42) rfl h S ⟨fr,k+1,kh,ks⟩ rfl hOw (by omega) rfl ?_;intro h5 w5 hw5 hg5;have HA:=(show Hid _ from HW.out.add hw5 hg5);have d5:=hg5.kept.get HW.out.d (fun hq=>by have:=HW.out.far _ (aK hq);omega);have f5:=ak d5 1;have e5:w5.cell? ⟨w.heap.size,1,none⟩=some (.slice h.ao S.length h.cap):=(by rw[aa d5];rfl);have z5:=ae d5;clear hw5 hg5 d5);rw[List.length_append]at HA
    go_roundg (T.length-(k+1))
    case measure=>omega
    case rel=>exact⟨k+1,k+1,S++[⟨fr,k+1,kh,ks⟩],h5,by omega,rfl,by go_num,by go_num,⟨by omega,by simp;omega⟩,HM,HA⟩
  ·have e:k=T.length:=by omega
   subst e;have HE:Hid (LS T=S):=by show _=_;unfold LS;rw[HN.out]
   go_wp2;go_ret;exact⟨rfl,h.ao,h.cap,by rw[HE.out];exact⟨HW.out.d,jN.still HT.out HW.out.kept,HW.out.own.srcS⟩,HW.out.kept⟩
end Go.Proofs.YtpddjjabfbfifaaGreat
