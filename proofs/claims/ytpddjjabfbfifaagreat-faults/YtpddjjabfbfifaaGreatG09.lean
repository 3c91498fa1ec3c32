import Derived.Deep.CutRange
import Derived.Deep.RegionHeld3
import Derived.Laws.OwnMore
import Derived.BigQuiet
import Derived.Laws.IdiomStrings
import Derived.Deep.RegionLaw
import Derived.Test.YtpddjjabfbfifaaGreatG08
namespace Go.Proofs.YtpddjjabfbfifaaGreat
open Go.RowKit Tryz
set_option maxHeartbeats 0
variable{i:List Tk}{k:List Sm}{a:ByteArray}{v z1:Nat}{x d N:World}{I z0 z4:Hd}{y3:Array Oper}{y4:List Oper}{y0:Oper}{y1:Act}{y5:Exit->Act->World->Prop}{z6:Option Addr}{z7:List ByteArray}{zt:dN}{z3:List Nat}(L f:Nat)(z2 n:ByteArray)(g:List ByteArray)(T:Nat)(b:List Tk)(M:Option Addr)(o:Nat)(w:List Sm)(D:Option Addr)(y:Nat)(S:ByteArray)(zb:Sm)(l:Nat)(H:World)
structure il(T:List Tk)(S:List Sm)(n:Nat):Prop where
 m:n<=S.length
 s:S.length<=100000
 t:T.length<=100000
 c:vi T S n [36,99]
 v:vi T S n [36,118]
 a:∀j,j<n->(au S j).a<T.length
def jC(T:List Tk)(S:List Sm)(x:ByteArray)(n:Nat):Bool:=decide (0<=bE T S x n)||(eF T S x n||jq T S ⟨#[36,118]⟩ x n false)
set_option maxRecDepth 100000
theorem xq(j:fz H L b M o w D l)(d:il b w f) :
  Calls prog 170 #[.pointer (some ⟨L,0,none⟩),.string n,.int .i64 f] H fun e i=>e=.returned (.bool (jC b w n f))/\ab [] H i:=by
 have A:Hid _:=oC L f n b M o w D l H j d.m d.s d.a;have p:Hid (∀g,ab [] H g->Calls prog 172 #[.pointer (some ⟨L,0,none⟩),.string n,.int .i64 f] g fun e i=>e=.returned (.bool (eF b w n f))/\ab [] g i):=fun g k=>tM L f n b M o w D l g (j.Vb k) d.m d.s d.t d.c
 have q:Hid (∀g,ab [] H g->Calls prog 212 #[.pointer (some ⟨L,0,none⟩),.string ⟨#[36,118]⟩,.string n,.int .i64 f,.bool false] g fun e i=>e=.returned (.bool (jq b w ⟨#[36,118]⟩ n f false))/\ab [] g i):=fun g k=>oq L f ⟨#[36,118]⟩ n false b M o w D l g (j.Vb k) d.m d.s d.t (by rw[nR.2];exact d.v)
 have u:Hid (jC b w n f=(decide (0<=bE b w n f)||(eF b w n f||jq b w ⟨#[36,118]⟩ n f false))):=rfl;generalize jC b w n f=R at *;generalize bE b w n f=C at *;generalize eF b w n f=c at *;generalize jq b w ⟨#[36,118]⟩ n f false=v at *;clear j;go_enter func170,ntmps170
 go_upto_region 2 with (go_at_call 171;refine QU A.out ?_;rintro e E ⟨rfl,x⟩)
 have p:Hid _:=p.out E x
 go_upto_region 3 with (go_at_call 172;refine QU p.out ?_;rintro e F ⟨rfl,z⟩)
 have q:Hid _:=q.out F (x.trans z)
 go_upto_region 4 with (go_at_call 212;refine QU q.out ?_;rintro e G ⟨rfl,B⟩)
 have r:Hid _:=(x.trans z).trans B
 by_cases y:0<=C
 ·have h:Hid (R=true):=by show _=_;rw[u.out];simp[y]
  go_wp2;go_ret;exact⟨aD h.out.symm,r.out⟩
 ·cases c
  ·have h:Hid (R=v):=by show _=_;rw[u.out];simp[y]
   go_wp2;go_ret;exact⟨aD h.out.symm,r.out⟩
  ·have h:Hid (R=true):=by show _=_;rw[u.out];simp
   go_wp2;go_ret;exact⟨aD h.out.symm,r.out⟩
def jW(T:List Tk)(S:List Sm)(x:ByteArray)(n:Nat)(con:Bool)(before:List ByteArray):Int :=
 if aJ before x=true then 13 else if(con&&jC T S x n)=true then 13 else if(!con&&(decide (0<=bE T S x n)||(eF T S x n||kZ T S x n)))=true then 13 else 0
theorem IU(g:Bool)(b:List ByteArray)(r:Option Addr)(K:Nat)(T:List Tk)(n:Option Addr)(z:Nat)(d:List Sm)(j:Option Addr)(x:Nat)(w:World)(A:fz w o T n z d j x)(i:il T d y)(O:ge w r b)(P:b.length<=1000000) :
  Calls prog 125 #[.pointer (some ⟨o,0,none⟩),.string S,.int .i64 y,.bool g,.slice r b.length K] w fun e u=>e=.returned (.int .i64 (jW T d S y g b))/\ab [] w u:=by
 have I:Hid _:=(j9 b r K S w O (by omega));have J:Hid _:=xq o y S T n z d j x w A i;have D:Hid (∀f,ab [] w f->Calls prog 171 #[.pointer (some ⟨o,0,none⟩),.string S,.int .i64 y] f fun e u=>e=.returned (.int .i64 (bE T d S y))/\ab [] f u):=fun f k=>oC o y S T n z d j x f (A.Vb k) i.m i.s i.a
 have E:Hid (∀f,ab [] w f->Calls prog 172 #[.pointer (some ⟨o,0,none⟩),.string S,.int .i64 y] f fun e u=>e=.returned (.bool (eF T d S y))/\ab [] f u):=fun f k=>tM o y S T n z d j x f (A.Vb k) i.m i.s i.t i.c
 have F:Hid (∀f,ab [] w f->Calls prog 173 #[.pointer (some ⟨o,0,none⟩),.string S,.int .i64 y] f fun e u=>e=.returned (.bool (kZ T d S y))/\ab [] f u):=fun f k=>AJ o y S T n z d j x f (A.Vb k) i.m i.s i.t i.v
 have q:Hid (jW T d S y g b=if aJ b S=true then 13 else if(g&&jC T d S y)=true then 13 else if(!g&&(decide (0<=bE T d S y)||(eF T d S y||kZ T d S y)))=true then 13 else 0):=rfl;generalize jW T d S y g b=R at *;generalize aJ b S=N at *;generalize jC T d S y=Q at *;generalize bE T d S y=l at *;generalize eF T d S y=c at *;generalize kZ T d S y=v at *;clear A;go_enter func125,ntmps125
 go_upto_region 2 with (go_at_call 93;refine QU I.out ?_;rintro e Y ⟨rfl,B⟩;rw[B];clear B)
 go_upto_region 3 with (go_at_call 170;refine QU J.out ?_;rintro e U ⟨rfl,C⟩)
 have D:Hid _:=D.out U C
 go_upto_region 4 with (go_at_call 171;refine QU D.out ?_;rintro e V ⟨rfl,G⟩)
 have E:Hid _:=E.out V (C.trans G)
 go_upto_region 5 with (go_at_call 172;refine QU E.out ?_;rintro e W ⟨rfl,H⟩)
 have F:Hid _:=F.out W ((C.trans G).trans H)
 go_upto_region 6 with (go_at_call 173;refine QU F.out ?_;rintro e X ⟨rfl,M⟩)
 have p:Hid _:=((C.trans G).trans H).trans M;clear I J D E F C G H M
 cases N
 ·cases g
  ·by_cases L:0<=l
   ·have h:Hid (R=13):=by show _=_;rw[q.out];simp[L]
    go_wp2;go_ret;exact⟨QN h.out.symm,p.out⟩
   ·cases c
    ·cases v
     ·have h:Hid (R=0):=by show _=_;rw[q.out];simp[L]
      go_wp2;go_ret;exact⟨QN h.out.symm,p.out⟩
     ·have h:Hid (R=13):=by show _=_;rw[q.out];simp
      go_wp2;go_ret;exact⟨QN h.out.symm,p.out⟩
    ·have h:Hid (R=13):=by show _=_;rw[q.out];simp
     go_wp2;go_ret;exact⟨QN h.out.symm,p.out⟩
  ·cases Q
   ·have h:Hid (R=0):=by show _=_;rw[q.out];simp
    go_wp2;go_ret;exact⟨QN h.out.symm,p.out⟩
   ·have h:Hid (R=13):=by show _=_;rw[q.out];simp
    go_wp2;go_ret;exact⟨QN h.out.symm,p.out⟩
 ·have h:Hid (R=13):=by show _=_;rw[q.out];simp
  go_wp2;go_ret;exact⟨QN h.out.symm,p.out⟩
def ip(key:ByteArray)(before:List ByteArray):Int :=
 if before.length=0 then 15 else if(((key.toList == [36,100])||(key.toList == [36,102]))&&decide (before.length<2))=true then 15 else if((key.toList == [36,112]) && !(aJ before ⟨#[36,61]⟩))=true then 23 else 0
theorem Bn(o:ge H D g)(r:g.length<=1000000) :
  Calls prog 124 #[.string n,.slice D g.length l] H fun e t=>e=.returned (.int .i64 (ip n g))/\t=H:=by
 have k:Hid _:=(j9 g D l ⟨#[36,61]⟩ H o (by omega));have c:Hid (ip n g=if g.length=0 then 15 else if(((n.toList == [36,100])||(n.toList == [36,102]))&&decide (g.length<2))=true then 15 else if((n.toList == [36,112]) && !(aJ g ⟨#[36,61]⟩))=true then 23 else 0):=rfl;generalize ip n g=R at *;generalize aJ g ⟨#[36,61]⟩=p at *;generalize g.length=b at *;clear o
 by_cases d:b=0
 ·have q:Hid (R=15):=by show _=_;rw[c.out,QW d]
  subst d;go_enter func124,ntmps124;go_wp2_with (go_at_call 93;refine QU k.out ?_;rintro e u ⟨rfl,a⟩;rw[a];clear a);go_ret;exact⟨QN q.out.symm,rfl⟩
 ·rw[QT d]at c
  have s:((b:Int)==0)=false:=by simpa using d
  go_enter func124,ntmps124
  go_upto_region 3 with (go_at_call 93;refine QU k.out ?_;rintro e u ⟨rfl,a⟩;rw[a];clear a)
  by_cases m:b<2
  ·have f:(b:Int)<2:=by omega
   cases h:(n.toList == [36,100]) <;> cases i:(n.toList == [36,102]) <;> cases j:(n.toList == [36,112]) <;> cases p
   all_goals
    go_wp2;go_ret;exact⟨QN (by rw[c.out];simp[m,h,i,j]),rfl⟩
  ·have f:¬(b:Int)<2:=by omega
   cases h:(n.toList == [36,100]) <;> cases i:(n.toList == [36,102]) <;> cases j:(n.toList == [36,112]) <;> cases p
   all_goals
    go_wp2;go_ret;exact⟨QN (by rw[c.out];simp[m,h,i,j]),rfl⟩
theorem Ag(M:S.size<=1073741824) :
  Calls prog 169 #[.string S] H fun e J=>e=.returned (.bool (gG S))/\J=H:=by
 go_enter func169,ntmps169;go_wp2
 go_loopg [3] S.size (fun g i wr=>∃k:Nat,k<=S.size/\g=S.size-k/\i=.int .i64 k/\Hid (∀i,i<k->jA (aF S i)=true)/\wr=H)
 case atStart=>exact⟨0,by omega,by omega,rfl,fun i h=>by omega,rfl⟩
 case round =>
  obtain⟨k,L,K,rfl,b,rfl⟩:=hrel
  by_cases m:k<S.size
  ·have p:Hid (jA (S[k].toNat:Int)=false->gG S=false):=fun x=>DF k m (by rw[bP S k m];exact x)
   have q:Hid (jA (S[k].toNat:Int)=true->∀i,i<k+1->jA (aF S i)=true):=fun x i C=>by
    by_cases e:i=k
    ·subst e;rw[bP S i m];exact x
    ·exact b.out i (by omega)
   have D:(k:Int)<(S.size:Int):=by omega
   go_upto_region 5 with fail
   obtain⟨c,z⟩:∃c:Int,(S[k].toNat:Int)=c:=⟨_,rfl⟩
   have B:Hid _:=z;clear z;rw[B.out]at p q ⊢
   go_cut [5] from 18 to 23 (fun E n=>E=.bool (decide (97<=c)&&decide (c<=122))/\n=wr)
   case first =>
    by_cases o:97<=c
    ·by_cases r:c<=122
     ·go_wp2_with fail
      go_meet
      case rel=>exact⟨by simp;omega,rfl⟩
     ·go_wp2_with fail
      go_meet
      case rel=>exact⟨by simp;omega,rfl⟩
    ·go_wp2_with fail
     go_meet
     case rel=>exact⟨by simp;omega,rfl⟩
   case rest =>
    obtain⟨rfl,a⟩:=hcut;subst a;obtain⟨s,d⟩:∃s,Hid ((decide (97<=c)&&decide (c<=122))=s):=⟨_,rfl⟩
    rw[d.out]
    go_upto_region 6 with fail
    go_cut [6] from 24 to 29 (fun F n=>F=.bool (decide (65<=c)&&decide (c<=90))/\n=wc)
    case first =>
     by_cases o:65<=c
     ·by_cases r:c<=90
      ·go_wp2_with fail
       go_meet
       case rel=>exact⟨by simp;omega,rfl⟩
      ·go_wp2_with fail
       go_meet
       case rel=>exact⟨by simp;omega,rfl⟩
     ·go_wp2_with fail
      go_meet
      case rel=>exact⟨by simp;omega,rfl⟩
    case rest =>
     obtain⟨rfl,a⟩:=hcut;subst a;obtain⟨t,f⟩:∃t,Hid ((decide (65<=c)&&decide (c<=90))=t):=⟨_,rfl⟩
     rw[f.out]
     go_upto_region 7 with fail
     go_cut [7] from 30 to 35 (fun G n=>G=.bool (decide (48<=c)&&decide (c<=57))/\n=wc)
     case first =>
      by_cases o:48<=c
      ·by_cases r:c<=57
       ·go_wp2_with fail
        go_meet
        case rel=>exact⟨by simp;omega,rfl⟩
       ·go_wp2_with fail
        go_meet
        case rel=>exact⟨by simp;omega,rfl⟩
      ·go_wp2_with fail
       go_meet
       case rel=>exact⟨by simp;omega,rfl⟩
     case rest =>
      obtain⟨rfl,a⟩:=hcut;subst a;obtain⟨u,j⟩:∃u,Hid ((decide (48<=c)&&decide (c<=57))=u):=⟨_,rfl⟩
      rw[j.out]
      go_upto_region 8 with fail
      go_cut [8] from 36 to 45 (fun I n=>I=.bool ((c==45)||(c==95)||(c==46))/\n=wc)
      case first =>
       cases o:(c==45)
       ·cases r:(c==95)
        ·go_wp2_with fail
         go_meet
         case rel=>exact⟨by rw[o,r];simp,rfl⟩
        ·go_wp2_with fail
         go_meet
         case rel=>exact⟨by rw[o,r];simp,rfl⟩
       ·go_wp2_with fail
        go_meet
        case rel=>exact⟨by rw[o];simp,rfl⟩
      case rest =>
       obtain⟨rfl,a⟩:=hcut;subst a;obtain⟨v,l⟩:∃v,Hid (((c==45)||(c==95)||(c==46))=v):=⟨_,rfl⟩
       rw[l.out];have y:Hid (jA c=(s||(t||(u||v)))):=by show _=_;rw[<-d.out,<-f.out,<-j.out,<-l.out];unfold jA;simp only[Bool.or_assoc]
       clear d f j l
       cases s <;> cases t <;> cases u <;> cases v
       ·have w:Hid _:=p.out (by rw[y.out];rfl)
        go_wp2;go_ret;exact⟨aD w.out.symm,rfl⟩
       all_goals
        have w:Hid _:=(q.out (by rw[y.out];rfl));go_wp2
        go_roundg (S.size-(k+1))
        case measure=>omega
        case rel=>exact⟨k+1,by omega,rfl,by go_num,w,rfl⟩
  ·have A:Hid (gG S=true):=zC (fun i C=>b.out i (by omega))
   go_wp2;go_ret;exact⟨aD A.out.symm,rfl⟩
def dw(T:List Tk)(S:List Sm)(x:ByteArray)(n:Nat):Int :=
 if((x.toList == [36,123])||((x.toList == [36,118])||(x.toList == [36,100])))=true then 0
 else if((x.toList == [36,125])&&(bb S n==0))=true then 9
 else if(x.toList == [36,125])=true then 0
 else if((x.toList == [36,99])&&decide (0<bb S n))=true then 10
 else if(x.toList == [36,99])=true then 0
 else if(aC x||aG x)=true then 11
 else if ii x ⟨#[36]⟩=true then 8
 else if gG x=false then 12
 else if jC T S x n=true then 13 else 0
theorem Ea(r:fz H L b M o w D l)(t:il b w f)(B:n.size<=1073741824) :
  Calls prog 121 #[.pointer (some ⟨L,0,none⟩),.string n,.int .i64 f] H fun e E=>e=.returned (.int .i64 (dw b w n f))/\ab [] H E:=by
 have u:Hid _:=DT L f b M o w D l H r t.m t.s;have v:Hid _:=xq L f n b M o w D l H r t
 have g:Hid (dw b w n f=if((n.toList == [36,123])||((n.toList == [36,118])||(n.toList == [36,100])))=true then 0
  else if((n.toList == [36,125])&&(bb w f==0))=true then 9
  else if(n.toList == [36,125])=true then 0
  else if((n.toList == [36,99])&&decide (0<bb w f))=true then 10
  else if(n.toList == [36,99])=true then 0
  else if(aC n||aG n)=true then 11
  else if ii n ⟨#[36]⟩=true then 8
  else if gG n=false then 12
  else if jC b w n f=true then 13 else 0):=rfl
 generalize dw b w n f=R at *;generalize bb w f=x at *;generalize jC b w n f=C at *;clear r;go_enter func121,ntmps121
 go_upto_region 5 with (first | (go_at_call 168;refine QU u.out ?_;rintro e q ⟨rfl,a⟩;rw[a];clear a) | (go_at_call 120;refine(fF n _ _ (by omega) (by show 1<=_;omega)).mono ?_;rintro e q ⟨rfl,a⟩;rw[a];clear a) | (go_at_call 169;refine(Ag n _ B).mono ?_;rintro e q ⟨rfl,a⟩;rw[a];clear a) | (go_at_call 170;refine QU v.out ?_;rintro e K ⟨rfl,A⟩))
 go_upto_region 7 with (first | (go_at_call 122;refine(fT n _).mono ?_;rintro e q ⟨rfl,a⟩;rw[a];clear a) | (go_at_call 123;refine(lJ n _).mono ?_;rintro e q ⟨rfl,a⟩;rw[a];clear a))
 have d:Hid _:=A;generalize aC n=F at *;generalize aG n=J at *;generalize ii n ⟨#[36]⟩=G at *;generalize gG n=I at *;clear u v A
 cases h:(n.toList == [36,123])
 ·cases i:(n.toList == [36,118])
  ·cases j:(n.toList == [36,100])
   ·cases k:(n.toList == [36,125])
    ·cases p:(n.toList == [36,99])
     ·cases F
      ·cases J
       ·cases G
        ·cases I
         ·have c:Hid (R=12):=by show _=_;rw[g.out];simp[h,i,j,k,p]
          go_wp2;go_ret;exact⟨QN c.out.symm,d.out⟩
         ·cases C
          ·have c:Hid (R=0):=by show _=_;rw[g.out];simp[h,i,j,k,p]
           go_wp2;go_ret;exact⟨QN c.out.symm,d.out⟩
          ·have c:Hid (R=13):=by show _=_;rw[g.out];simp[h,i,j,k,p]
           go_wp2;go_ret;exact⟨QN c.out.symm,d.out⟩
        ·have c:Hid (R=8):=by show _=_;rw[g.out];simp[h,i,j,k,p]
         go_wp2;go_ret;exact⟨QN c.out.symm,d.out⟩
       ·have c:Hid (R=11):=by show _=_;rw[g.out];simp[h,i,j,k,p]
        go_wp2;go_ret;exact⟨QN c.out.symm,d.out⟩
      ·have c:Hid (R=11):=by show _=_;rw[g.out];simp[h,i,j,k,p]
       go_wp2;go_ret;exact⟨QN c.out.symm,d.out⟩
     ·by_cases y:0<x
      ·have c:Hid (R=10):=by show _=_;rw[g.out];simp[h,i,j,k,p,y]
       go_wp2;go_ret;exact⟨QN c.out.symm,d.out⟩
      ·have c:Hid (R=0):=by show _=_;rw[g.out];simp[h,i,j,k,p,y]
       go_wp2;go_ret;exact⟨QN c.out.symm,d.out⟩
    ·cases z:(x==0)
     ·have c:Hid (R=0):=by show _=_;rw[g.out];simp[h,i,j,k,z]
      go_wp2;go_ret;exact⟨QN c.out.symm,d.out⟩
     ·have c:Hid (R=9):=by show _=_;rw[g.out];simp[h,i,j,k,z]
      go_wp2;go_ret;exact⟨QN c.out.symm,d.out⟩
   ·have c:Hid (R=0):=by show _=_;rw[g.out];simp[h,i,j]
    go_wp2;go_ret;exact⟨QN c.out.symm,d.out⟩
  ·have c:Hid (R=0):=by show _=_;rw[g.out];simp[h,i]
   go_wp2;go_ret;exact⟨QN c.out.symm,d.out⟩
 ·have c:Hid (R=0):=by show _=_;rw[g.out];simp[h]
  go_wp2;go_ret;exact⟨QN c.out.symm,d.out⟩
def tV(T:List Tk)(S:List Sm)(v:ByteArray)(n j:Nat):Bool:=((au S j).k.toList == [36,102])&&(((tS T ((au S j).h+1)).toList==v.toList)&&aV S j n)
def gg(T:List Tk)(S:List Sm)(v:ByteArray)(n:Nat):Int:=match (List.range n).find? (tV T S v n) with
 | some j=>j
 | none=>-1
theorem In(d:z1<v)(h:tV i k a v z1=true)(b:∀j,j<z1->tV i k a v j=false):gg i k a v=z1:=by
 have e:(List.range v).find? (tV i k a v)=some z1:=by
  rw[Sj];exact⟨h,Ra.2 d,fun j c=>by rw[b j c];rfl⟩
 unfold gg;rw[e]
theorem Li(b:∀j,j<v->tV i k a v j=false):gg i k a v=-1:=by
 have e:(List.range v).find? (tV i k a v)=none:=by
  rw[Sk];intro j c;rw[b j (Ra.1 c)];simp
 unfold gg;rw[e]
theorem Ik(R:fz H L b M o w D l)(K:il b w f)(W:∀j,j<f->((au w j).k.toList == [36,102])=true->(au w j).h+1<b.length) :
  Calls prog 174 #[.pointer (some ⟨L,0,none⟩),.string n,.int .i64 f] H fun e O=>e=.returned (.int .i64 (gg b w n f))/\ab [] H O:=by
 have P:Hid _:=R;have hn:=K.m;have V:=K.s;have hT:=K.t;clear R;go_enter func174,ntmps174;go_wp2
 go_loopg [7] f (fun g i wr=>∃k:Nat,k<=f/\g=f-k/\i=.int .i64 k/\Hid (∀j,j<k->tV b w n f j=false)/\Hid (ab [] H wr))
 case atStart=>exact⟨0,by omega,rfl,rfl,(fun j Z=>by omega),ab.refl _ _⟩
 case round =>
  obtain⟨k,hk,hg,rfl,A,z⟩:=hrel
  by_cases C:k<f
  ·have u:k<w.length:=by omega
   have q:Hid _:=fz.Vb P.out z.out;obtain⟨c0,c1,hb⟩:=q.out.cells;obtain⟨gs,rfl,Y,-,-,q2,q3⟩:=q.out.s.2 k w[k] (QP u);have ad:(k:Int)<(f:Int):=by omega
   have S:(k:Int)<(w.length:Int):=by omega
   have r:Hid (tV b w n f k=((w[k].k.toList == [36,102])&&(((tS b (w[k].h+1)).toList==n.toList)&&aV w k f))):=by show _=_;unfold tV;rw[bM w k u]
   have Q:Hid ((w[k].k.toList == [36,102])=true->w[k].h+1<b.length):=by have:=W k C;rw[<-bM w k u]at this;exact this
   have x:Hid (∀E,ab [] H E->Calls prog 92 #[.pointer (some ⟨L,0,none⟩),.int .i64 k,.int .i64 f] E fun e O=>e=.returned (.bool (aV w k f))/\O=E):=fun E kx=>lk L k f b M o w _ l E (fz.Vb P.out kx) (by omega) hn V
   generalize w[k]=s at *;obtain⟨sa,sz,d,sk⟩:=s;simp only at q2 q3 r Q;obtain⟨G,F⟩:∃G,Hid (aV w k f=G):=⟨_,rfl⟩
   rw[F.out]at r x
   cases B:(sk.toList == [36,102])
   ·have p:Hid _:=dU A.out (by rw[r.out,B];rfl)
    go_upto_region 4 with fail
    go_region
    all_goals
     have a:Hid _:=z.out.drew;go_wp2
     go_roundg (f-(k+1))
     case measure=>omega
     case rel=>exact⟨k+1,by omega,rfl,by go_num,p,a⟩
   ·have J:=Q.out B
    obtain⟨U,rfl,X,N,-⟩:=q.out.t.2 (d+1) _ (iw b (d+1) J);replace N:wr.cell? ⟨U,(d+1)*5,none⟩=some (.string (tS b (d+1))):=N;obtain⟨y,T⟩:∃y,Hid (tS b (d+1)=y):=⟨_,rfl⟩
    rw[T.out]at N r;have ag:(d:Int)+1<(b.length:Int):=by omega
    have al:IntKind.i64.wrap ((d:Int)+1)=(d:Int)+1:=by rw[R9];omega
    have ai:((d:Int)+1).toNat=d+1:=by omega
    have af:(0:Int)<=(d:Int)+1:=by omega
    cases I:(y.toList==n.toList)
    ·have p:Hid _:=dU A.out (by rw[r.out,B,I];rfl)
     go_upto_region 4 with fail
     go_region
     all_goals
      have a:Hid _:=z.out.drew;go_wp2
      go_roundg (f-(k+1))
      case measure=>omega
      case rel=>exact⟨k+1,by omega,rfl,by go_num,p,a⟩
    ·go_upto_region 4 with fail
     go_region
     all_goals
      have a:Hid _:=z.out.drew;have v:Hid _:=x.out wr.drew a.out
     cases G
     ·have p:Hid _:=dU A.out (by rw[r.out,B,I];rfl)
      go_wp2_with (go_at_call 92;refine QU v.out ?_;rintro e w9 ⟨rfl,c⟩;rw[c];clear c)
      go_roundg (f-(k+1))
      case measure=>omega
      case rel=>exact⟨k+1,by omega,rfl,by go_num,p,a⟩
     ·have p:Hid (gg b w n f=k):=In C (by rw[r.out,B,I];rfl) A.out
      go_wp2_with (go_at_call 92;refine QU v.out ?_;rintro e w9 ⟨rfl,c⟩;rw[c];clear c);go_ret;exact⟨QN p.out.symm,a.out⟩
  ·have p:Hid (gg b w n f=-1):=Li (fun j Z=>A.out j (by omega))
   go_wp2;go_ret;exact⟨QN p.out.symm,z.out⟩
def l8(T:List Tk)(S:List Sm)(n:Nat):Prop:=∀j,j<n->((au S j).k.toList == [36,102])=true->(au S j).h+1<T.length
def jm(T:List Tk)(S:List Sm)(key x:ByteArray)(n:Nat)(before:List ByteArray):Int :=
 if(key.toList == [36,100])=true then(if kZ T S x n=false then 18 else if aJ before x=true then 19 else 0)
 else if(before.length==0)=true then(if eF T S x n=false then 17 else 0)
 else if(key.toList == [36,102])=true then(if 1<before.length then 16 else if kZ T S x n=false then 18 else if 0<=gg T S x n then 20 else 0)
 else if eF T S x n=true then 0 else if kZ T S x n=false then 21 else if gg T S x n<0 then 22 else 0
theorem Fn(T:List Tk)(u:Option Addr)(J:Nat)(S:List Sm)(r:Option Addr)(I:Nat)(w:World)(M:fz w L T u J S r I)(x:il T S f)(hf:l8 T S f)(W:ge w D g)(ac:g.length<=1000000) :
  Calls prog 126 #[.pointer (some ⟨L,0,none⟩),.string z2,.string n,.int .i64 f,.slice D g.length l] w fun e B=>e=.returned (.int .i64 (jm T S z2 n f g))/\ab [] w B:=by
 have U:Hid _:=tM L f n T u J S r I w M x.m x.s x.t x.c;have F:Hid (∀d,ab [] w d->Calls prog 173 #[.pointer (some ⟨L,0,none⟩),.string n,.int .i64 f] d fun e B=>e=.returned (.bool (kZ T S n f))/\ab [] d B):=fun d k=>AJ L f n T u J S r I d (M.Vb k) x.m x.s x.t x.v
 have G:Hid (∀d,ab [] w d->Calls prog 174 #[.pointer (some ⟨L,0,none⟩),.string n,.int .i64 f] d fun e B=>e=.returned (.int .i64 (gg T S n f))/\ab [] d B):=fun d k=>Ik L f n T u J S r I d (M.Vb k) x hf
 have H:Hid (∀d,ab [] w d->Calls prog 93 #[.slice D g.length l,.string n] d fun e B=>e=.returned (.bool (aJ g n))/\B=d):=fun d k=>j9 g D l n d (fun i y hy=>by
  obtain⟨V,e,X,c⟩:=W i y hy;exact⟨V,e,QX X k.size,by rw[Q6 (k.block V X (by simp))];exact c⟩) (by omega)
 have j:Hid (jm T S z2 n f g=if(z2.toList == [36,100])=true then(if kZ T S n f=false then 18 else if aJ g n=true then 19 else 0)
  else if(g.length==0)=true then(if eF T S n f=false then 17 else 0)
  else if(z2.toList == [36,102])=true then(if 1<g.length then 16 else if kZ T S n f=false then 18 else if 0<=gg T S n f then 20 else 0)
  else if eF T S n f=true then 0 else if kZ T S n f=false then 21 else if gg T S n f<0 then 22 else 0):=rfl
 generalize jm T S z2 n f g=R at *;generalize aJ g n=Z at *;generalize gg T S n f=C at *;generalize eF T S n f=c at *;generalize kZ T S n f=v at *;generalize g.length=p at *;clear M W;go_enter func126,ntmps126
 go_upto_region 3 with (go_at_call 172;refine QU U.out ?_;rintro e w3 ⟨rfl,N⟩)
 have F:Hid _:=F.out w3 N
 go_upto_region 4 with (go_at_call 173;refine QU F.out ?_;rintro e w4 ⟨rfl,Q⟩)
 have G:Hid _:=G.out w4 (N.trans Q)
 go_upto_region 5 with (go_at_call 174;refine QU G.out ?_;rintro e w5 ⟨rfl,Y⟩)
 have h:Hid _:=(N.trans Q).trans Y;have H:Hid _:=H.out w5 h.out
 go_upto_region 6 with (go_at_call 93;refine QU H.out ?_;rintro e w9 ⟨rfl,E⟩;rw[E];clear E)
 clear U F G H N Q Y
 cases o:(z2.toList == [36,100])
 ·by_cases q:p=0
  ·have P:((p:Int)==0)=true:=by simpa using q
   cases c
   ·have a:Hid (R=17):=by show _=_;rw[j.out];simp[o,q]
    go_wp2;go_ret;exact⟨QN a.out.symm,h.out⟩
   ·have a:Hid (R=0):=by show _=_;rw[j.out];simp[o,q]
    go_wp2;go_ret;exact⟨QN a.out.symm,h.out⟩
  ·have P:((p:Int)==0)=false:=by simpa using q
   cases z:(z2.toList == [36,102])
   ·cases c
    ·cases v
     ·have a:Hid (R=21):=by show _=_;rw[j.out];simp[o,q,z]
      go_wp2;go_ret;exact⟨QN a.out.symm,h.out⟩
     ·by_cases b:C<0
      ·have A:C<0:=b
       have a:Hid (R=22):=by show _=_;rw[j.out];simp[o,q,z,b]
       go_wp2;go_ret;exact⟨QN a.out.symm,h.out⟩
      ·have A:¬C<0:=b
       have a:Hid (R=0):=by show _=_;rw[j.out];simp[o,q,z,b]
       go_wp2;go_ret;exact⟨QN a.out.symm,h.out⟩
    ·have a:Hid (R=0):=by show _=_;rw[j.out];simp[o,q,z]
     go_wp2;go_ret;exact⟨QN a.out.symm,h.out⟩
   ·by_cases K:1<p
    ·have O:(1:Int)<(p:Int):=by omega
     have a:Hid (R=16):=by show _=_;rw[j.out];simp[o,q,z,K]
     go_wp2;go_ret;exact⟨QN a.out.symm,h.out⟩
    ·have O:¬(1:Int)<(p:Int):=by omega
     cases v
     ·have a:Hid (R=18):=by show _=_;rw[j.out];simp[o,q,z,K]
      go_wp2;go_ret;exact⟨QN a.out.symm,h.out⟩
     ·by_cases b:0<=C
      ·have A:0<=C:=b
       have a:Hid (R=20):=by show _=_;rw[j.out];simp[o,q,z,K,b]
       go_wp2;go_ret;exact⟨QN a.out.symm,h.out⟩
      ·have A:¬0<=C:=b
       have a:Hid (R=0):=by show _=_;rw[j.out];simp[o,q,z,K,b]
       go_wp2;go_ret;exact⟨QN a.out.symm,h.out⟩
 ·cases v
  ·have a:Hid (R=18):=by show _=_;rw[j.out];simp[o]
   go_wp2;go_ret;exact⟨QN a.out.symm,h.out⟩
  ·cases Z
   ·have a:Hid (R=0):=by show _=_;rw[j.out];simp[o]
    go_wp2;go_ret;exact⟨QN a.out.symm,h.out⟩
   ·have a:Hid (R=19):=by show _=_;rw[j.out];simp[o]
    go_wp2;go_ret;exact⟨QN a.out.symm,h.out⟩
def Fg(s:Sm):List Value:=[.int .i64 s.a,.int .i64 s.z,.int .i64 s.h,.string s.k]
def PG(L:List Sm):List Value:=L.flatMap Fg
def tj(L:List Sm):dN:=⟨145,4,L.length,PG L⟩
theorem Pt(L:List Sm)(j:Nat)(t:Sm)(h:L[j]?=some t)(c:Nat)(d:c<4):(PG L)[j*4+c]?=(Fg t)[c]?:=by
 induction L generalizing j with
 | nil=>cases h
 | cons a L b =>
  have e:PG (a :: L)=Fg a++PG L:=rfl
  cases j with
  | zero =>
   simp at h;subst h;rw[e,Q7 (by simp[Fg];omega)];simp
  | succ j =>
   rw[e,Q5 (by simp[Fg];omega),show(j+1)*4+c-(Fg a).length=j*4+c by simp[Fg];omega];exact b j (by simpa using h)
theorem JD:(⟨(tj w).e,(tj w).size,(tj w).n+1,(tj w).xs++Fg zb⟩:dN)=tj (w++[zb]):=by
 simp[tj,PG]
theorem aw.srcS(o:aw x I (tj k)):A6 x I.ao I.cap k:=by
 refine⟨?_,fun a t f=>?_⟩
 ·rcases o.Vm with ⟨e,d,_⟩ | ⟨g,h,n,p,i,-⟩
  ·have d:k.length=0:=d
   omega
  ·exact i
 ·have q:=(Q8.1 f).1
  obtain⟨g,b,l,-⟩:=qq o (show 0<k.length by omega);have e:∀c,c<4->∀u,(Fg t)[c]?=some u->x.cell? ⟨g,a*4+c,none⟩=some u:=fun c j u m=>o.cell b (a*4+c) u (by show(PG k)[a*4+c]?=some u;rw[Pt k a t f c j];exact m)
  exact⟨g,b,l,e 0 (by omega) _ rfl,e 1 (by omega) _ rfl,e 2 (by omega) _ rfl,e 3 (by omega) _ rfl⟩
theorem O0:(prog.info? 145).map (fun i=>(i.zero,i.size,i.bytes))=some (some (.agg #[.int .i64 0,.int .i64 0,.int .i64 0,.string ⟨#[]⟩]),4,40):=by kernel_rfl
theorem uw(r:y0.guard=none)(s x:Operand)(g:y0.op=Op.call { callee:=Callee.builtin Builtin.append,args:=#[s,x],argTypes:=#[139,139] })(h:Hd)(L:List Sm)(t:Sm)(z:y1.eval s=.slice h.ao L.length h.cap)(c:aw H h (tj L))(D:L.length<=1000000)(A:y1.eval x=.slice (some ⟨H.heap.size,0,none⟩) 1 1)(q:∀e m,aw m e (tj (L++[t]))->bt H m h e->wpList prog y3 y5 y4 (y1.put y0.dst (.slice e.ao (L.length+1) e.cap)) m) :
  wpList prog y3 y5 (y0 :: y4) y1 (H.alloc (.cells (Fg t).toArray 145)):=by
 obtain⟨B,v,i,k,l⟩:=Re O0;have o:ab [] H (H.alloc (.cells (Fg t).toArray 145)):=(ab.refl [] _).alloc _;have y:(H.alloc (.cells (Fg t).toArray 145)).heap[H.heap.size]?=some (.cells (Fg t).toArray 145 (0,0)):=QS _ _;refine aM _ r s x 139 g B (.agg #[.int .i64 0,.int .i64 0,.int .i64 0,.string ⟨#[]⟩]) 40 h (tj L) underlying139 v i k l rfl (show 0<4 by omega) z (c.Vb o) ⟨H.heap.size,0,none⟩ 1 1 (Fg t) A rfl ?_ ?_ Rc (by simp only[tj];unfold maxLen;omega) (by simp only[tj];omega) ?_
 ·intro j u w
  rw[bL,aa y];simpa using w
 ·intro u n
  simp only[Fg,List.mem_cons,List.not_mem_nil,or_false]at n
  rcases n with rfl | rfl | rfl | rfl <;> rfl
 ·intro p a C d b f
  rw[JD]at d;exact q ⟨some ⟨p,0,none⟩,a⟩ C d ((bt.Vb o).trans (bt.made b f))
def eO(T:List Tk):Nat->List Sm×Nat
 | 0=>([],0)
 | i+1=>if bS (tS T i)=true then((eO T i).1++[⟨(eO T i).2,i+1,(ew T (eO T i).2).2,(ew T (eO T i).2).1⟩],i+1) else eO T i
def aj(T:List Tk):List Sm:=(eO T T.length).1
theorem LK(i:Nat):(eO b i).2<=i:=by
 induction i with
 | zero=>exact QR _
 | succ i a =>
  rw[eO]
  split
  ·exact QR _
  ·omega
theorem oG(i:Nat):(eO b i).1.length<=i:=by
 induction i with
 | zero=>exact QR _
 | succ i a =>
  rw[eO]
  split
  ·simp;omega
  ·omega
structure PT(w wr:World)(T:List Tk)(aoT:Option Addr)(cT:Nat)(S:List Sm)(h:Hd):Prop where
 d:wr.heap[w.heap.size]?=some (.cells #[.slice aoT T.length cT,.slice h.ao S.length h.cap] 141 (0,0))
 own:aw wr h (tj S)
 far:∀k,h.blk=some k->w.heap.size<k
 kept:ab [] w wr
theorem PT.add{j:List Sm}(a:PT x d i z6 v k I)(o:aw N z0 (tj j))(g:bt d N I z0):PT x (N.setCell ⟨x.heap.size,1,none⟩ (.slice z0.ao j.length z0.cap)) i z6 v j z0:=by
 have p:=ae a.d;have l:=g.kept.get a.d (fun c=>by have:=a.far _ (aN c);omega)
 have b:∀f,z0.blk=some f->x.heap.size<f:=fun f h=>by
  rcases g.blk with e | ⟨q,e,c⟩
  ·exact a.far f (by rw[<-e];exact h)
  ·rw[e]at h;cases h;omega
 have n:ab [x.heap.size] N (N.setCell ⟨x.heap.size,1,none⟩ (.slice z0.ao j.length z0.cap)):=(ab.refl _ _).setCell (Q1 (by simp)) _;have m:ab [] x N:=⟨g.kept.os.trans a.kept.os,g.kept.tape.trans a.kept.tape,g.kept.output.trans a.kept.output,Q3 a.kept.size g.kept.size,fun f h _=>by rw[g.kept.block f (QX h a.kept.size) (fun c=>by have:=a.far _ (aN c);omega),a.kept.block f h (by simp)]⟩;exact⟨by rw[ah l];rfl,o.Vg (fun q c=>n.block q (o.lt c) (by simp;have:=b q c;omega)),b,m.setCell (QV (by simp)) _⟩
theorem LJ(B:lj H D l b)(hl:b.length<=100000)(hs:∀i,(tS b i).size<=1073741824) :
  Calls prog 55 #[.slice D b.length l] H fun e K=>e=.returned (.pointer (some ⟨H.heap.size,0,none⟩))/\∃r W,fz K H.heap.size b D l (aj b) r W/\ab [] H K/\∀g,r=some ⟨g,0,none⟩->H.heap.size<=g/\g<K.heap.size:=by
 have V:Hid (PT H (H.alloc (.cells #[.slice D b.length l,.slice none 0 0] 141)) b D l [] ⟨none,0⟩):=⟨QS _ _,QZ _ _ _ _,(by intro k Q;cases Q),(ab.refl [] _).alloc _⟩;have N:Hid _:=B;have P:=B.1;clear B;go_enter func55,ntmps55;go_wp2
 go_loopg [4,5] b.length (fun g f i wr=>∃(k j:Nat) (S:List Sm) (h:Hd),k<=b.length/\g=b.length-k/\f=.int .i64 j/\i=.int .i64 k/\(j<=k/\S.length<=k)/\Hid (eO b k=(S,j))/\Hid (PT H wr b D l S h))
 case atStart=>exact⟨0,0,[],⟨none,0⟩,by omega,rfl,rfl,rfl,⟨by omega,by simp⟩,rfl,V⟩
 case round =>
  obtain⟨k,j,S,h,Q,hg,rfl,rfl,⟨hf,Z⟩,M,c⟩:=hrel
  by_cases E:k<b.length
  ·have q:Hid _:=lj.Vb N.out c.out.kept
   obtain⟨z,rfl,ac,J,-⟩:=q.out.2 k _ (iw b k E);replace J:wr.cell? ⟨z,k*5,none⟩=some (.string (tS b k)):=J;have ad:(k:Int)<(b.length:Int):=by omega
   have o:Hid (eO b (k+1)=if bS (tS b k)=true then(S++[⟨j,k+1,(ew b j).2,(ew b j).1⟩],k+1) else(S,j)):=by show _=_;rw[eO,M.out]
   obtain⟨x,U⟩:∃x,Hid (tS b k=x):=⟨_,rfl⟩
   rw[U.out]at J o;have u:Hid (fz wr H.heap.size b (some ⟨z,0,none⟩) l S h.ao h.cap):=⟨c.out.d,q.out,c.out.own.srcS⟩;have p:Hid _:=(Gq H.heap.size j b (some ⟨z,0,none⟩) l S h.ao h.cap wr u.out (by omega) hl hs);obtain⟨I,w⟩:∃I,Hid (ew b j=I):=⟨_,rfl⟩
   rw[w.out]at p o;obtain⟨G,F⟩:=I;have c1:wr.cell? ⟨H.heap.size,1,none⟩=some (.slice h.ao S.length h.cap):=by rw[aa c.out.d];rfl
   have hz:=ae c.out.d;have A:=c.out.own;obtain⟨y,m⟩:∃y,Hid (bS x=y):=⟨_,rfl⟩
   rw[m.out]at o
   cases y
   ·have v:Hid (eO b (k+1)=(S,j)):=by show _=_;rw[o.out,QT (by simp)]
    go_wp2_with (go_at_call 84;refine(tR x _).mono ?_;rintro e R ⟨rfl,a⟩;rw[a,m.out];clear a)
    go_roundg (b.length-(k+1))
    case measure=>omega
    case rel=>exact⟨k+1,j,S,h,by omega,rfl,rfl,by go_num,⟨by omega,by omega⟩,v,c⟩
   ·have v:Hid (eO b (k+1)=(S++[⟨j,k+1,F,G⟩],k+1)):=by show _=_;rw[o.out,QW rfl]
    have C:((k+1:Nat):Int)=(k:Int)+1:=by omega
    go_upto_region 9 with (first | (go_at_call 84;refine(tR x _).mono ?_;rintro e R ⟨rfl,a⟩;rw[a,m.out];clear a) | (go_at_call 85;refine QU p.out ?_;rintro e R ⟨rfl,a⟩;rw[a];clear a))
    go_wp2_with (at_builtin;rw[<-C];refine uw _ rfl (.tmp 35) (.tmp 42) rfl h S ⟨j,k+1,F,G⟩ rfl A (by omega) rfl ?_;intro Y w5 s n;have L:Hid _:=c.out.add s n;have t:=n.kept.get c.out.d (fun hq=>by have:=c.out.far _ (aN hq);omega);have f5:=am t 1;have e5:w5.cell? ⟨H.heap.size,1,none⟩=some (.slice h.ao S.length h.cap):=(by rw[aa t];rfl);have z5:=ae t;clear s n t);rw[Q0]at L
    go_roundg (b.length-(k+1))
    case measure=>omega
    case rel=>exact⟨k+1,k+1,S++[⟨j,k+1,F,G⟩],Y,by omega,rfl,by go_num,by go_num,⟨by omega,by simp;omega⟩,v,L⟩
  ·have e:k=b.length:=by omega
   subst e;have T:Hid (aj b=S):=by show _=_;unfold aj;rw[M.out]
   go_wp2;go_ret;exact⟨rfl,h.ao,h.cap,by rw[T.out];exact⟨c.out.d,lj.Vb N.out c.out.kept,c.out.own.srcS⟩,c.out.kept,fun g X=>have O:h.blk=some g:=(by unfold Hd.blk;rw[X];rfl);⟨RM (c.out.far g O),c.out.own.lt O⟩⟩
def nt(i:Nat):List Sm->Nat
 | []=>0
 | s :: r=>if s.z<=i then nt i r+1 else 0
def i8(S:List Sm)(i:Nat):Nat:=nt i S
def kz(S:List Sm)(n:Nat):Nat:=if 0<n then(au S (n-1)).z else 0
def fa(T:List Tk)(h i:Nat):List ByteArray:=((T.drop h).take (i-h)).map (·.s)
theorem Be(f:y<=l)(c:l<b.length):fa b y (l+1)=fa b y l++[tS b l]:=by
 unfold fa;have e:l+1-y=(l-y)+1:=by omega
 have d:l-y<(b.drop y).length:=by rw[RT];omega
 rw[e,RG d,Ry];have a:(b.drop y)[l-y]=b[l]:=by rw[TI];congr 1;omega
 rw[a];unfold tS;rw[QQ,QP c];rfl
theorem OQ(S:List Sm):nt l S<=S.length:=by
 induction S with
 | nil=>exact QR _
 | cons s r a=>rw[nt];split <;> simp;omega
theorem Bo(S:List Sm)(j:Nat)(h:j<nt l S):∃s,S[j]?=some s/\s.z<=l:=by
 induction S generalizing j with
 | nil=>simp[nt]at h
 | cons s r a =>
  rw[nt]at h
  split at h
  ·cases j with
   | zero=>exact⟨s,rfl,by assumption⟩
   | succ j=>exact a j (by omega)
  ·omega
theorem KM:kz w (i8 w l)<=l:=by
 unfold kz
 split
 ·next h =>
  obtain⟨s,a,b⟩:=Bo l w (i8 w l-1) (by unfold i8 at h ⊢;omega);unfold au;rw[QQ,a];exact b
 ·omega
def lW(T:List Tk)(S:List Sm)(key x:ByteArray)(n:Nat)(before:List ByteArray):Int :=
 if(x.toList == [36,46])=true then ip key before
 else if((x.toList == [36,61])&&((key.toList == [36,112]) && !(aJ before ⟨#[36,61]⟩)))=true then(if before.length=0 then 15 else 0)
 else if ii x ⟨#[36]⟩=true then 8
 else if aJ before ⟨#[36,61]⟩=true then 0
 else if((key.toList == [36,99])||(key.toList == [36,118]))=true then jW T S x n (key.toList == [36,99]) before
 else jm T S key x n before
def bh(T:List Tk)(S:List Sm)(i:Nat):Int :=
 if i=kz S (i8 S i) then dw T S (tS T i) (i8 S i)
 else if i<(ew T (kz S (i8 S i))).2 then(if(aC (tS T i)||aG (tS T i))=true then 0 else 14)
 else lW T S (ew T (kz S (i8 S i))).1 (tS T i) (i8 S i) (fa T (ew T (kz S (i8 S i))).2 i)
theorem Bj(Y:fz H f b M o w D l)(hi:T<b.length)(V:il b w (i8 w T))(hf:l8 b w (i8 w T))(hs:∀T,(tS b T).size<=1073741824) :
  Calls prog 86 #[.pointer (some ⟨f,0,none⟩),.int .i64 T] H fun e w'=>e=.returned (.int .i64 (bh b w T))/\ab [] H w':=by
 have HD:Hid _:=Y;have hT:=V.t;have b6:=V.s;obtain⟨c0,c1,hb⟩:=Y.cells;obtain⟨X,rfl,cc,t0,-⟩:=Y.t.2 T _ (iw b T hi);replace t0:H.cell? ⟨X,T*5,none⟩=some (.string (tS b T)):=t0;have ch:(T:Int)<(b.length:Int):=by omega
 have E:Hid _:=Ea f (i8 w T) (tS b T) b (some ⟨X,0,none⟩) o w D l H Y V (hs T);have ag:=KM w T;have p:Hid _:=Gq f (kz w (i8 w T)) b (some ⟨X,0,none⟩) o w D l H Y (by omega) hT hs
 have c:Hid (bh b w T=if T=kz w (i8 w T) then dw b w (tS b T) (i8 w T)
  else if T<(ew b (kz w (i8 w T))).2 then(if(aC (tS b T)||aG (tS b T))=true then 0 else 14)
  else lW b w (ew b (kz w (i8 w T))).1 (tS b T) (i8 w T) (fa b (ew b (kz w (i8 w T))).2 T)):=rfl
 have br:=hs T;have HB:Hid (kz w (i8 w T)=if 0<i8 w T then(au w (i8 w T-1)).z else 0):=rfl;obtain⟨x,Hx⟩:∃x,Hid (tS b T=x):=⟨_,rfl⟩
 rw[Hx.out]at t0 E c br;obtain⟨n,Hn⟩:∃n,Hid (i8 w T=n):=⟨_,rfl⟩
 have a1:Hid (n=nt T w):=Hn.out.symm;rw[Hn.out]at E p c HB ag V hf;obtain⟨L,a7⟩:∃L,Hid (kz w n=L):=⟨_,rfl⟩
 rw[a7.out]at p c HB ag;obtain⟨kw,ba⟩:∃kw,Hid (ew b L=kw):=⟨_,rfl⟩
 rw[ba.out]at p c;obtain⟨j,I⟩:=kw;simp only at p c;have cl:n<=w.length:=V.m;clear Y;go_enter func86,ntmps86;go_wp2
 go_loopg [5] w.length (fun g bv wr=>∃k:Nat,k<=w.length/\g=w.length-k/\bv=.int .i64 k/\Hid (k+nt T (w.drop k)=n)/\wr=H)
 case atStart=>exact⟨0,by omega,rfl,rfl,by show _=_;rw[U0,SJ];exact a1.out.symm,rfl⟩
 case round =>
  obtain⟨k,hk,hg,rfl,HC,rfl⟩:=hrel
  obtain⟨u,ac,a5,ad⟩:∃u:Bool,Hid (∀h:k<w.length,w[k].z<=T->u=true)/\Hid (u=true->k<w.length/\k+1+nt T (w.drop (k+1))=n)/\Hid ((∀h:k<w.length,¬w[k].z<=T)->u=false):=by
   by_cases d:k<w.length
   ·have v:=HC.out
    rw[Rf d,nt]at v;refine⟨decide (w[k].z<=T),fun h S=>by simpa using S,fun h=>⟨d,?_⟩,fun h=>by simpa using h d⟩;rw[QW (by simpa using h)]at v;omega
   ·exact⟨false,(fun h=>absurd h d),(fun h=>by cases h),(fun _=>rfl)⟩
  have a6:Hid (u=false->k=n):=fun h=>by
   have v:=HC.out
   by_cases d:k<w.length
   ·rw[Rf d,nt]at v
    by_cases S:w[k].z<=T
    ·have:=ac.out d S;rw[h]at this;cases this
    ·rw[QT S]at v;omega
   ·rw[Tz (by omega),nt]at v;omega
  go_upto_region 2 with fail
  go_cut [34] from 16 to 34 (fun bw wd=>bw=.bool u/\wd=wr)
  case first =>
   by_cases d:k<w.length
   ·obtain⟨gs,rfl,bk,-,q1,-⟩:=HD.out.s.2 k w[k] (QP d)
    have ax:(k:Int)<(w.length:Int):=by omega
    by_cases S:w[k].z<=T
    ·have bs:(w[k].z:Int)<=(T:Int):=by omega
     have HV:Hid _:=ac.out d S;go_wp2_with fail
     go_meet
     case rel=>exact⟨by rw[HV.out],rfl⟩
    ·have bs:¬(w[k].z:Int)<=(T:Int):=by omega
     have HV:Hid _:=(ad.out (fun _=>S));go_wp2_with fail
     go_meet
     case rel=>exact⟨by rw[HV.out],rfl⟩
   ·have ax:¬(k:Int)<(w.length:Int):=by omega
    have HV:Hid _:=(ad.out (fun h=>absurd h d));go_wp2_with fail
    go_meet
    case rel=>exact⟨by rw[HV.out],rfl⟩
  case rest =>
   obtain⟨rfl,C⟩:=hcut;subst C
   cases u
   ·have bl:=a6.out rfl
    subst bl;go_upto_if 38 with fail
    go_cut [6] from 37 to 47 (fun s6 wd=>s6=.int .i64 L/\wd=wc)
    case first =>
     by_cases ap:0<k
     ·have ar:k-1<w.length:=by omega
      obtain⟨gs,rfl,bk,-,q1,-⟩:=HD.out.s.2 (k-1) w[k-1] (QP ar);have P:Hid (w[k-1].z=L):=by show _=_;rw[HB.out,QW ap,bM w (k-1) ar]
      rw[P.out]at q1;have cp:IntKind.i64.wrap ((k:Int)-1)=(k:Int)-1:=by rw[R9];omega
      have co:((k:Int)-1).toNat=k-1:=by omega
      have b1:(0:Int)<=(k:Int)-1:=by omega
      have b2:(k:Int)-1<(w.length:Int):=by omega
      have b3:(1:Int)<=(k:Int):=by omega
      have b4:(0:Int)<(k:Int):=by omega
      go_wp2_with fail
      go_meet
      case rel=>exact⟨rfl,rfl⟩
     ·have P:Hid (L=0):=by show _=_;rw[HB.out,QT ap]
      have b4:¬(0:Int)<(k:Int):=by omega
      go_wp2_with fail
      go_meet
      case rel=>exact⟨by rw[P.out];rfl,rfl⟩
    case rest =>
     obtain⟨rfl,C⟩:=hcut;subst C
     by_cases R:T=L
     ·have i:Hid (bh b w T=dw b w x k):=by show _=_;rw[c.out,QW R]
      subst R;clear p;go_wp2_with (go_at_call 121;refine QU E.out ?_;rintro e J ⟨rfl,U⟩);go_ret;exact⟨QN i.out.symm,U⟩
     ·rw[QT R]at c
      have bx:((T:Int)==(L:Int))=false:=by simp;omega
      go_upto_region 11 with (go_at_call 85;refine QU p.out ?_;rintro e J ⟨rfl,a⟩;rw[a];clear a)
      by_cases al:T<I
      ·rw[QW al]at c
       have an:(T:Int)<(I:Int):=by omega
       go_upto_region 14 with (first | (go_at_call 122;refine(fT x _).mono ?_;rintro e J ⟨rfl,a⟩;rw[a];clear a) | (go_at_call 123;refine(lJ x _).mono ?_;rintro e J ⟨rfl,a⟩;rw[a];clear a))
       obtain⟨ya,bd⟩:∃ya,Hid (aC x=ya):=⟨_,rfl⟩
       obtain⟨yu,be⟩:∃yu,Hid (aG x=yu):=⟨_,rfl⟩
       rw[bd.out,be.out]at c ⊢
       cases ya
       ·cases yu
        ·have i:Hid (bh b w T=14):=by show _=_;rw[c.out];rfl
         go_wp2;go_ret;exact⟨QN i.out.symm,ab.refl _ _⟩
        ·have i:Hid (bh b w T=0):=by show _=_;rw[c.out];rfl
         go_wp2;go_ret;exact⟨QN i.out.symm,ab.refl _ _⟩
       ·have i:Hid (bh b w T=0):=by show _=_;rw[c.out];rfl
        go_wp2;go_ret;exact⟨QN i.out.symm,ab.refl _ _⟩
      ·rw[QT al]at c
       have an:¬(T:Int)<(I:Int):=by omega
       have HX:Hid _:=vj.nil wc;clear E p c1;go_wp2
       go_loopg [12,13] (T-I) (fun g bv q wr=>∃(m:Nat) (r:Hd) (O:List ByteArray),(I<=m/\m<=T)/\g=T-m/\bv=.slice r.ao O.length r.cap/\q=.int .i64 m/\O.length<=m/\Hid (O=fa b I m)/\Hid (vj wc wr r O))
       case atStart=>exact⟨I,⟨none,0⟩,[],⟨by omega,by omega⟩,rfl,rfl,rfl,by simp,by show _=_;unfold fa;rw[RY];rfl,HX⟩
       case round =>
        obtain⟨m,r,O,⟨bo,cj⟩,cb,rfl,rfl,b5,HO,W⟩:=hrel;have A:Hid _:=fz.Vb HD.out W.out.kept;obtain⟨d0,-,ca⟩:=A.out.cells
        by_cases ck:m<T
        ·have az:m<b.length:=by omega
         obtain⟨b0,e5,cf,q0,-⟩:=A.out.t.2 m _ (iw b m az)
         cases e5
         replace q0:wr.cell? ⟨X,m*5,none⟩=some (.string (tS b m)):=q0;have bz:(m:Int)<(T:Int):=by omega
         have bT:(m:Int)<(b.length:Int):=by omega
         have a3:Hid (O++[tS b m]=fa b I (m+1)):=by show _=_;rw[Be b I m bo az,HO.out]
         generalize tS b m=y at *;have bj:=W.out.own;go_wp2_with (at_builtin;refine pq _ rfl (.tmp 86) (.tmp 95) rfl r O y rfl bj (by omega) rfl ?_;intro h5 w5 aS ai;have a2:Hid _:=W.out.Vl ai aS;clear aS ai)
         go_roundg (T-(m+1))
         case measure=>omega
         case rel=>exact⟨m+1,h5,O++[y],⟨by omega,by omega⟩,rfl,by simp,by go_num,by simp;omega,a3,a2⟩
        ·have bf:m=T:=by omega
         subst bf;rw[<-HO.out]at c;have B:=W.out.own.srcX;have K:Hid _:=W.out.kept;have N:Hid _:=(j9 O r.ao r.cap ⟨#[36,61]⟩ wr B (by omega));have a0:Hid _:=(Bn j O r.ao r.cap wr B (by omega));have Z:Hid (∀G,Calls prog 125 #[.pointer (some ⟨f,0,none⟩),.string x,.int .i64 k,.bool G,.slice r.ao O.length r.cap] wr fun e w'=>e=.returned (.int .i64 (jW b w x k G O))/\ab [] wr w'):=fun G=>IU f k x G O r.ao r.cap b (some ⟨X,0,none⟩) o w D l wr A.out V B (by omega)
         have a4:Hid _:=(Fn f k j x O r.ao r.cap b (some ⟨X,0,none⟩) o w D l wr A.out V hf B (by omega));unfold lW at c;obtain⟨pf,bc⟩:∃pf,Hid (aJ O ⟨#[36,61]⟩=pf):=⟨_,rfl⟩
         obtain⟨dl,af⟩:∃dl,Hid (ii x ⟨#[36]⟩=dl):=⟨_,rfl⟩
         rw[bc.out]at N c;rw[af.out]at c
         go_upto_region 24 with (first | (go_at_call 93;refine QU N.out ?_;rintro e J ⟨rfl,a⟩;rw[a];clear a) | (go_at_call 120;refine(fF x _ _ (by omega) (by show 1<=_;omega)).mono ?_;rintro e J ⟨rfl,a⟩;rw[a];clear a))
         rw[af.out];clear N B HX d0 W A;generalize O.length=ol at *
         cases h1:(x.toList == [36,46])
         ·rw[QT (by rw[h1];simp)]at c
          obtain⟨tb,F⟩:∃tb,Hid (((x.toList == [36,61])&&((j.toList == [36,112]) && !pf))=tb):=⟨_,rfl⟩
          rw[F.out]at c
          go_upto_region 26 with fail
          go_cut [107] from 108 to 117 (fun aT wd=>aT=.bool tb/\wd=wr)
          case first =>
           cases h2:(x.toList == [36,61])
           ·go_wp2_with fail
            go_meet
            case rel=>exact⟨by rw[<-F.out,h2];rfl,rfl⟩
           ·cases h3:(j.toList == [36,112])
            ·go_wp2_with fail
             go_meet
             case rel=>exact⟨by rw[<-F.out,h2,h3];rfl,rfl⟩
            ·go_wp2_with fail
             go_meet
             case rel=>exact⟨by rw[<-F.out,h2,h3];rfl,rfl⟩
          case rest =>
           obtain⟨rfl,C⟩:=hcut;subst C
           cases tb
           ·cases dl
            ·cases pf
             ·cases h4:(j.toList == [36,99])
              ·cases h5:(j.toList == [36,118])
               ·have i:Hid (bh b w m=jm b w j x k O):=by show _=_;rw[c.out,h4,h5];rfl
                go_wp2_with (go_at_call 126;refine QU a4.out ?_;rintro e J ⟨rfl,U⟩);go_ret;exact⟨QN i.out.symm,K.out.trans U⟩
               ·have i:Hid (bh b w m=jW b w x k false O):=by show _=_;rw[c.out,h4,h5];rfl
                have Q:Hid _:=Z.out false;go_wp2_with (go_at_call 125;refine QU Q.out ?_;rintro e J ⟨rfl,U⟩);go_ret;exact⟨QN i.out.symm,K.out.trans U⟩
              ·have i:Hid (bh b w m=jW b w x k true O):=by show _=_;rw[c.out,h4];rfl
               have Q:Hid _:=Z.out true;go_wp2_with (go_at_call 125;refine QU Q.out ?_;rintro e J ⟨rfl,U⟩);go_ret;exact⟨QN i.out.symm,K.out.trans U⟩
             ·have i:Hid (bh b w m=0):=by show _=_;rw[c.out];rfl
              go_wp2;go_ret;exact⟨QN i.out.symm,K.out⟩
            ·have i:Hid (bh b w m=8):=by show _=_;rw[c.out];rfl
             go_wp2;go_ret;exact⟨QN i.out.symm,K.out⟩
           ·rw[QW rfl]at c
            by_cases ho:ol=0
            ·have i:Hid (bh b w m=15):=by show _=_;rw[c.out,QW ho]
             have bp:((ol:Int)==0)=true:=by simpa using ho
             go_wp2;go_ret;exact⟨QN i.out.symm,K.out⟩
            ·have i:Hid (bh b w m=0):=by show _=_;rw[c.out,QT ho]
             have bp:((ol:Int)==0)=false:=by simpa using ho
             go_wp2;go_ret;exact⟨QN i.out.symm,K.out⟩
         ·have i:Hid (bh b w m=ip j O):=by show _=_;rw[c.out,QW h1]
          go_wp2_with (go_at_call 124;refine QU a0.out ?_;rintro e J ⟨rfl,a⟩;rw[a];clear a);go_ret;exact⟨QN i.out.symm,K.out⟩
   ·obtain⟨d,hm⟩:=a5.out rfl
    have HM:Hid _:=hm;clear hm;go_wp2
    go_roundg (w.length-(k+1))
    case measure=>omega
    case rel=>exact⟨k+1,by omega,rfl,by go_num,HM,rfl⟩
def PD(T:List Tk)(S:List Sm)(i:Nat):Bool:=!(bh T S i==0)
def yp(T:List Tk)(S:List Sm):Tk:=match (List.range T.length).find? (PD T S) with
 | some i=>⟨⟨#[]⟩,bh T S i,(T.getD i jf).file,(T.getD i jf).line,(T.getD i jf).col⟩
 | none=>jf
theorem Lc{T:List Tk}{S:List Sm}{k:Nat}(c:k<T.length)(h:(bh T S k==0)=false)(a:∀j,j<k->bh T S j=0):yp T S=⟨⟨#[]⟩,bh T S k,(T.getD k jf).file,(T.getD k jf).line,(T.getD k jf).col⟩:=by
 have e:(List.range T.length).find? (PD T S)=some k:=by
  rw[Sj];exact⟨by unfold PD;rw[h];rfl,Ra.2 c,fun j b=>by unfold PD;rw[a j b];rfl⟩
 unfold yp;rw[e]
theorem Oq(a:∀j,j<i.length->bh i k j=0):yp i k=jf:=by
 have e:(List.range i.length).find? (PD i k)=none:=by
  rw[Sk];intro j b;unfold PD;rw[a j (Ra.1 b)];simp
 unfold yp;rw[e]
def PK(T:List Tk)(S:List Sm):Prop:=∀i,i<T.length->(∀j,j<i->bh T S j=0)->il T S (i8 S i)/\l8 T S (i8 S i)
theorem we(O:fz H T b M o w D l)(hT:b.length<=100000)(hO:PK b w)(hs:∀i,(tS b i).size<=1073741824) :
  Calls prog 56 #[.pointer (some ⟨T,0,none⟩)] H fun e w'=>e=.returned (.agg #[.int .i64 (yp b w).rule,.string (yp b w).file,.int .i64 (yp b w).line,.int .i64 (yp b w).col])/\ab [] H w':=by
 have L:Hid _:=O;obtain⟨W,C⟩:∃W,Hid (H.alloc (.cells #[.int .i64 0,.string ⟨#[]⟩,.int .i64 0,.int .i64 0] 87)=W):=⟨_,rfl⟩
 have Z:W.heap[H.heap.size]?=some (.cells #[.int .i64 0,.string ⟨#[]⟩,.int .i64 0,.int .i64 0] 87 (0,0)):=by rw[<-C.out];exact QS _ _
 have B:Hid (ab [] H W):=by show ab [] H W;rw[<-C.out];exact(ab.refl [] _).alloc _
 clear O;go_enter func56,ntmps56
 go_upto_region 1 with fail
 rw[C.out];go_wp2
 go_loopg [3] b.length (fun g i wr=>∃k:Nat,k<=b.length/\g=b.length-k/\i=.int .i64 k/\Hid (∀j,j<k->bh b w j=0)/\Hid (ab [] W wr))
 case atStart=>exact⟨0,by omega,rfl,rfl,(fun j R=>by omega),ab.refl _ _⟩
 case round =>
  obtain⟨k,hk,hg,rfl,u,z⟩:=hrel;have h:Hid _:=B.out.trans z.out;have n:Hid _:=fz.Vb L.out h.out;obtain⟨N,-,P⟩:=n.out.cells;have a:=z.out.get Z (by simp)
  by_cases d:k<b.length
  ·obtain⟨U,Q⟩:=hO k d u.out
   have E:(k:Int)<(b.length:Int):=by omega
   have f:Hid _:=Bj T k b M o w D l wr n.out d U Q hs;obtain⟨r,x⟩:∃r,Hid (bh b w k=r):=⟨_,rfl⟩
   rw[x.out]at f;clear U Q
   cases S:(r==0)
   ·have s:Hid (yp b w=⟨⟨#[]⟩,r,(b.getD k jf).file,(b.getD k jf).line,(b.getD k jf).col⟩):=by show _=_;rw[Lc d (by rw[x.out];exact S) u.out,x.out]
    go_upto_region 5 with (go_at_call 86;refine QU f.out ?_;rintro e q ⟨rfl,y⟩)
    have p:Hid _:=h.out.trans y;have m:Hid _:=fz.Vb L.out p.out;have c:=y.get a (by simp);clear N P;obtain⟨N,-,P⟩:=m.out.cells;obtain⟨gT,rfl,ac,-,-,t2,t3,t4⟩:=m.out.t.2 k _ (iw b k d);generalize b.getD k jf=t at *;obtain⟨ts,tr,X,Y,V⟩:=t;simp only at t2 t3 t4 s;have f0:=am c 0;have f1:=am c 1;have f2:=am c 2;have f3:=am c 3;have g0:q.cell? ⟨H.heap.size,0,none⟩=some (.int .i64 0):=by rw[aa c];rfl
    have g1:q.cell? ⟨H.heap.size,1,none⟩=some (.string ⟨#[]⟩):=by rw[aa c];rfl
    have g2:q.cell? ⟨H.heap.size,2,none⟩=some (.int .i64 0):=by rw[aa c];rfl
    have g3:q.cell? ⟨H.heap.size,3,none⟩=some (.int .i64 0):=by rw[aa c];rfl
    have y2:=ae c;go_wp2;obtain⟨G,I,J,K⟩:=sI c (.int .i64 r) (.string X) (.int .i64 Y) (.int .i64 V);exact QY (v:=.agg #[.int .i64 r,.string X,.int .i64 Y,.int .i64 V]) (by simp[results,results56,go_sem,G,I,J,K]) rfl ⟨by rw[s.out],(((p.out.setCell (QV (by simp)) _).setCell (QV (by simp)) _).setCell (QV (by simp)) _).setCell (QV (by simp)) _⟩
   ·have F:r=0:=by simpa using S
    subst F
    have HM:Hid (∀j,j<k+1->bh b w j=0):=fun j R=>by
     by_cases e:j=k
     ·rw[e];exact x.out
     ·exact u.out j (by omega)
    go_wp2_with (go_at_call 86;refine QU f.out ?_;rintro e q ⟨rfl,y⟩;have A:Hid _:=z.out.trans y)
    go_roundg (b.length-(k+1))
    case measure=>omega
    case rel=>exact⟨k+1,by omega,rfl,by go_num,HM,A⟩
  ·have s:Hid (yp b w=jf):=Oq (fun j R=>u.out j (by omega))
   have f0:=am a 0;have f1:=am a 1;have f2:=am a 2;have f3:=am a 3;have g0:wr.cell? ⟨H.heap.size,0,none⟩=some (.int .i64 0):=by rw[aa a];rfl
   have g1:wr.cell? ⟨H.heap.size,1,none⟩=some (.string ⟨#[]⟩):=by rw[aa a];rfl
   have g2:wr.cell? ⟨H.heap.size,2,none⟩=some (.int .i64 0):=by rw[aa a];rfl
   have g3:wr.cell? ⟨H.heap.size,3,none⟩=some (.int .i64 0):=by rw[aa a];rfl
   have y2:=ae a;have E:¬(k:Int)<(b.length:Int):=by omega
   go_wp2;obtain⟨G,I,J,K⟩:=sI a (.int .i64 0) (.string ⟨#[]⟩) (.int .i64 0) (.int .i64 0);exact QY (v:=.agg #[.int .i64 0,.string ⟨#[]⟩,.int .i64 0,.int .i64 0]) (by simp[results,results56,go_sem,G,I,J,K]) rfl ⟨by rw[s.out];rfl,(((h.out.setCell (QV (by simp)) _).setCell (QV (by simp)) _).setCell (QV (by simp)) _).setCell (QV (by simp)) _⟩
theorem zi(h:l<w.length):au (w++[zb]) l=au w l:=by
 unfold au;rw[QQ,QQ,Q7 h]
theorem uk:au (w++[zb]) w.length=zb:=by
 unfold au;rw[QQ,Q5 (QR _),RY];rfl
theorem Bg(h:l<=w.length):kz (w++[zb]) l=kz w l:=by
 unfold kz
 split
 ·rw[zi w zb (l-1) (by omega)]
 ·rfl
structure QE(T:List Tk)(S:List Sm)(j:Nat)(s:Sm):Prop where
 a:s.a=kz S j
 lt:s.a<s.z
 e:bS (tS T (s.z-1))=true
 n:∀q,s.a<=q->q<s.z-1->bS (tS T q)=false
 k:(s.k,s.h)=ew T s.a
structure Dt(T:List Tk)(i:Nat)(S:List Sm)(f:Nat):Prop where
 s:∀j,j<S.length->QE T S j (au S j)/\(au S j).z<=i
 fr:f=kz S S.length
 n:∀q,f<=q->q<i->bS (tS T q)=false
 le:f<=i
theorem IY(i:Nat):Dt b i (eO b i).1 (eO b i).2:=by
 induction i with
 | zero=>exact⟨fun j g=>by simp[eO]at g,rfl,fun q _ h=>by omega,QR _⟩
 | succ i c =>
  rw[eO]
  split
  ·next m =>
   generalize (eO b i).1=S at *;generalize (eO b i).2=f at *;refine⟨fun j g=>?_,?_,fun q d l=>by simp only at d;omega,QR _⟩
   ·simp only[List.length_append,List.length_cons,List.length_nil]at g
    by_cases e:j<S.length
    ·obtain⟨p,o⟩:=c.s j e
     rw[zi S _ j e];exact⟨⟨by rw[Bg S _ j (by omega)];exact p.a,p.lt,p.e,p.n,p.k⟩,by omega⟩
    ·have e:j=S.length:=by omega
     subst e;rw[uk];have:=c.le;exact⟨⟨by rw[Bg S _ _ (QR _)];exact c.fr,by show f<i+1;omega,m,fun q d l=>c.n q d (by simp only at l;omega),rfl⟩,QR _⟩
   ·simp only[List.length_append,List.length_cons,List.length_nil]
    unfold kz;rw[QW (by omega),SD,uk]
  ·next m =>
   refine⟨fun j g=>?_,c.fr,fun q d l=>?_,by have:=c.le;omega⟩
   ·obtain⟨p,o⟩:=c.s j g
    exact⟨p,by omega⟩
   ·by_cases e:q=i
    ·rw[e];simpa using m
    ·exact c.n q d (by omega)
theorem fw:Dt b b.length (aj b) (eO b b.length).2:=IY b b.length
theorem KY(S:List Sm)(j:Nat)(a:∀q,q<j->∃s,S[q]?=some s/\s.z<=l)(b:∀s,S[j]?=some s->¬s.z<=l):nt l S=j:=by
 induction S generalizing j with
 | nil =>
  cases j with
  | zero=>rfl
  | succ j=>obtain⟨s,h,-⟩:=a 0 (by omega);cases h
 | cons s r f =>
  cases j with
  | zero=>rw[nt,QT (b s rfl)]
  | succ j =>
   obtain⟨i,e,d⟩:=a 0 (by omega);simp at e;subst e;rw[nt,QW d,f j (fun q g=>by simpa using a (q+1) (by omega)) (fun t c=>b t (by simpa using c))]
section
variable {T:List Tk} {i0 f:Nat} {S:List Sm}
theorem GN(h:l<w.length):w[l]?=some (au w l):=by
 unfold au;rw[QQ,QP h];rfl
theorem Dt.step(p:Dt T i0 S f)(j:Nat)(h:j+1<S.length):(au S j).z<(au S (j+1)).z:=by
 have q:=(p.s (j+1) h).1;have:=q.lt;rw[q.a]at this;unfold kz at this;rw[QW (by omega),SD]at this;exact this
theorem Dt.mono(p:Dt T i0 S f)(j k:Nat)(h:j<=k)(a:k<S.length):(au S j).z<=(au S k).z:=by
 induction k with
 | zero =>
  have:j=0:=by omega
  rw[this];exact QR _
 | succ k b =>
  by_cases e:j=k+1
  ·rw[e];exact QR _
  ·have:=b (by omega) (by omega)
   have:=p.step k a;omega
theorem Dt.cnt(p:Dt T i0 S f)(j:Nat)(h:j<S.length)(i:Nat)(c:(au S j).a<=i)(d:i<(au S j).z):i8 S i=j:=by
 refine KY i S j (fun q g=>⟨au S q,GN S q (by omega),?_⟩) (fun s b=>?_)
 ·have e:=(p.s j h).1.a
  unfold kz at e;rw[QW (by omega)]at e;have:=p.mono q (j-1) (by omega) (by omega);omega
 ·rw[GN S j h]at b;cases b
  omega
theorem Dt.beg(p:Dt T i0 S f)(j:Nat)(h:j<S.length)(i:Nat)(b:(au S j).a<=i)(c:i<(au S j).z):kz S (i8 S i)=(au S j).a:=by
 rw[p.cnt j h i b c];exact((p.s j h).1.a).symm
end
theorem oD{x:ByteArray}{l:List UInt8}(h:(x.toList==l)=true):x=⟨l.toArray⟩:=by
 have a:x.toList=l:=by simpa using h
 apply U4
 apply Un.1
 rw[<-RZ,a]
theorem kM(h:bS a=true):ii a ⟨#[36]⟩=true/\(a.toList == [36,99])=false/\(a.toList == [36,118])=false/\(a.toList == [36,102])=false:=by
 unfold bS at h
 rcases RB _ _ ▸ h with h | h
 ·rcases RB _ _ ▸ h with h | h <;> (rw[oD h];decide +kernel)
 ·rw[oD h];decide +kernel
theorem GT(p:Dt i v k z1)(j:Nat)(h:j<k.length)(q:Nat)(b:(au k j).a<=q)(c:q<(au k j).z):bh i k q =
  if q=(au k j).a then dw i k (tS i q) j
  else if q<(au k j).h then(if(aC (tS i q)||aG (tS i q))=true then 0 else 14)
  else lW i k (au k j).k (tS i q) j (fa i (au k j).h q):=by
 unfold bh;rw[p.beg j h q b c,p.cnt j h q b c,<-(p.s j h).1.k]
theorem wU{x:ByteArray}(b:bS x=true)(h:lW i k a x v z7=0):(x.toList == [36,46])=true/\ip a z7=0:=by
 unfold lW at h
 cases c:(x.toList == [36,46])
 ·rw[QT (by rw[c];simp)]at h
  have f:=(kM b).1
  have d:(x.toList == [36,61])=false:=by
   unfold bS at b;rw[c,Sp]at b
   rcases RB _ _ ▸ b with e | e <;> (rw[oD e];decide +kernel)
  rw[d,TQ,QT (by simp),QW f]at h
  cases h
 ·rw[QW c]at h
  exact⟨rfl,h⟩
theorem tA(h:(a.toList == [36,46])=true):mM a=true:=by unfold mM;rw[h];simp
theorem Np(h:(a.toList == [36,102])=true):dw i k a v=11:=by
 have e:=oD h;have d:((a.toList == [36,123])||((a.toList == [36,118])||(a.toList == [36,100])))=false/\(a.toList == [36,125])=false/\(a.toList == [36,99])=false/\(aC a||aG a)=true:=by rw[e];decide +kernel
 obtain⟨b,c,f,g⟩:=d;unfold dw;rw[b,c,f,g];simp
theorem LC(h:(aC a||aG a)=true):(a.toList == [36,99])=false/\(a.toList == [36,118])=false/\bS a=false:=by
 unfold aC aG at h
 rcases RB _ _ ▸ h with h | h
 ·rcases RB _ _ ▸ h with h | h <;> (rw[oD h];decide +kernel)
 ·rcases RB _ _ ▸ h with h | h <;> (rw[oD h];decide +kernel)
theorem Dq(p:Dt i i.length k v)(j:Nat)(h:j<k.length)(A:∀q,(au k j).a<=q->q<(au k j).z->bh i k q=0) :
  (((au k j).k.toList == [36,99])=true->cU i (au k j).h)/\(((au k j).k.toList == [36,118])=true->cU i (au k j).h)/\(((au k j).k.toList == [36,102])=true->(au k j).h+1<i.length):=by
 have w:=GT p j h;obtain⟨P,E⟩:=p.s j h;generalize au k j=s at *;obtain⟨a,z,J,K⟩:=s;obtain⟨-,C,l,-,n⟩:=P;simp only at *;have g:=A (z-1) (by omega) (by omega);rw[w (z-1) (by omega) (by omega)]at g;have t:=A a (QR _) C;rw[w a (QR _) C,QW rfl]at t;unfold ew at n;have b:=kM l
 by_cases o:(ii (tS i a) ⟨#[36]⟩||decide (i.length<=a+1))=true
 ·rw[QW o]at n
  cases n
  have d:¬(z-1=a)->cU i (a+1):=fun f=>by
   rw[QT f,QT (by omega)]at g;have:=wU l g;exact⟨z-1,by omega,by omega,tA this.1⟩
  refine⟨fun c=>d (fun e=>?_),fun c=>d (fun e=>?_),fun c=>?_⟩
  ·rw[e,c]at b;exact absurd b.2.1 (by simp)
  ·rw[e,c]at b;exact absurd b.2.2.1 (by simp)
  ·rw[Np c]at t;cases t
 ·rw[QT o]at n
  cases n
  have y:ii (tS i a) ⟨#[36]⟩=false:=by
   cases e:ii (tS i a) ⟨#[36]⟩
   ·rfl
   ·rw[e]at o;exact absurd rfl o
  have f:¬(z-1=a):=fun e=>by
   rw[e,y]at b;exact absurd b.1 (by simp)
  have u:=A (a+1) (by omega) (by omega);rw[w (a+1) (by omega) (by omega),QT (by omega),QW (by omega)]at u
  have x:(aC (tS i (a+1))||aG (tS i (a+1)))=true:=by
   cases e:(aC (tS i (a+1))||aG (tS i (a+1)))
   ·rw[e]at u;cases u
   ·rfl
  obtain⟨F,G,H⟩:=LC x;refine⟨fun c=>absurd c (by rw[F];simp),fun c=>absurd c (by rw[G];simp),fun c=>?_⟩;have B:¬(z-1=a+1):=fun e=>by rw[e,H]at l;cases l
  rw[QT f,QT (by omega)]at g;have m:=(wU l g).2;unfold ip at m
  split at m
  ·cases m
  ·split at m
   ·cases m
   ·next I D =>
    have r:¬(fa i (a+2) (z-1)).length<2:=fun r=>D (by rw[c];simp[r])
    unfold fa at r;rw[Ri,RQ,RT]at r;omega
theorem Ot(h:b.length<=100000):PK b (aj b):=by
 intro i l c;have p:=fw b;have m:(aj b).length<=b.length:=oG b b.length;have k:i8 (aj b) i<=(aj b).length:=OQ i (aj b);generalize aj b=S at *
 have g:∀j,j<i8 S i->(au S j).z<=i:=fun j a=>by
  obtain⟨s,e,f⟩:=Bo i S j a;rw[GN S j (by omega)]at e
  cases e;exact f
 have d:=fun j (a:j<i8 S i)=>Dq p j (by omega) (fun q _ f=>c q (by have:=g j a;omega))
 refine⟨⟨k,by omega,h,fun j a=>(d j a).1,fun j a=>(d j a).2.1,fun j a=>?_⟩,fun j a=>(d j a).2.2⟩;have:=(p.s j (by omega)).1.lt;have:=g j a;omega
theorem rE(C:S.size<=1073741824) :
  Calls prog 52 #[.string S] H fun e y=>e=.returned (.bool (fV S))/\y=H:=by
 by_cases s:S.size=0
 ·have l:Hid (fV S=false):=mn S (Q1 (by omega))
  have n:((S.size:Int)==0)=true:=by simpa using s
  go_enter func52,ntmps52;go_wp2;go_ret;exact⟨aD l.out.symm,rfl⟩
 ·have n:((S.size:Int)==0)=false:=by simpa using s
  by_cases z:8<S.size
  ·have l:Hid (fV S=false):=mn S (QV (by omega))
   have o:(8:Int)<(S.size:Int):=by omega
   go_enter func52,ntmps52;go_wp2;go_ret;exact⟨aD l.out.symm,rfl⟩
  ·have o:¬(8:Int)<(S.size:Int):=by omega
   have r:Hid (fV S=(List.range S.size).all (fun i=>kJ (aF S i))):=by
    show _=_
    unfold fV;rw[show decide (1<=S.size)=true by simp;omega,show decide (S.size<=8)=true by simp;omega];rfl
   go_enter func52,ntmps52;go_wp2
   go_loopg [3] S.size (fun g i wr=>∃k:Nat,k<=S.size/\g=S.size-k/\i=.int .i64 k/\Hid (∀i,i<k->kJ (aF S i)=true)/\wr=H)
   case atStart=>exact⟨0,by omega,by omega,rfl,fun i h=>by omega,rfl⟩
   case round =>
    obtain⟨k,B,A,rfl,b,rfl⟩:=hrel
    by_cases d:k<S.size
    ·have c:Hid (kJ (S[k].toNat:Int)=(fn (S[k].toNat:Int) && !((S[k].toNat:Int)==36))):=rfl
     have j:Hid (kJ (S[k].toNat:Int)=false->fV S=false):=fun p=>by rw[r.out];exact DF k d (by rw[bP S k d];exact p)
     have m:Hid (kJ (S[k].toNat:Int)=true->∀i,i<k+1->kJ (aF S i)=true):=fun p i w=>by
      by_cases e:i=k
      ·subst e;rw[bP S i d];exact p
      ·exact b.out i (by omega)
     have x:(k:Int)<(S.size:Int):=by omega
     cases q:fn (S[k].toNat:Int)
     ·have f:Hid _:=j.out (by rw[c.out,q];rfl)
      go_wp2_with (go_at_call 78;refine(lu _ _).mono ?_;rintro e u ⟨rfl,a⟩;rw[a];clear a);go_ret;exact⟨aD f.out.symm,rfl⟩
     ·cases t:((S[k].toNat:Int)==36)
      ·have f:Hid _:=m.out (by rw[c.out,q,t];rfl)
       go_wp2_with (go_at_call 78;refine(lu _ _).mono ?_;rintro e u ⟨rfl,a⟩;rw[a];clear a)
       go_roundg (S.size-(k+1))
       case measure=>omega
       case rel=>exact⟨k+1,by omega,rfl,by go_num,f,rfl⟩
      ·have f:Hid _:=j.out (by rw[c.out,q,t];rfl)
       go_wp2_with (go_at_call 78;refine(lu _ _).mono ?_;rintro e u ⟨rfl,a⟩;rw[a];clear a);go_ret;exact⟨aD f.out.symm,rfl⟩
    ·have v:Hid (fV S=true):=by show _=_;rw[r.out];exact zC (fun i w=>b.out i (by omega))
     go_wp2;go_ret;exact⟨aD v.out.symm,rfl⟩
set_option maxRecDepth 512
theorem BE(f:n.size<=1073741824)(j:S.size<=4294967296) :
  Calls prog 34 #[.string n,.string S] H fun e i=>e=.returned (.int .i64 (cJ n S))/\i=H:=by
 cases c:fV n
 ·have b:Hid (cJ n S=2):=by show _=_;unfold cJ;rw[QW c]
  go_enter func34,ntmps34;go_wp2_with (go_at_call 52;refine(rE n _ f).mono ?_;rintro e h ⟨rfl,a⟩;rw[a];clear a);go_ret;exact⟨QN b.out.symm,rfl⟩
 ·by_cases g:1024<S.size
  ·have b:Hid (cJ n S=3):=by show _=_;unfold cJ;rw[QT (by rw[c];simp),QW g]
   have d:(1024:Int)<(S.size:Int):=by omega
   go_enter func34,ntmps34;go_wp2_with (go_at_call 52;refine(rE n _ f).mono ?_;rintro e h ⟨rfl,a⟩;rw[a];clear a);go_ret;exact⟨QN b.out.symm,rfl⟩
  ·have b:Hid (cJ n S=0):=by show _=_;unfold cJ;rw[QT (by rw[c];simp),QT g]
   have d:¬(1024:Int)<(S.size:Int):=by omega
   go_enter func34,ntmps34;go_wp2_with (go_at_call 52;refine(rE n _ f).mono ?_;rintro e h ⟨rfl,a⟩;rw[a];clear a);go_ret;exact⟨QN b.out.symm,rfl⟩
structure nK(T:List Tk)(S:List Sm)(n:Nat):Prop where
 ok:il T S n
 sm:S.length<=10000
 tm:T.length<=10000
 e:∀j,j<n->bS (au S j).k=false->cU T (au S j).h
 f:l8 T S n
theorem nK.mono(h:nK i k v)(d:z1<=v):nK i k z1 :=
 ⟨⟨Q3 d h.ok.m,h.ok.s,h.ok.t,fun j b=>h.ok.c j (by omega),fun j b=>h.ok.v j (by omega),fun j b=>h.ok.a j (by omega)⟩,h.sm,h.tm,fun j b=>h.e j (by omega),fun j b=>h.f j (by omega)⟩
def PC(T:List Tk)(S:List Sm)(x y:ByteArray)(a j:Nat):Bool:=((au S j).k.toList == [36,100])&&(!(x.toList==y.toList)&&(aJ (bu T (au S j).h) x&&(aJ (bu T (au S j).h) y&&aV S j a)))
def hQ(T:List Tk)(S:List Sm)(x y:ByteArray)(a:Nat):Bool:=(List.range a).any (PC T S x y a)
theorem fX{l:List UInt8}(h:(a.toList==l)=true)(b:(l == [36,46])=false/\(l == [36,123])=false/\(l == [36,125])=false):bS a=false:=by
 have:a.toList=l:=by simpa using h
 unfold bS;rw[this,b.1,b.2.1,b.2.2];rfl
set_option maxRecDepth 100000
theorem vI(hD:fz H L b M o w D l)(I:nK b w f) :
  Calls prog 94 #[.pointer (some ⟨L,0,none⟩),.string z2,.string n,.int .i64 f] H fun e J=>e=.returned (.bool (hQ b w z2 n f))/\ab [] H J:=by
 have T:Hid _:=hD;have hn:=I.ok.m;have hS:=I.ok.s;have hT:=I.ok.t;have U:Hid _:=I;clear hD I;go_enter func94,ntmps94;go_wp2
 go_loopg [9] f (fun g i wr=>∃k:Nat,k<=f/\g=f-k/\i=.int .i64 k/\Hid (∀j,j<k->PC b w z2 n f j=false)/\Hid (ab [] H wr))
 case atStart=>exact⟨0,by omega,rfl,rfl,(fun j hj=>by omega),ab.refl _ _⟩
 case round =>
  obtain⟨k,hk,hg,rfl,K,x⟩:=hrel
  by_cases F:k<f
  ·have r:k<w.length:=by omega
   have C:Hid _:=fz.Vb T.out x.out;obtain⟨-,c1,hb⟩:=C.out.cells;obtain⟨gs,rfl,ag,-,-,-,q3⟩:=C.out.s.2 k w[k] (QP r);have ai:(k:Int)<(f:Int):=by omega
   have ad:(k:Int)<(w.length:Int):=by omega
   have v:Hid (PC b w z2 n f k=((w[k].k.toList == [36,100])&&(!(z2.toList==n.toList)&&(aJ (bu b w[k].h) z2&&(aJ (bu b w[k].h) n&&aV w k f))))):=by show _=_;unfold PC;rw[bM w k r]
   have E:Hid ((w[k].k.toList == [36,100])=true->cU b w[k].h):=fun h=>by have:=U.out.e k F;rw[<-bM w k r]at this;exact this (fX h (by decide))
   have S:Hid ((w[k].k.toList == [36,100])=true->∀c,ab [] H c->Calls prog 72 #[.pointer (some ⟨L,0,none⟩),.int .i64 k] c fun e J=>∃W,e=.returned (.slice W.ao (bu b w[k].h).length W.cap)/\vj c J W (bu b w[k].h)):=fun h c Y=>kD L k b M o w _ l c (fz.Vb T.out Y) r hT (E.out h)
   have af:=kg b w[k].h;have y:Hid (∀c,ab [] H c->Calls prog 92 #[.pointer (some ⟨L,0,none⟩),.int .i64 k,.int .i64 f] c fun e J=>e=.returned (.bool (aV w k f))/\J=c):=fun c Y=>lk L k f b M o w _ l c (fz.Vb T.out Y) (by omega) hn hS
   clear E;generalize bu b w[k].h=B at *;generalize w[k].k=sk at *;obtain⟨N,V⟩:∃N,Hid (aV w k f=N):=⟨_,rfl⟩
   rw[V.out]at v y
   cases X:(sk.toList == [36,100])
   ·have d:Hid _:=dU K.out (by rw[v.out,X];rfl)
    go_wp2
    go_roundg (f-(k+1))
    case measure=>omega
    case rel=>exact⟨k+1,by omega,rfl,by go_num,d,x⟩
   ·cases h2:(z2.toList==n.toList)
    ·have R:Hid _:=S.out X
     go_upto_region 6 with (go_at_call 72;refine(R.out _ (by exact x.out)).mono ?_;rintro e Z ⟨O,rfl,P⟩)
     have u:Hid _:=x.out.trans P.kept;have z:Hid _:=(j9 B O.ao O.cap z2 Z P.own.srcX (by omega));have A:Hid _:=(j9 B O.ao O.cap n Z P.own.srcX (by omega));have Q:Hid _:=y.out Z u.out;clear P c1 q3;obtain⟨p,Hp⟩:∃p,Hid (aJ B z2=p):=⟨_,rfl⟩
     rw[Hp.out]at z v;obtain⟨q,Hq⟩:∃q,Hid (aJ B n=q):=⟨_,rfl⟩
     rw[Hq.out]at A v
     go_upto_region 7 with (go_at_call 93;refine QU z.out ?_;rintro e w9 ⟨rfl,a⟩;rw[a];clear a)
     go_upto_region 8 with (go_at_call 93;refine QU A.out ?_;rintro e w9 ⟨rfl,a⟩;rw[a];clear a)
     go_upto_region 9 with (go_at_call 92;refine QU Q.out ?_;rintro e w9 ⟨rfl,a⟩;rw[a];clear a)
     cases G:(p&&(q&&N))
     ·have d:Hid _:=dU K.out (by rw[v.out,G];simp)
      cases p <;> cases q <;> cases N <;> first | (exact absurd G (by decide)) | skip
      all_goals
       go_wp2
       go_roundg (f-(k+1))
       case measure=>omega
       case rel=>exact⟨k+1,by omega,rfl,by go_num,d,u⟩
     ·have d:Hid (hQ b w z2 n f=true):=mZ k F (by rw[v.out,X,h2,G];rfl)
      simp only[Bool.and_eq_true]at G;obtain⟨rfl,rfl,rfl⟩:=G;go_wp2;go_ret;exact⟨aD d.out.symm,u.out⟩
    ·have d:Hid _:=dU K.out (by rw[v.out,h2];simp)
     go_wp2
     go_roundg (f-(k+1))
     case measure=>omega
     case rel=>exact⟨k+1,by omega,rfl,by go_num,d,x⟩
  ·have d:Hid (hQ b w z2 n f=false):=vH (fun j hj=>K.out j (by omega))
   go_wp2;go_ret;exact⟨aD d.out.symm,x.out⟩
structure gw(w wr:World)(h:Hd)(r:dN):Prop where
 own:aw wr h r
 far:∀k,h.blk=some k->w.heap.size<=k
 kept:ab [] w wr
theorem gw.Vb(a:gw x d I zt)(k:ab [] d N):gw x N I zt:=⟨a.own.Vb k,a.far,a.kept.trans k⟩
theorem gw.Vl{f:dN}(a:gw x d I zt)(g:bt d N I z0)(o:aw N z0 f):gw x N z0 f:=by
 refine⟨o,fun k b=>?_,⟨g.kept.os.trans a.kept.os,g.kept.tape.trans a.kept.tape,g.kept.output.trans a.kept.output,Q3 a.kept.size g.kept.size,fun k b _=>?_⟩⟩
 ·rcases g.blk with e | ⟨q,e,c⟩
  ·exact a.far k (by rw[<-e];exact b)
  ·rw[e]at b;cases b
   exact Q3 a.kept.size c
 ·rw[g.kept.block k (QX b a.kept.size) (fun c=>by have:=a.far _ (aN c);omega),a.kept.block k b (by simp)]
theorem vj.toL(a:vj x d I z7):gw x d I (aB z7):=⟨a.own,a.far,a.kept⟩
theorem gw.base(a:gw d N I zt)(k:ab [] x d):gw x N I zt:=⟨a.own,fun q b=>Q3 k.size (a.far q b),k.trans a.kept⟩
theorem bt.beside(g:bt x d I z0)(b:aw x z4 zt)(a:∀k,z4.blk=some k->I.blk≠some k):aw d z4 zt :=
 b.Vg (fun q c=>g.kept.block q (b.lt c) (fun e=>a q c (aN e)))
theorem oi{P:Program}(I:y0.guard=none)(s x:Operand)(t:TypeId)(m:y0.op=Op.call { callee:=Callee.builtin Builtin.append,args:=#[s,x],argTypes:=#[t,t] })(i:TypeInfo)(z:Value)(b:Nat)(h:Hd)(r:dN)(a:List Value)(w:P.underlying t=some (.slice r.e))(y:P.info? r.e=some i)(A:i.zero=some z)(B:i.size=r.size)(C:i.bytes=b)(D:z.cells.size=r.size)(E:0<r.size)(L:y1.eval s=.slice h.ao r.n h.cap)(f:aw H h r)(O:r.n<=1000000)(G:b<=1000)(M:y1.eval x=.slice (some ⟨H.heap.size,0,none⟩) 1 1)(Q:a.length=r.size)(k:∀u∈a,u.oneCell'=true)(F:∀g p,aw p g ⟨r.e,r.size,r.n+1,r.xs++a⟩->bt H p h g->wpList P y3 y5 y4 (y1.put y0.dst (.slice g.ao (r.n+1) g.cap)) p) :
  wpList P y3 y5 (y0 :: y4) y1 (H.alloc (.cells a.toArray r.e)):=by
 have q:ab [] H (H.alloc (.cells a.toArray r.e)):=(ab.refl [] _).alloc _;have K:(H.alloc (.cells a.toArray r.e)).heap[H.heap.size]?=some (.cells a.toArray r.e (0,0)):=QS _ _;refine aM _ I s x t m i z b h r w y A B C D E L (f.Vb q) ⟨H.heap.size,0,none⟩ 1 1 a M (by omega) ?_ k Rc (by unfold maxLen;omega) (Q3 (SL (show r.n+1<=1000001 by omega) G) (by omega)) ?_
 ·intro j u J
  rw[bL,aa K];simpa using J
 ·intro v c N o d l
  exact F ⟨some ⟨v,0,none⟩,c⟩ N o ((bt.Vb q).trans (bt.made d l))
def qD(w:World)(ao:Option Addr)(L:List Nat):Prop:=∀(k n:Nat),L[k]?=some n->∃g,ao=some ⟨g,0,none⟩/\g<w.heap.size/\w.cell? ⟨g,k,none⟩=some (.int .i64 n)
theorem qD.Vb(h:qD x z6 z3)(k:ab [] x d):qD d z6 z3:=by
 intro j f c;obtain⟨g,e,a,b⟩:=h j f c;exact⟨g,e,QX a k.size,by rw[Q6 (k.block g a (by simp))];exact b⟩
theorem ge.Vb(h:ge x z6 z7)(k:ab [] x d):ge d z6 z7:=by
 intro j f c;obtain⟨g,e,a,b⟩:=h j f c;exact⟨g,e,QX a k.size,by rw[Q6 (k.block g a (by simp))];exact b⟩
theorem aw.srcN(o:aw x I (bB z3)):qD x I.ao z3:=by
 intro k f c
 rcases o.Vm with ⟨_,b,_⟩ | ⟨g,d,a,e,h,-⟩
 ·have b:z3.length=0:=b
  have:=(Q8.1 c).1;omega
 ·exact⟨g,a,ae e,o.cell a k (.int .i64 f) (by simp[bB,jX,c])⟩
theorem tn(L:List Nat)(n:Nat):(⟨(bB L).e,(bB L).size,(bB L).n+1,(bB L).xs++[.int .i64 n]⟩:dN)=bB (L++[n]):=by
 simp[bB,jX]
theorem CT(M:List ByteArray):(⟨(aB g).e,(aB g).size,(aB g).n+M.length,(aB g).xs++cN M⟩:dN)=aB (g++M):=by
 simp[aB,cN]
theorem z8:(prog.info? 3).map (fun i=>(i.zero,i.size,i.bytes))=some (some (.int .i64 0),1,8):=by kernel_rfl
theorem ge.cells(h:ge x z6 z7):∀b,z6=some b->∀j u,(cN z7)[j]?=some u->x.cell? (b.add j)=some u:=by
 intro b e j u a;rw[cN,Rq]at a
 cases d:z7[j]? with
 | none=>rw[d]at a;cases a
 | some i =>
  rw[d]at a
  cases a
  obtain⟨g,f,-,c⟩:=h j i d;rw[e]at f
  cases f
  rw[bL];simpa using c
def xY(S:List Sm)(a j:Nat):Bool:=((au S j).k.toList == [36,101])&&aV S j a
def lD(T:List Tk)(S:List Sm)(a k:Nat):List ByteArray:=bu T (au S a).h++((List.range k).filter (xY S a)).flatMap (fun j=>bu T (au S j).h)
def Dj(T:List Tk)(S:List Sm)(a:Nat):List ByteArray:=lD T S a a
def sJ(T:List Tk)(S:List Sm)(a:Nat)(U:List ByteArray)(j:Nat):Bool:=aV S j a&&(((au S j).k.toList == [36,101])||(((au S j).k.toList == [36,102])&&aJ U (tS T ((au S j).h+1))))
def bW(T:List Tk)(S:List Sm)(a:Nat):List Nat:=(List.range a).filter (sJ T S a (Dj T S a))
theorem gZ(p:Nat->Bool)(k:Nat):(List.range (k+1)).filter p=(List.range k).filter p++(if p k=true then [k] else []):=by
 rw[R6,RV]
 congr 1
 cases h:p k
 ·rw[Ss (by rw[h];simp)];rfl
 ·rw[SG h];rfl
theorem MQ(h:xY w y l=true):lD b w y (l+1)=lD b w y l++bu b (au w l).h:=by
 unfold lD;rw[gZ,QW h,Sh,Sy];simp
theorem Oh(h:xY w y l=false):lD b w y (l+1)=lD b w y l:=by
 unfold lD;rw[gZ,QT (by rw[h];simp),Rl]
theorem Nk(d:(a.toList == [36,101])=true)(b:(a.toList == [36,102])=true):False:=by
 have c:a.toList=[36,101]:=by simpa using d
 rw[c]at b;exact absurd b (by decide)
theorem nP(hD:fz H f b M o w D l)(X:nK b w T)(hn:T<w.length)(hE:cU b (au w T).h) :
  Calls prog 62 #[.pointer (some ⟨f,0,none⟩),.int .i64 T] H fun e S=>∃c,e=.returned (.slice c.ao (bW b w T).length c.cap)/\gw H S c (bB (bW b w T)):=by
 have HD:Hid _:=hD;have hS:=X.ok.s;have hT:=X.ok.t;have bp:=X.sm;have br:=X.tm;have an:Hid _:=X;have ad:Hid (∀E,ab [] H E->Calls prog 72 #[.pointer (some ⟨f,0,none⟩),.int .i64 T] E fun e S=>∃c,e=.returned (.slice c.ao (bu b w[T].h).length c.cap)/\vj E S c (bu b w[T].h)):=fun E kx=>kD f T b M o w _ l E (hD.Vb kx) hn hT (by rw[bM w T hn];exact hE)
 have N:Hid _:=ad.out H (ab.refl _ _);rw[bM w T hn]at N;have a5:Hid (lD b w T 0=bu b (au w T).h):=by show _=_;unfold lD;simp
 have bx:=kg b (au w T).h;obtain⟨iS,bf,aS,aT,a0⟩:=Re js;obtain⟨iN,ar,I,J,K⟩:=Re z8;clear hD X ad;generalize bu b (au w T).h=B0 at *;go_enter func62,ntmps62
 go_upto_region 2 with (go_at_call 72;refine QU N.out ?_;rintro e w0 ⟨h0,rfl,x0⟩)
 have a6:Hid _:=x0.toL;clear x0 N;go_wp2
 go_loopg [5,6] T (fun g u i wr=>∃(k:Nat) (c:Hd) (O:List ByteArray),k<=T/\g=T-k/\u=.slice c.ao O.length c.cap/\i=.int .i64 k/\O.length<=10000*(k+1)/\Hid (O=lD b w T k)/\Hid (gw H wr c (aB O)))
 case atStart=>exact⟨0,h0,B0,by omega,rfl,rfl,rfl,by omega,a5.out.symm,a6⟩
 case round =>
  obtain⟨k,c,O,hk,hg,rfl,rfl,hO,G,r⟩:=hrel
  by_cases bj:k<T
  ·have p:k<w.length:=by omega
   have n:Hid _:=fz.Vb HD.out r.out.kept;obtain⟨-,c1,hb⟩:=n.out.cells;obtain⟨gs,rfl,be,-,-,-,q3⟩:=n.out.s.2 k w[k] (QP p);have bg:(k:Int)<(T:Int):=by omega
   have ax:(k:Int)<(w.length:Int):=by omega
   have z:Hid (xY w T k=((w[k].k.toList == [36,101])&&aV w k T)):=by show _=_;unfold xY;rw[bM w k p]
   have a2:Hid ((w[k].k.toList == [36,101])=true->Calls prog 72 #[.pointer (some ⟨f,0,none⟩),.int .i64 k] wr fun e S=>∃c,e=.returned (.slice c.ao (bu b w[k].h).length c.cap)/\vj wr S c (bu b w[k].h)):=fun h=>kD f k b M o w _ l wr n.out p hT (by have:=an.out.e k bj;rw[<-bM w k p]at this;exact this (fX h (by decide)))
   have HY:Hid (xY w T k=true->O++bu b w[k].h=lD b w T (k+1)):=fun h=>by rw[MQ b w T k h,<-G.out,bM w k p]
   have W:Hid (xY w T k=false->O=lD b w T (k+1)):=fun h=>by rw[Oh b w T k h,<-G.out]
   have bl:=kg b w[k].h;have j:Hid _:=(lk f k T b M o w _ l wr n.out (by omega) (by omega) hS);generalize bu b w[k].h=B at *;generalize w[k].k=Y at *;obtain⟨R,Q⟩:∃R,Hid (aV w k T=R):=⟨_,rfl⟩
   rw[Q.out]at z j
   cases F:(Y.toList == [36,101])
   ·have x:Hid _:=W.out (by rw[z.out,F];rfl)
    go_wp2_with (go_at_call 92;refine QU j.out ?_;rintro e V ⟨rfl,a⟩;rw[a];clear a)
    go_roundg (T-(k+1))
    case measure=>omega
    case rel=>exact⟨k+1,c,O,by omega,rfl,rfl,by go_num,by omega,x,r⟩
   ·cases R
    ·have x:Hid _:=W.out (by rw[z.out,F];rfl)
     go_wp2_with (go_at_call 92;refine QU j.out ?_;rintro e V ⟨rfl,a⟩;rw[a];clear a)
     go_roundg (T-(k+1))
     case measure=>omega
     case rel=>exact⟨k+1,c,O,by omega,rfl,rfl,by go_num,by omega,x,r⟩
    ·have x:Hid _:=HY.out (by rw[z.out,F];rfl)
     have a1:Hid _:=a2.out F
     go_upto_region 8 with (first | (go_at_call 92;refine QU j.out ?_;rintro e V ⟨rfl,a⟩;rw[a];clear a) | (go_at_call 72;refine QU a1.out ?_;rintro e w2 ⟨y,rfl,x2⟩))
     have al:Hid _:=r.out.Vb x2.kept;have bc:Hid _:=x2.own.srcX.cells;have ag:Hid _:=x2.kept
     have bk:y.ao=none->B.length=0/\y.cap=0:=fun e=>by
      rcases x2.own.Vm with ⟨q1,q2,q3⟩ | ⟨g,bo,q1,-⟩
      ·exact⟨q2,by rw[q1]⟩
      ·rw[e]at q1;cases q1
     clear x2 c1 q3;go_wp2_with (at_builtin;refine ed _ rfl (.tmp 40) (.tmp 41) 61 rfl iS (.string ⟨#[]⟩) 16 c (aB O) underlying61 bf aS aT a0 rfl Rc rfl al.out.own y.ao B.length y.cap (cN B) rfl (by simp[aB,cN]) bk bc.out (lY B) (by simp only[aB];omega) (by omega) ?_;intro h5 w5 d q;rw[CT]at d;have A:Hid _:=al.out.Vl q d;clear d q)
     go_roundg (T-(k+1))
     case measure=>omega
     case rel=>exact⟨k+1,h5,O++B,by omega,rfl,by simp[aB],by go_num,by simp;omega,x,A⟩
  ·have e:k=T:=by omega
   subst e;obtain⟨U,HU⟩:∃U,Hid (Dj b w k=U):=⟨_,rfl⟩
   have e2:O=U:=by rw[<-HU.out,G.out];rfl
   subst e2;have HX:Hid _:=r.out.own.srcX;have ai:Hid _:=r.out.kept;have HR:Hid (bW b w k=(List.range k).filter (sJ b w k O)):=by show _=_;unfold bW;rw[HU.out]
   have a4:Hid (gw wr wr ⟨none,0⟩ (bB [])):=⟨QZ _ _ _ _,(by intro k hk;cases hk),ab.refl _ _⟩;clear r G;go_wp2
   go_loopg [9,10] k (fun g b1 i w2=>∃(m:Nat) (y:Hd) (L:List Nat),m<=k/\g=k-m/\b1=.slice y.ao L.length y.cap/\i=.int .i64 m/\L.length<=m/\Hid (L=(List.range m).filter (sJ b w k O))/\Hid (gw wr w2 y (bB L)))
   case atStart=>exact⟨0,⟨none,0⟩,[],by omega,rfl,rfl,rfl,by simp,rfl,a4⟩
   case round =>
    obtain⟨m,y,L,hm,bv,rfl,rfl,hL,G,r⟩:=hrel
    by_cases az:m<k
    ·have p:m<w.length:=by omega
     have ag:Hid _:=ai.out.trans r.out.kept;have n:Hid _:=fz.Vb HD.out ag.out;obtain⟨c0,c1,hb⟩:=n.out.cells;obtain⟨gs,rfl,be,-,-,q2,q3⟩:=n.out.s.2 m w[m] (QP p);have bg:(m:Int)<(k:Int):=by omega
     have ax:(m:Int)<(w.length:Int):=by omega
     have z:Hid (sJ b w k O m=(aV w m k&&((w[m].k.toList == [36,101])||((w[m].k.toList == [36,102])&&aJ O (tS b (w[m].h+1)))))):=by show _=_;unfold sJ;rw[bM w m p]
     have a3:Hid ((w[m].k.toList == [36,102])=true->w[m].h+1<b.length):=fun h=>by have:=an.out.f m az;rw[<-bM w m p]at this;exact this h
     have HY:Hid (sJ b w k O m=true->L++[m]=(List.range (m+1)).filter (sJ b w k O)):=fun h=>by rw[gZ,QW h,<-G.out]
     have W:Hid (sJ b w k O m=false->L=(List.range (m+1)).filter (sJ b w k O)):=fun h=>by rw[gZ,QT (by rw[h];simp),Rl,<-G.out]
     have j:Hid _:=(lk f m k b M o w _ l wr n.out (by omega) (by omega) hS);obtain⟨R,Q⟩:∃R,Hid (aV w m k=R):=⟨_,rfl⟩
     rw[Q.out]at z j;generalize w[m].k=Y at *;generalize w[m].h=C at *;obtain⟨v,Hv⟩:∃v,Hid (tS b (C+1)=v):=⟨_,rfl⟩
     rw[Hv.out]at z;have Z:Hid (∀E,ab [] wr E->Calls prog 93 #[.slice c.ao O.length c.cap,.string v] E fun e S=>e=.returned (.bool (aJ O v))/\S=E):=fun E kx=>j9 O c.ao c.cap v E (ge.Vb HX.out (r.out.kept.trans kx)) (by omega)
     obtain⟨hs,a7⟩:∃hs,Hid (aJ O v=hs):=⟨_,rfl⟩
     rw[a7.out]at Z z;have ba:=r.out.own
     cases R
     ·have x:Hid _:=W.out (by rw[z.out];rfl)
      go_wp2_with (go_at_call 92;refine QU j.out ?_;rintro e V ⟨rfl,a⟩;rw[a];clear a)
      go_roundg (k-(m+1))
      case measure=>omega
      case rel=>exact⟨m+1,y,L,by omega,rfl,rfl,by go_num,by omega,x,r⟩
     ·cases F:(Y.toList == [36,101])
      ·cases h3:(Y.toList == [36,102])
       ·have x:Hid _:=W.out (by rw[z.out,F,h3];rfl)
        go_wp2_with (go_at_call 92;refine QU j.out ?_;rintro e V ⟨rfl,a⟩;rw[a];clear a)
        go_roundg (k-(m+1))
        case measure=>omega
        case rel=>exact⟨m+1,y,L,by omega,rfl,rfl,by go_num,by omega,x,r⟩
       ·have bd:=a3.out h3
        obtain⟨gT,rfl,bw,t0,-⟩:=n.out.t.2 (C+1) _ (iw b (C+1) bd);replace t0:wr.cell? ⟨gT,(C+1)*5,none⟩=some (.string (tS b (C+1))):=t0;rw[Hv.out]at t0;have bs:(C:Int)+1<(b.length:Int):=by omega
        have b0:IntKind.i64.wrap ((C:Int)+1)=(C:Int)+1:=by rw[R9];omega
        have bT:((C:Int)+1).toNat=C+1:=by omega
        have bz:(0:Int)<=(C:Int)+1:=by omega
        go_upto_region 17 with (go_at_call 92;refine QU j.out ?_;rintro e V ⟨rfl,a⟩;rw[a];clear a)
        have P:Hid _:=r.out.Vb (ab.refl [] wr).drew;have ap:=P.out.own
        go_region_with (go_at_call 93;refine(Z.out _ (by exact(ab.refl [] wr).drew)).mono ?_;rintro e V ⟨rfl,a⟩;rw[a];clear a)
        all_goals
         clear c0 q2 t0
         cases hs
         ·have x:Hid _:=W.out (by rw[z.out,F,h3];rfl)
          go_wp2
          go_roundg (k-(m+1))
          case measure=>omega
          case rel=>exact⟨m+1,y,L,by omega,rfl,rfl,by go_num,by omega,x,P⟩
         ·have x:Hid _:=HY.out (by rw[z.out,F,h3];rfl)
          go_wp2_with (at_builtin;refine oi _ rfl (.tmp 93) (.tmp 95) 26 rfl iN (.int .i64 0) 8 y (bB L) [.int .i64 m] underlying26 ar I J K rfl Rc rfl ap (by simp only[bB];omega) (by omega) rfl rfl (by simp[Value.oneCell']) ?_;intro h5 w5 d q;rw[tn]at d;have A:Hid _:=P.out.Vl q d;clear d q)
          go_roundg (k-(m+1))
          case measure=>omega
          case rel=>exact⟨m+1,h5,L++[m],by omega,rfl,by simp[bB],by go_num,by simp;omega,x,A⟩
      ·have x:Hid _:=HY.out (by rw[z.out,F];rfl)
       have h3:(Y.toList == [36,102])=false:=by
        cases h:(Y.toList == [36,102])
        ·rfl
        ·exact(Nk F h).elim
       go_wp2_with (first | (go_at_call 92;refine QU j.out ?_;rintro e V ⟨rfl,a⟩;rw[a];clear a) | (at_builtin;refine oi _ rfl (.tmp 93) (.tmp 95) 26 rfl iN (.int .i64 0) 8 y (bB L) [.int .i64 m] underlying26 ar I J K rfl Rc rfl ba (by simp only[bB];omega) (by omega) rfl rfl (by simp[Value.oneCell']) ?_;intro h5 w5 d q;rw[tn]at d;have A:Hid _:=r.out.Vl q d;clear d q))
       go_roundg (k-(m+1))
       case measure=>omega
       case rel=>exact⟨m+1,h5,L++[m],by omega,rfl,by simp[bB],by go_num,by simp;omega,x,A⟩
    ·have e:m=k:=by omega
     subst e;rw[<-HR.out]at G;have af:Hid (bW b w m=L):=G.out.symm;go_wp2;go_ret;exact⟨y,by rw[af.out];rfl,by rw[af.out];exact r.out.base ai.out⟩
def eU(T:List Tk)(S:List Sm)(a:Nat)(x:ByteArray):Int :=
 if bE T S x a<0 then -1 else if(aC (au S (bE T S x a).toNat).k||aV S (bE T S x a).toNat a)=true then bE T S x a else -1
theorem qS:bE b w S l=-1∨∃k,k<l/\bE b w S l=(k:Int):=by
 unfold bE
 cases h:(List.range l).find? (qL b w S) with
 | none=>exact Q1 rfl
 | some j=>exact QV ⟨j,Ra.1 (Rz h),rfl⟩
theorem p9:eU b w y S=-1∨∃k,k<y/\eU b w y S=(k:Int):=by
 unfold eU
 split
 ·exact Q1 rfl
 ·next h =>
  split
  ·rcases qS b w S y with e | ⟨k,a,e⟩
   ·omega
   ·exact QV ⟨k,a,e⟩
  ·exact Q1 rfl
theorem xr(G:fz H L b M o w D l)(B:nK b w f) :
  Calls prog 128 #[.pointer (some ⟨L,0,none⟩),.int .i64 f,.string n] H fun e h=>e=.returned (.int .i64 (eU b w f n))/\ab [] H h:=by
 have j:Hid _:=oC L f n b M o w D l H G B.ok.m B.ok.s B.ok.a;have d:Hid (eU b w f n=if bE b w n f<0 then -1 else if(aC (au w (bE b w n f).toNat).k||aV w (bE b w n f).toNat f)=true then bE b w n f else -1):=rfl;generalize eU b w f n=R at *;have Y:=B.ok.m;have W:=B.ok.s
 rcases qS b w n f with e | ⟨k,hk,e⟩
 ·rw[e]at j d
  rw[QW (by omega)]at d;go_enter func128,ntmps128;go_wp2_with (go_at_call 171;refine QU j.out ?_;rintro e S ⟨rfl,A⟩;have g:Hid _:=A;clear A);go_ret;exact⟨QN d.out.symm,g.out⟩
 ·rw[e]at j d
  rw[QT (by omega),Sa]at d;have y:k<w.length:=by omega
  have X:¬(k:Int)<0:=by omega
  have P:(k:Int)<(w.length:Int):=by omega
  have Q:(0:Int)<=(k:Int):=by omega
  obtain⟨r,u⟩:∃r,Hid ((au w k).k=r):=⟨_,rfl⟩
  have T:Hid (∀h,ab [] H h->∃t,D=some ⟨t,0,none⟩/\t<h.heap.size/\h.cell? ⟨t,k*4+3,none⟩=some (.string r)/\h.cell? ⟨L,1,none⟩=some (.slice D w.length l)/\L<h.heap.size/\Calls prog 92 #[.pointer (some ⟨L,0,none⟩),.int .i64 k,.int .i64 f] h fun e K=>e=.returned (.bool (aV w k f))/\K=h):=fun h Z=>by
   have I:=G.Vb Z;obtain⟨-,N,O⟩:=I.cells;obtain⟨t,U,x,-,-,-,J⟩:=I.s.2 k w[k] (QP y);rw[bM w k y,u.out]at J;exact⟨t,U,x,J,N,O,lk L k f b M o w _ l h I (by omega) Y W⟩
  rw[u.out]at d;clear G;go_enter func128,ntmps128
  go_upto_region 4 with (go_at_call 171;refine QU j.out ?_;rintro e S ⟨rfl,A⟩;have g:Hid _:=A;clear A)
  obtain⟨t,rfl,x,J,N,O,v⟩:=T.out S g.out;have i:Hid _:=v;clear v;obtain⟨E,F⟩:∃E,Hid (aV w k f=E):=⟨_,rfl⟩
  rw[F.out]at i d;obtain⟨q,p⟩:∃q,Hid (aC r=q):=⟨_,rfl⟩
  rw[p.out]at d
  cases z:(q||E)
  ·rw[z]at d
   simp only[Bool.or_eq_false_iff]at z;obtain⟨rfl,rfl⟩:=z;rw[QT (by simp)]at d;go_wp2_with (first | (go_at_call 92;refine QU i.out ?_;rintro e C ⟨rfl,c⟩;rw[c];clear c) | (go_at_call 122;refine(fT r _).mono ?_;rintro e C ⟨rfl,c⟩;rw[c,p.out];clear c));go_ret;exact⟨QN d.out.symm,g.out⟩
  ·rw[z,QW rfl]at d
   cases q
   ·have V:E=true:=by simpa using z
    subst V;go_wp2_with (first | (go_at_call 92;refine QU i.out ?_;rintro e C ⟨rfl,c⟩;rw[c];clear c) | (go_at_call 122;refine(fT r _).mono ?_;rintro e C ⟨rfl,c⟩;rw[c,p.out];clear c));go_ret;exact⟨QN d.out.symm,g.out⟩
   ·go_wp2_with (first | (go_at_call 92;refine QU i.out ?_;rintro e C ⟨rfl,c⟩;rw[c];clear c) | (go_at_call 122;refine(fT r _).mono ?_;rintro e C ⟨rfl,c⟩;rw[c,p.out];clear c))
    go_ret;exact⟨QN d.out.symm,g.out⟩
def iD(T:List Tk)(S:List Sm)(j:Int):Nat:=if j<0 then 0 else if aC (au S j.toNat).k=true then(bW T S j.toNat).length else 0
set_option maxRecDepth 512
theorem IW(v:Value)(T:List Tk)(S:List Sm)(w:World) :
  Calls prog 129 #[v,.int .i64 (-1)] w fun e b=>e=.returned (.int .i64 (iD T S (-1):Nat))/\ab [] w b:=by
 have a:Hid (iD T S (-1)=0):=rfl;go_enter func129,ntmps129;go_wp2;go_ret;exact⟨by rw[a.out];rfl,ab.refl _ _⟩
set_option maxRecDepth 100000
theorem yR(k:fz H L b M o w D l)(n:nK b w f)(C:T<f) :
  Calls prog 129 #[.pointer (some ⟨L,0,none⟩),.int .i64 T] H fun e r=>e=.returned (.int .i64 (iD b w T:Nat))/\ab [] H r:=by
 have N:=n.ok.m;have c:T<w.length:=by omega
 have q:¬(T:Int)<0:=by omega
 have x:(T:Int)<(w.length:Int):=by omega
 have y:(0:Int)<=(T:Int):=by omega
 have d:Hid (iD b w T=if aC (au w T).k=true then(bW b w T).length else 0):=by show _=_;unfold iD;rw[QT q,Sa]
 obtain⟨-,G,K⟩:=k.cells;obtain⟨J,rfl,B,-,-,-,E⟩:=k.s.2 T w[T] (QP c);rw[bM w T c]at E
 have A:Hid (aC (au w T).k=true->Calls prog 62 #[.pointer (some ⟨L,0,none⟩),.int .i64 T] H fun e r=>∃g,e=.returned (.slice g.ao (bW b w T).length g.cap)/\gw H r g (bB (bW b w T))):=fun h=>nP L T b M o w _ l H k (n.mono (by omega)) c (n.e T C (by
  unfold aC at h
  rcases RB _ _ ▸ h with h | h <;> exact fX h (by decide)))
 have t:Hid (aC (au w T).k=(((au w T).k.toList == [36,97])||((au w T).k.toList == [36,112]))):=rfl;clear k n;generalize iD b w T=R at *;generalize (au w T).k=z at *;generalize aC z=p at *
 cases p
 ·rw[QT (by simp)]at d
  have j:=t.out.symm;simp only[Bool.or_eq_false_iff]at j;obtain⟨v,I⟩:=j;go_enter func129,ntmps129;go_wp2;go_ret;exact⟨by rw[d.out];rfl,ab.refl _ _⟩
 ·rw[QW rfl]at d
  have u:Hid _:=A.out rfl;have j:=t.out.symm
  cases v:(z.toList == [36,97])
  ·rw[v,Sp]at j
   go_enter func129,ntmps129;go_wp2_with (go_at_call 62;refine QU u.out ?_;rintro e F ⟨g,rfl,i⟩;have a:Hid _:=i.kept;clear i);go_ret;exact⟨by rw[d.out];rfl,a.out⟩
  ·go_enter func129,ntmps129
   go_wp2_with (go_at_call 62;refine QU u.out ?_;rintro e F ⟨g,rfl,i⟩;have a:Hid _:=i.kept;clear i);go_ret;exact⟨by rw[d.out];rfl,a.out⟩
def O9(m:Nat):ByteArray:=⟨#[UInt8.ofNat (65+m % 20)]⟩
def IE(m:Nat):ByteArray:=⟨#[UInt8.ofNat (85+m % 5)]⟩
def yM:Nat->Nat->ByteArray->ByteArray
 | 0,_,s=>s
 | f+1,h,s=>if 0<h then yM f ((h-1) / 5) (IE (h-1)++s) else s
def mC(m:Nat):ByteArray:=yM (m+1) (m / 20) (O9 m)
theorem ID:(convert 312 9 (.slice (some ⟨H.heap.size,0,none⟩) 1 1)).run prog (H.alloc (.cells #[.int .u8 (65+(l:Int) % 20)] 5))=.ok (.string (O9 l)) (H.alloc (.cells #[.int .u8 (65+(l:Int) % 20)] 5)):=by
 have e:(65+(l:Int) % 20)=((UInt8.ofNat (65+l % 20)).toNat:Int):=by
  rw[UInt8.toNat_ofNat'];omega
 rw[e]
 exact Uh (H.alloc (.cells #[.int .u8 ((UInt8.ofNat (65+l % 20)).toNat:Int)] 5)) 312 9 5 ⟨H.heap.size,0,none⟩ 1 [UInt8.ofNat (65+l % 20)] underlying312 underlying5 underlying9 (by
  intro j a
  match j,a with
  | 0,_=>simp[Addr.add])
theorem IF:(convert 312 9 (.slice (some ⟨H.heap.size,0,none⟩) 1 1)).run prog (H.alloc (.cells #[.int .u8 (85+(l:Int) % 5)] 5))=.ok (.string (IE l)) (H.alloc (.cells #[.int .u8 (85+(l:Int) % 5)] 5)):=by
 have e:(85+(l:Int) % 5)=((UInt8.ofNat (85+l % 5)).toNat:Int):=by
  rw[UInt8.toNat_ofNat'];omega
 rw[e]
 exact Uh (H.alloc (.cells #[.int .u8 ((UInt8.ofNat (85+l % 5)).toNat:Int)] 5)) 312 9 5 ⟨H.heap.size,0,none⟩ 1 [UInt8.ofNat (85+l % 5)] underlying312 underlying5 underlying9 (by
  intro j a
  match j,a with
  | 0,_=>simp[Addr.add])
theorem Eq:yM y 0 S=S:=by cases y <;> rfl
theorem Cj(y:l<=1000000000) :
  Calls prog 240 #[.int .i64 ((l:Int)+1)] H fun e u=>e=.returned (.string (mC l))/\ab [] H u:=by
 have a:=fun k=>ID l k
 have b:0<=(l:Int) % 20/\(l:Int) % 20<=19:=by omega
 go_enter func240,ntmps240;go_wp2
 go_loopg [3,4] (l / 20) (fun g t r wr=>∃(f h:Nat) (s:ByteArray),g=h/\r=.int .i64 h/\t=.string s/\h<=f/\h<=1000000000/\s.size+f<=1000000003/\Hid (yM f h s=mC l)/\Hid (ab [] H wr))
 case atStart=>exact⟨l+1,l / 20,O9 l,rfl,by simp,rfl,by omega,by omega,(by show 1+_<=_;omega),rfl,(ab.refl _ _).alloc _⟩
 case round =>
  obtain⟨f,h,s,w,rfl,rfl,v,x,z,m,n⟩:=hrel;clear a b
  cases h with
  | zero =>
   have d:Hid (s=mC l):=by show _=_;rw[<-m.out,Eq]
   go_wp2;go_ret;exact⟨by rw[<-d.out];rfl,n.out⟩
  | succ q =>
   obtain⟨c,rfl⟩:∃c,f=c+1:=⟨f-1,by omega⟩
   have a:=fun k=>IF q k
   have o:0<=(q:Int) % 5/\(q:Int) % 5<=4:=by omega
   have p:(0:Int)<(q:Int)+1:=by omega
   have d:Hid (yM c (q / 5) (IE q++s)=mC l):=by
    show _=_
    rw[<-m.out,yM,QW (by omega),SD]
   have j:(IE q).size=1:=rfl;have i:Hid ((IE q++s).size=1+s.size):=by show _=_;rw[Sd,j]
   go_wp2
   go_roundg (q / 5)
   case measure=>omega
   case rel=>exact⟨c,q / 5,IE q++s,rfl,by simp,rfl,by omega,by omega,by have:=i.out;omega,d,n.out.alloc _⟩
def An(s:ByteArray)(i:Nat):Bool:=((mC i).toList==s.toList)
def iO(s:ByteArray)(top:Nat):Nat:=match (List.range top).find? (An s) with
 | some i=>i+1
 | none=>0
theorem EK(d:z1<v)(h:An a z1=true)(b:∀j,j<z1->An a j=false):iO a v=z1+1:=by
 have e:(List.range v).find? (An a)=some z1:=by
  rw[Sj];exact⟨h,Ra.2 d,fun j c=>by rw[b j c];rfl⟩
 unfold iO;rw[e]
theorem I9(b:∀j,j<v->An a j=false):iO a v=0:=by
 have e:(List.range v).find? (An a)=none:=by
  rw[Sk];intro j c;rw[b j (Ra.1 c)];simp
 unfold iO;rw[e]
theorem EJ(w:l<=1000000000) :
  Calls prog 213 #[.string S,.int .i64 l] H fun e r=>e=.returned (.int .i64 (iO S l:Nat))/\ab [] H r:=by
 go_enter func213,ntmps213;go_wp2
 go_loopg [5] l (fun g i wr=>∃k:Nat,k<=l/\g=l-k/\i=.int .i64 ((k:Int)+1)/\Hid (∀j,j<k->An S j=false)/\Hid (ab [] H wr))
 case atStart=>exact⟨0,by omega,rfl,by simp,(fun j q=>by omega),ab.refl _ _⟩
 case round =>
  obtain⟨k,v,u,rfl,f,d⟩:=hrel
  by_cases m:k<l
  ·have h:(k:Int)+1<=(l:Int):=by omega
   have n:Hid _:=(Cj k wr (by omega));have o:Hid (An S k=((mC k).toList==S.toList)):=rfl;generalize mC k=t at *
   cases p:(t.toList==S.toList)
   ·have b:Hid _:=dU f.out (by rw[o.out,p])
    go_wp2_with (go_at_call 240;refine QU n.out ?_;rintro e s ⟨rfl,c⟩;have a:Hid _:=d.out.trans c;clear c)
    go_roundg (l-(k+1))
    case measure=>omega
    case rel=>exact⟨k+1,by omega,rfl,by go_num,b,a⟩
   ·have b:Hid (iO S l=k+1):=EK m (by rw[o.out,p]) f.out
    go_wp2_with (go_at_call 240;refine QU n.out ?_;rintro e s ⟨rfl,c⟩;have a:Hid _:=d.out.trans c;clear c);go_ret;exact⟨by rw[b.out];rfl,a.out⟩
  ·have b:Hid (iO S l=0):=I9 (fun j q=>f.out j (by omega))
   have h:¬(k:Int)+1<=(l:Int):=by omega
   go_wp2;go_ret;exact⟨by rw[b.out];rfl,d.out⟩
def kU{α:Type}(e s:Nat)(f:α->List Value)(L:List α):dN:=⟨e,s,L.length,L.flatMap f⟩
theorem N6{α:Type}{f:α->List Value}(b:∀x,(f x).length=v)(L:List α)(j:Nat)(t:α)(h:L[j]?=some t)(c:Nat)(e:c<v):(L.flatMap f)[j*v+c]?=(f t)[c]?:=by
 induction L generalizing j with
 | nil=>cases h
 | cons a L d =>
  rw[RI]
  cases j with
  | zero =>
   simp at h;subst h;rw[Q7 (by rw[b];omega)];simp
  | succ j =>
   rw[Q5 (by rw[b,Nat.succ_mul];omega),show(j+1)*v+c-(f a).length=j*v+c by rw[b,Nat.succ_mul];omega];exact d j (by simpa using h)
theorem gM{α:Type}(f:α->List Value)(L:List α)(x:α):(⟨(kU y l f L).e,(kU y l f L).size,(kU y l f L).n+1,(kU y l f L).xs++f x⟩:dN)=kU y l f (L++[x]):=by
 simp[kU]
def cm{α:Type}(w:World)(ao:Option Addr)(s:Nat)(f:α->List Value)(L:List α):Prop:=∀(k:Nat) (x:α),L[k]?=some x->∃g,ao=some ⟨g,0,none⟩/\g<w.heap.size/\∀(c:Nat) (u:Value),(f x)[c]?=some u->w.cell? ⟨g,k*s+c,none⟩=some u
theorem cm.Vb{α:Type}{f:α->List Value}{L:List α}(h:cm x z6 v f L)(k:ab [] x d):cm d z6 v f L:=by
 intro j m i;obtain⟨g,e,a,b⟩:=h j m i;exact⟨g,e,QX a k.size,fun c u l=>by rw[Q6 (k.block g a (by simp))];exact b c u l⟩
theorem aw.srcG{α:Type}{f:α->List Value}{L:List α}(o:aw x I (kU v z1 f L))(e:∀a,(f a).length=z1):cm x I.ao z1 f L:=by
 intro k a d;have l:=(Q8.1 d).1;obtain⟨g,b,j,-⟩:=qq o (show 0<L.length by omega);refine⟨g,b,j,fun c u h=>o.cell b (k*z1+c) u ?_⟩;have i:c<z1:=by rw[<-e a];exact(Q8.1 h).1
 show(L.flatMap f)[k*z1+c]?=some u
 rw[N6 e L k a d c i];exact h
structure Lt where
 c:Int
 file:ByteArray
 line:Int
 col:Int
def Qe(l:Lt):List Value:=[.int .u8 l.c,.string l.file,.int .i64 l.line,.int .i64 l.col]
theorem NM(l:Lt):(Qe l).length=4:=rfl
def uN(L:List Lt):dN:=kU 311 4 Qe L
theorem OV:(prog.info? 311).map (fun i=>(i.zero,i.size,i.bytes))=some (some (.agg #[.int .u8 0,.string ⟨#[]⟩,.int .i64 0,.int .i64 0]),4,40):=by kernel_rfl
def dC(T:List Tk):Prop:=∀t∈T,t.s.size<=1024/\0<=t.col/\t.col<=10000
def IL(t:Tk)(k:Nat):Lt:=⟨aF t.s k,t.file,t.line,t.col+k⟩
def um(t:Tk):List Lt:=(List.range t.s.size).map (IL t)
def eR(T:List Tk)(a z:Nat):List Lt:=((T.drop a).take (z-a)).flatMap um
theorem C3(d:y<=l)(f:l<b.length):eR b y (l+1)=eR b y l++um b[l]:=by
 unfold eR;have e:l+1-y=(l-y)+1:=by omega
 have c:l-y<(b.drop y).length:=by rw[RT];omega
 rw[e,RG c,Sh];have a:(b.drop y)[l-y]=b[l]:=by rw[TI];congr 1;omega
 rw[a];simp
theorem JN(t:Tk)(k:Nat)(h:k<t.s.size):(um t).take (k+1)=(um t).take k++[IL t k]:=by
 unfold um;rw[RG (by simpa using h)];simp
theorem Fj(hT:lj H M o b)(hl:b.length<=10000)(ha:y<=l)(hz:l<=b.length)(hO:dC b) :
  Calls prog 175 #[.slice M b.length o,.int .i64 y,.int .i64 l] H fun e q=>∃r,e=.returned (.slice r.ao (eR b y l).length r.cap)/\gw H q r (uN (eR b y l)):=by
 have al:=hT.1;have HT:Hid _:=hT;have X:Hid (gw H H ⟨none,0⟩ (uN [])):=⟨QZ _ _ _ _,(by intro k hk;cases hk),ab.refl _ _⟩;obtain⟨iL,af,I,J,K⟩:=Re OV;have S:Hid (([]:List Lt)=eR b y y):=by show _=_;unfold eR;simp
 clear hT;go_enter func175,ntmps175;go_wp2
 go_loopg [7,8] (l-y) (fun g ai i wr=>∃(k:Nat) (r:Hd) (O:List Lt),(y<=k/\k<=l)/\g=l-k/\ai=.slice r.ao O.length r.cap/\i=.int .i64 k/\O.length<=1024*k/\Hid (O=eR b y k)/\Hid (gw H wr r (uN O)))
 case atStart=>exact⟨y,⟨none,0⟩,[],⟨by omega,by omega⟩,rfl,rfl,rfl,by simp,S,X⟩
 case round =>
  obtain⟨k,r,O,⟨ag,az⟩,hg,rfl,rfl,ap,HE,HW⟩:=hrel
  by_cases aT:k<l
  ·have w:k<b.length:=by omega
   have aS:(k:Int)<(l:Int):=by omega
   have an:(k:Int)<(b.length:Int):=by omega
   have Y:Hid (O++um b[k]=eR b y (k+1)):=by show _=_;rw[C3 b y k ag w,<-HE.out]
   obtain⟨o1,o2,o3⟩:=hO b[k] (Rb w);obtain⟨f,rfl,ad,-⟩:=HT.out.2 k b[k] (QP w)
   have HC:Hid (∀q,ab [] H q->q.cell? ⟨f,k*5,none⟩=some (.string b[k].s)/\q.cell? ⟨f,k*5+2,none⟩=some (.string b[k].file)/\q.cell? ⟨f,k*5+3,none⟩=some (.int .i64 b[k].line)/\q.cell? ⟨f,k*5+4,none⟩=some (.int .i64 b[k].col)):=fun q kw=>by
    obtain⟨g,e,hg,c0,c1,c2,c3,c4⟩:=(lj.Vb HT.out kw).2 k b[k] (QP w)
    cases e
    exact⟨c0,c2,c3,c4⟩
   generalize b[k]=t at *;obtain⟨a,L,j,p,h⟩:=t;simp only at o1 o2 o3 HC;go_wp2_with fail
   go_loopg [7,9] a.size (fun g ai i wr=>∃(m:Nat) (z:Hd) (P:List Lt),m<=a.size/\g=a.size-m/\ai=.slice z.ao P.length z.cap/\i=.int .i64 m/\P.length<=O.length+m/\Hid (P=O++(um ⟨a,L,j,p,h⟩).take m)/\Hid (gw H wr z (uN P)))
   case atStart=>exact⟨0,r,O,by omega,rfl,rfl,rfl,by omega,by show _=_;simp,HW⟩
   case round =>
    obtain⟨m,z,P,hm,ar,rfl,rfl,hP,D,d⟩:=hrel;obtain⟨c0,c2,c3,c4⟩:=HC.out wr d.out.kept;have G:f<wr.heap.size:=QX ad d.out.kept.size
    by_cases c:m<a.size
    ·have a0:(m:Int)<(a.size:Int):=by omega
     have T:Hid (P++[IL ⟨a,L,j,p,h⟩ m]=O++(um ⟨a,L,j,p,h⟩).take (m+1)):=by show _=_;rw[D.out,JN _ m c,Sy]
     have U:Hid (Qe (IL ⟨a,L,j,p,h⟩ m)=[.int .u8 ((a[m]'c).toNat:Int),.string j,.int .i64 p,.int .i64 (h+m)]):=by show _=_;unfold Qe IL;simp only;rw[bP a m c]
     obtain⟨W,x⟩:∃W,Hid (wr.alloc (.cells #[.string j,.int .i64 p,.int .i64 (h+m)] 36)=W):=⟨_,rfl⟩
     have Q:ab [] wr W:=by rw[<-x.out];exact(ab.refl [] _).alloc _
     have C:W.heap[wr.heap.size]?=some (.cells #[.string j,.int .i64 p,.int .i64 (h+m)] 36 (0,0)):=by rw[<-x.out];exact QS _ _
     have E:Hid _:=d.out.Vb Q;have ac:=E.out.own;have d0:W.cell? ⟨f,k*5,none⟩=some (.string a):=by rw[Q6 (Q.block f G (by simp))];exact c0
     have d1:W.cell? ⟨wr.heap.size,0,none⟩=some (.string j):=by rw[aa C];rfl
     have d2:W.cell? ⟨wr.heap.size,1,none⟩=some (.int .i64 p):=by rw[aa C];rfl
     have d3:W.cell? ⟨wr.heap.size,2,none⟩=some (.int .i64 (h+m)):=by rw[aa C];rfl
     have HS:Hid (∀v h5,bt W v z h5->v.cell? ⟨f,k*5,none⟩=some (.string a)/\v.cell? ⟨wr.heap.size,0,none⟩=some (.string j)/\v.cell? ⟨wr.heap.size,1,none⟩=some (.int .i64 p)/\v.cell? ⟨wr.heap.size,2,none⟩=some (.int .i64 (h+m))):=fun v h5 gr=>by
      have q1:v.heap[f]?=W.heap[f]?:=gr.kept.block f (QX G Q.size) (fun hq=>by have:=d.out.far _ (aN hq);omega);have R:v.heap[wr.heap.size]?=W.heap[wr.heap.size]?:=gr.kept.block _ (ae C) (fun hq=>by have:=d.out.own.lt (aN hq);omega);exact⟨by rw[Q6 q1];exact d0,by rw[Q6 R];exact d1,by rw[Q6 R];exact d2,by rw[Q6 R];exact d3⟩
     have a1:wr.heap.size<W.heap.size:=ae C;have ax:f<W.heap.size:=by omega
     clear C Q
     go_upto_region 10 with fail
     rw[x.out]
     have s3:Hid (∀u∈([.int .u8 ((a[m]'c).toNat:Int),.string j,.int .i64 p,.int .i64 (h+m)]:List Value),u.oneCell'=true):=by
      intro u hu;simp only[List.mem_cons,List.not_mem_nil,or_false]at hu;rcases hu with rfl | rfl | rfl | rfl <;> rfl
     have s4:Hid ((uN P).n<=900000000):=by show P.length<=_;omega
     go_region_held3 (fun q=>q.cell? ⟨f,k*5,none⟩=some (.string a)/\q.cell? ⟨wr.heap.size,0,none⟩=some (.string j)/\q.cell? ⟨wr.heap.size,1,none⟩=some (.int .i64 p)/\q.cell? ⟨wr.heap.size,2,none⟩=some (.int .i64 (h+m))) (go_keep) ((refine bH W (by rfl) (.tmp 37) (.tmp 47) 267 (by rfl) iL (.agg #[.int .u8 0,.string ⟨#[]⟩,.int .i64 0,.int .i64 0]) 40 z (uN P) [.int .u8 ((a[m]'c).toNat:Int),.string j,.int .i64 p,.int .i64 (h+m)] underlying267 af I J K rfl (show 0<4 by omega) (by simp[Act.eval] <;> rfl) ac s4.out (by omega) (by simp[Act.eval]) rfl s3.out ?_;intro Z F v B A;obtain⟨q1,R,q3,q4⟩:=HS.out v _ A))
     rw[<-U.out,uN,gM]at B;have V:Hid _:=E.out.Vl A B;clear B A;go_wp2
     go_roundg (a.size-(m+1))
     case measure=>omega
     case rel=>exact⟨m+1,⟨Z,F⟩,P++[IL ⟨a,L,j,p,h⟩ m],by omega,rfl,by simp[uN,kU],by go_num,by simp;omega,T,V⟩
    ·have e:m=a.size:=by omega
     subst e
     have N:Hid (P=eR b y (k+1)):=by
      show _=_
      rw[D.out,<-Y.out]
      congr 1
      rw[Tu (by unfold um;simp)]
     go_wp2
     go_roundg (l-(k+1))
     case measure=>omega
     case rel=>exact⟨k+1,z,P,⟨by omega,by omega⟩,rfl,rfl,by go_num,by omega,N,d⟩
  ·have e:k=l:=by omega
   subst e;have N:Hid (eR b y k=O):=HE.out.symm;go_wp2;go_ret;exact⟨r,by rw[N.out];rfl,by rw[N.out];exact HW.out⟩
structure dj where
  ref:Int
  back:Nat
  need:Nat
  file:ByteArray
  line:Int
  col:Int
def kV(s:dj):List Value:=[.int .i64 s.ref,.int .i64 s.back,.int .i64 s.need,.string s.file,.int .i64 s.line,.int .i64 s.col]
theorem Mx(s:dj):(kV s).length=6:=rfl
def eI(L:List dj):dN:=kU 162 6 kV L
theorem mK(L:List dj)(x:dj):(⟨(eI L).e,(eI L).size,(eI L).n+1,(eI L).xs++kV x⟩:dN)=eI (L++[x]):=gM _ _ _ _ _
theorem tB(x:dj):∀u∈kV x,u.oneCell'=true:=by
  intro u a;simp only[kV,List.mem_cons,List.not_mem_nil,or_false]at a
  rcases a with rfl | rfl | rfl | rfl | rfl | rfl <;> rfl
structure jS where
  st:List dj
  why:Int
  file:ByteArray
  line:Int
  col:Int
def Qg(p:jS)(h:Hd):Value:=.agg #[.slice h.ao p.st.length h.cap,.int .i64 p.why,.string p.file,.int .i64 p.line,.int .i64 p.col]
theorem Lx:(prog.info? 162).map (fun i=>(i.zero,i.size,i.bytes))=some (some (.agg #[.int .i64 0,.int .i64 0,.int .i64 0,.string ⟨#[]⟩,.int .i64 0,.int .i64 0]),6,56):=by kernel_rfl
theorem fj{k l m n o:Value}(h:x.heap[v]?=some (.cells #[k,l,m,n,o] 122 (0,0)))(a b c d e:Value) :
    (x.setCell ⟨v,0,none⟩ a).cell? ⟨v,0,none⟩=some a/\((x.setCell ⟨v,0,none⟩ a).setCell ⟨v,1,none⟩ b).cell? ⟨v,1,none⟩=some b/\(((x.setCell ⟨v,0,none⟩ a).setCell ⟨v,1,none⟩ b).setCell ⟨v,2,none⟩ c).cell? ⟨v,2,none⟩=some c/\((((x.setCell ⟨v,0,none⟩ a).setCell ⟨v,1,none⟩ b).setCell ⟨v,2,none⟩ c).setCell ⟨v,3,none⟩ d).cell? ⟨v,3,none⟩=some d/\(((((x.setCell ⟨v,0,none⟩ a).setCell ⟨v,1,none⟩ b).setCell ⟨v,2,none⟩ c).setCell ⟨v,3,none⟩ d).setCell ⟨v,4,none⟩ e).cell? ⟨v,4,none⟩=some e:=by
  have f:=ah h 0 a;have g:=ah f 1 b;have i:=ah g 2 c;have j:=ah i 3 d;have p:=ah j 4 e;exact⟨by rw[aa f];rfl,by rw[aa g];rfl,by rw[aa i];rfl,by rw[aa j];rfl,by rw[aa p];rfl⟩
def Du(c:Int):ByteArray:=⟨#[UInt8.ofNat c.toNat]⟩
theorem Nh(c:Int)(d:0<=c/\c<256)(a:World):(convert 312 9 (.slice (some ⟨a.heap.size,0,none⟩) 1 1)).run prog (a.alloc (.cells #[.int .u8 c] 5))=.ok (.string (Du c)) (a.alloc (.cells #[.int .u8 c] 5)):=by
  have e:c=((UInt8.ofNat c.toNat).toNat:Int):=by
    rw[UInt8.toNat_ofNat'];omega
  unfold Du;generalize UInt8.ofNat c.toNat=u at *;rw[e]
  exact Uh (a.alloc (.cells #[.int .u8 (u.toNat:Int)] 5)) 312 9 5 ⟨a.heap.size,0,none⟩ 1 [u] underlying312 underlying5 underlying9 (by
    intro j b
    match j,b with
    | 0,_=>simp[Addr.add])
def nr(why:Int)(l:Lt):jS:=⟨[],why,l.file,l.line,l.col⟩
def rN(T:List Tk)(S:List Sm)(refs tags:List Nat)(n:Nat)(l:Lt):dj :=
  if n<=refs.length then⟨(refs.getD (n-1) 0:Nat),0,iD T S (refs.getD (n-1) 0:Nat),l.file,l.line,l.col⟩ else⟨-2,tags.getD (n-refs.length-1) 0,0,l.file,l.line,l.col⟩
def nj(T:List Tk)(S:List Sm)(refs:List Nat)(en:Lt):List Lt->List dj->List Nat->ByteArray->Bool->jS
  | [],P,_,num,_=>if(num.toList == [])=false then nr 4 en else if P.length=0 then nr 1 en else⟨P,0,⟨#[]⟩,0,0⟩
  | l :: r,P,tags,num,fr =>
    if 85<=l.c/\l.c<=89 then nj T S refs en r P tags (num++Du l.c) false
    else if 65<=l.c/\l.c<=84 then
      (if iO (num++Du l.c) (refs.length+tags.length)=0 then nr 5 l
       else nj T S refs en r (P++[rN T S refs tags (iO (num++Du l.c) (refs.length+tags.length)) l]) tags ⟨#[]⟩ true)
    else if l.c=90/\fr=true then nj T S refs en r P (tags++[P.length-1]) num false
    else if l.c=63/\(num.toList == [])=true then nj T S refs en r (P++[⟨-1,0,0,l.file,l.line,l.col⟩]) tags num false
    else nr 4 l
def j4(T:List Tk)(S:List Sm)(refs:List Nat)(en:Lt)(L:List Lt):jS:=nj T S refs en L [] [] ⟨#[]⟩ false
theorem yS:iO S l<=l:=by
  unfold iO
  cases h:(List.range l).find? (An S) with
  | none=>exact Ro _
  | some i=>have:=Ra.1 (Rz h);show i+1<=l;omega
structure FR(w wr:World)(en:Lt)(P:List dj)(h:Hd)(tags:List Nat)(ht:Hd):Prop where
  e:wr.heap[w.heap.size]?=some (.cells #[.string en.file,.int .i64 en.line,.int .i64 en.col] 36 (0,0))
  r:wr.heap[w.heap.size+1]?=some (.cells #[.slice none 0 0,.int .i64 0,.string ⟨#[]⟩,.int .i64 0,.int .i64 0] 122 (0,0))
  p:wr.heap[w.heap.size+2]?=some (.cells #[.slice h.ao P.length h.cap,.int .i64 0,.string ⟨#[]⟩,.int .i64 0,.int .i64 0] 122 (0,0))
  op:aw wr h (eI P)
  ot:aw wr ht (bB tags)
  fp:∀k,h.blk=some k->w.heap.size+2<k
  ft:∀k,ht.blk=some k->w.heap.size+2<k
  ap:∀k,h.blk=some k->ht.blk≠some k
  kept:ab [] w wr
theorem FR.Vb{b:Lt}{P:List dj}(a:FR x d b P I z3 z0)(k:ab [] d N):FR x N b P I z3 z0 :=
  ⟨k.get a.e (by simp),k.get a.r (by simp),k.get a.p (by simp),a.op.Vb k,a.ot.Vb k,a.fp,a.ft,a.ap,a.kept.trans k⟩
theorem pK(k:ab z3 d N)(c:∀q∈z3,x.heap.size<=q)(a:ab [] x d):ab [] x N :=
  ⟨k.os.trans a.os,k.tape.trans a.tape,k.output.trans a.output,Q3 a.size k.size,fun q b _=>by
    rw[k.block q (QX b a.size) (fun e=>by have:=c q e;omega),a.block q b (by simp)]⟩
theorem FR.addT{j:Lt}{P:List dj}{b:List Nat}(a:FR x d j P I z3 z0)(g:bt d N z0 z4)(o:aw N z4 (bB b)):FR x N j P I b z4:=by
  have i:∀q,q<=x.heap.size+2->q∉z0.blk.toList:=fun q h l=>by have:=a.ft q (aN l);omega
  have m:=ae a.p;refine⟨g.kept.get a.e (i _ (by omega)),g.kept.get a.r (i _ (by omega)),g.kept.get a.p (i _ (by omega)),g.beside a.op (fun k c=>a.ap k c),o,a.fp,fun k c=>?_,fun k c f=>?_,pK g.kept (fun q h=>by have:=a.ft q (aN h);omega) a.kept⟩
  · rcases g.blk with e | ⟨q,e,h⟩
    · exact a.ft k (by rw[<-e];exact c)
    · rw[e]at c;cases c;omega
  · rcases g.blk with e | ⟨q,e,h⟩
    · exact a.ap k c (by rw[<-e];exact f)
    · rw[e]at f;cases f
      have:=a.op.lt c;omega
theorem FR.addP{t:Lt}{P j:List dj}(a:FR x d t P I z3 z0)(g:bt d N I z4)(o:aw N z4 (eI j)){m:Nat}(n:m=j.length):FR x (N.setCell ⟨x.heap.size+2,0,none⟩ (.slice z4.ao m z4.cap)) t j z4 z3 z0:=by
  subst n;have s:∀q,q<=x.heap.size+2->q∉I.blk.toList:=fun q b n=>by have:=a.fp q (aN n);omega
  have z:=ae a.p;have u:=g.kept.get a.e (s _ (by omega));have y:=g.kept.get a.r (s _ (by omega));have w:=g.kept.get a.p (s _ (by omega))
  have h:∀k,z4.blk=some k->x.heap.size+2<k:=fun k c=>by
    rcases g.blk with e | ⟨q,e,b⟩
    · exact a.fp k (by rw[<-e];exact c)
    · rw[e]at c;cases c;omega
  have i:aw N z0 (bB z3):=g.beside a.ot (fun k c f=>a.ap k f c);have l:ab [x.heap.size+2] N (N.setCell ⟨x.heap.size+2,0,none⟩ (.slice z4.ao j.length z4.cap)):=(ab.refl _ _).setCell (Q1 (by simp)) _;refine⟨l.get u (by simp),l.get y (by simp),by rw[ah w];rfl,o.Vg (fun q b=>l.block q (o.lt b) (by simp;have:=h q b;omega)),i.Vg (fun q b=>l.block q (i.lt b) (by simp;have:=a.ft q b;omega)),h,a.ft,fun k c f=>?_,?_⟩
  · rcases g.blk with e | ⟨q,e,b⟩
    · exact a.ap k (by rw[<-e];exact c) f
    · rw[e]at c;cases c
      have:=a.ot.lt f;omega
  · have v:ab [] x N:=pK g.kept (fun q b=>by have:=a.fp q (aN b);omega) a.kept
    exact v.setCell (QV (by simp)) _
theorem FR.cells{b:Lt}{P:List dj}(a:FR x d b P I z3 z0) :
    (d.cell? ⟨x.heap.size,0,none⟩=some (.string b.file)/\d.cell? ⟨x.heap.size,1,none⟩=some (.int .i64 b.line)/\d.cell? ⟨x.heap.size,2,none⟩=some (.int .i64 b.col)) /\
    (d.cell? ⟨x.heap.size+1,0,none⟩=some (.slice none 0 0)/\d.cell? ⟨x.heap.size+1,1,none⟩=some (.int .i64 0)/\d.cell? ⟨x.heap.size+1,2,none⟩=some (.string ⟨#[]⟩)/\d.cell? ⟨x.heap.size+1,3,none⟩=some (.int .i64 0)/\d.cell? ⟨x.heap.size+1,4,none⟩=some (.int .i64 0)) /\
    (d.cell? ⟨x.heap.size+2,0,none⟩=some (.slice I.ao P.length I.cap)/\d.cell? ⟨x.heap.size+2,1,none⟩=some (.int .i64 0)/\d.cell? ⟨x.heap.size+2,2,none⟩=some (.string ⟨#[]⟩)/\d.cell? ⟨x.heap.size+2,3,none⟩=some (.int .i64 0)/\d.cell? ⟨x.heap.size+2,4,none⟩=some (.int .i64 0)) /\
    (d.frozen? ⟨x.heap.size+1,0,none⟩=false/\d.frozen? ⟨x.heap.size+1,1,none⟩=false/\d.frozen? ⟨x.heap.size+1,2,none⟩=false/\d.frozen? ⟨x.heap.size+1,3,none⟩=false/\d.frozen? ⟨x.heap.size+1,4,none⟩=false)/\d.frozen? ⟨x.heap.size+2,0,none⟩=false/\x.heap.size+2<d.heap.size:=by
  refine⟨⟨?_,?_,?_⟩,⟨?_,?_,?_,?_,?_⟩,⟨?_,?_,?_,?_,?_⟩,⟨am a.r 0,am a.r 1,am a.r 2,am a.r 3,am a.r 4⟩,am a.p 0,ae a.p⟩
  all_goals first | (rw[aa a.e];rfl) | (rw[aa a.r];rfl) | (rw[aa a.p];rfl)
end Go.Proofs.YtpddjjabfbfifaaGreat
