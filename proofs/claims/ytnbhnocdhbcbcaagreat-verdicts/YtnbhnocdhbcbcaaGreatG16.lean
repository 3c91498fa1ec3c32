import Derived.Deep.CutRange
import Derived.Test.YtnbhnocdhbcbcaaGreatG04
import Derived.Test.YtnbhnocdhbcbcaaGreatG15
namespace Go.Proofs.YtnbhnocdhbcbcaaGreat
open Go.RowKit Tryz
open Value IntKind Ending
set_option maxHeartbeats 0
variable{o:List Tk}{i:List Sm}{N:ByteArray}{L:Nat}{I:World}{g:Hd}(v H:Nat)(l:ByteArray)(n:Nat)(w:List Tk)(D:Option Addr)(d:Nat)(b:List Sm)(a:Option Addr)(M:Sm)(x:Nat)(y:World)
structure iB(T:List Tk)(S:List Sm)(n:Nat):Prop where
 m:n<=S.length
 s:S.length<=100000
 t:T.length<=100000
 c:vN T S n [36,99]
 v:vN T S n [36,118]
 a:∀j,j<n->(aq S j).a<T.length
def jy(T:List Tk)(S:List Sm)(x:ByteArray)(n:Nat):Bool:=decide (0<=bt T S x n)||(ee T S x n||jm T S ⟨#[36,118]⟩ x n false)
set_option maxRecDepth 100000
theorem xV(n:fZ y v w D d b a x)(f:iB w b H) :
  Calls prog 171 #[pointer (some ⟨v,0,none⟩),string l,int i64 H] y fun e j=>e=returned (bool (jy w b l H))/\aa [] y j:=by
 have B:Hid _:=oZ v H l w D d b a x y n f.m f.s f.a;have o:Hid (∀g,aa [] y g->Calls prog 173 #[pointer (some ⟨v,0,none⟩),string l,int i64 H] g fun e j=>e=returned (bool (ee w b l H))/\aa [] g j):=fun g k=>un v H l w D d b a x g (n.Wj k) f.m f.s f.t f.c;have p:Hid (∀g,aa [] y g->Calls prog 213 #[pointer (some ⟨v,0,none⟩),string ⟨#[36,118]⟩,string l,int i64 H,bool false] g fun e j=>e=returned (bool (jm w b ⟨#[36,118]⟩ l H false))/\aa [] g j):=fun g k=>oQ v H ⟨#[36,118]⟩ l false w D d b a x g (n.Wj k) f.m f.s f.t (by rw[ou.2];exact f.v);have r:Hid (jy w b l H=(decide (0<=bt w b l H)||(ee w b l H||jm w b ⟨#[36,118]⟩ l H false))):=rfl;generalize jy w b l H=R at *;generalize bt w b l H=E at *;generalize ee w b l H=c at *;generalize jm w b ⟨#[36,118]⟩ l H false=F at *;clear n;go_enter func171,ntmps171;go_upto_region 2 with (go_at_call 172;refine R0 B.out ?_;rintro e G ⟨rfl,u⟩)
 have o:Hid _:=o.out G u;go_upto_region 3 with (go_at_call 173;refine R0 o.out ?_;rintro e I ⟨rfl,A⟩)
 have p:Hid _:=p.out I (u.trans A);go_upto_region 4 with (go_at_call 213;refine R0 p.out ?_;rintro e J ⟨rfl,C⟩)
 have q:Hid _:=(u.trans A).trans C;by_cases z:0<=E
 ·have i:Hid (R=true):=by show _=_;rw[r.out];simp[z]
  go_wp2;go_ret;exact⟨aE i.out.symm,q.out⟩
 ·cases c
  ·have i:Hid (R=F):=(by show _=_;rw[r.out];simp[z]);go_wp2;go_ret;exact⟨aE i.out.symm,q.out⟩
  ·have i:Hid (R=true):=(by show _=_;rw[r.out];simp);go_wp2;go_ret;exact⟨aE i.out.symm,q.out⟩
def jT(T:List Tk)(S:List Sm)(x:ByteArray)(n:Nat)(con:Bool)(before:List ByteArray):Int :=
 if aJ before x=true then 13 else if(con&&jy T S x n)=true then 13 else if(!con&&(decide (0<=bt T S x n)||(ee T S x n||ik T S x n)))=true then 13 else 0
theorem Ju(f:Bool)(b:List ByteArray)(q:Option Addr)(J:Nat)(T:List Tk)(n:Option Addr)(x:Nat)(S:List Sm)(j:Option Addr)(u:Nat)(w:World)(y:fZ w v T n x S j u)(i:iB T S H)(N:jB w q b)(O:b.length<=1000000) :
  Calls prog 126 #[pointer (some ⟨v,0,none⟩),string l,int i64 H,bool f,slice q b.length J] w fun e r=>e=returned (int i64 (jT T S l H f b))/\aa [] w r:=by
 have G:Hid _:=(kC b q J l w N (by omega));have I:Hid _:=xV v H l T n x S j u w y i;have B:Hid (∀d,aa [] w d->Calls prog 172 #[pointer (some ⟨v,0,none⟩),string l,int i64 H] d fun e r=>e=returned (int i64 (bt T S l H))/\aa [] d r):=fun d k=>oZ v H l T n x S j u d (y.Wj k) i.m i.s i.a;have C:Hid (∀d,aa [] w d->Calls prog 173 #[pointer (some ⟨v,0,none⟩),string l,int i64 H] d fun e r=>e=returned (bool (ee T S l H))/\aa [] d r):=fun d k=>un v H l T n x S j u d (y.Wj k) i.m i.s i.t i.c;have D:Hid (∀d,aa [] w d->Calls prog 174 #[pointer (some ⟨v,0,none⟩),string l,int i64 H] d fun e r=>e=returned (bool (ik T S l H))/\aa [] d r):=fun d k=>Bi v H l T n x S j u d (y.Wj k) i.m i.s i.t i.v;have p:Hid (jT T S l H f b=if aJ b l=true then 13 else if(f&&jy T S l H)=true then 13 else if(!f&&(decide (0<=bt T S l H)||(ee T S l H||ik T S l H)))=true then 13 else 0):=rfl;generalize jT T S l H f b=R at *;generalize aJ b l=M at *;generalize jy T S l H=Q at *;generalize bt T S l H=P at *;generalize ee T S l H=c at *;generalize ik T S l H=U at *;clear y;go_enter func126,ntmps126;go_upto_region 2 with (go_at_call 94;refine R0 G.out ?_;rintro e Z ⟨rfl,z⟩;rw[z];clear z)
 go_upto_region 3 with (go_at_call 171;refine R0 I.out ?_;rintro e V ⟨rfl,A⟩)
 have B:Hid _:=B.out V A;go_upto_region 4 with (go_at_call 172;refine R0 B.out ?_;rintro e W ⟨rfl,E⟩)
 have C:Hid _:=C.out W (A.trans E);go_upto_region 5 with (go_at_call 173;refine R0 C.out ?_;rintro e X ⟨rfl,F⟩)
 have D:Hid _:=D.out X ((A.trans E).trans F);go_upto_region 6 with (go_at_call 174;refine R0 D.out ?_;rintro e Y ⟨rfl,L⟩)
 have o:Hid _:=((A.trans E).trans F).trans L;clear G I B C D A E F L;cases M
 ·cases f
  ·by_cases K:0<=P
   ·have g:Hid (R=13):=(by show _=_;rw[p.out];simp[K]);go_wp2;go_ret;exact⟨au g.out.symm,o.out⟩
   ·cases c
    ·cases U
     ·have g:Hid (R=0):=(by show _=_;rw[p.out];simp[K]);go_wp2;go_ret;exact⟨au g.out.symm,o.out⟩
     ·have g:Hid (R=13):=(by show _=_;rw[p.out];simp);go_wp2;go_ret;exact⟨au g.out.symm,o.out⟩
    ·have g:Hid (R=13):=(by show _=_;rw[p.out];simp);go_wp2;go_ret;exact⟨au g.out.symm,o.out⟩
  ·cases Q
   ·have g:Hid (R=0):=(by show _=_;rw[p.out];simp);go_wp2;go_ret;exact⟨au g.out.symm,o.out⟩
   ·have g:Hid (R=13):=(by show _=_;rw[p.out];simp);go_wp2;go_ret;exact⟨au g.out.symm,o.out⟩
 ·have g:Hid (R=13):=by show _=_;rw[p.out];simp
  go_wp2;go_ret;exact⟨au g.out.symm,o.out⟩
def iE(key:ByteArray)(before:List ByteArray):Int :=
 if before.length=0 then 15 else if(((key.toList == [36,100])||(key.toList == [36,102]))&&decide (before.length<2))=true then 15 else if((key.toList == [36,112]) && !(aJ before ⟨#[36,61]⟩))=true then 23 else 0
theorem BQ(a:List ByteArray)(c:Option Addr)(o:Nat)(w:World)(q:jB w c a)(t:a.length<=1000000) :
  Calls prog 125 #[string l,slice c a.length o] w fun e v=>e=returned (int i64 (iE l a))/\v=w:=by
 have m:Hid _:=(kC a c o ⟨#[36,61]⟩ w q (by omega));have d:Hid (iE l a=if a.length=0 then 15 else if(((l.toList == [36,100])||(l.toList == [36,102]))&&decide (a.length<2))=true then 15 else if((l.toList == [36,112]) && !(aJ a ⟨#[36,61]⟩))=true then 23 else 0):=rfl;generalize iE l a=R at *;generalize aJ a ⟨#[36,61]⟩=r at *;generalize a.length=n at *;clear q;by_cases f:n=0
 ·have s:Hid (R=15):=by show _=_;rw[d.out,RY f]
  subst f;go_enter func125,ntmps125;go_wp2_with (go_at_call 94;refine R0 m.out ?_;rintro e x ⟨rfl,b⟩;rw[b];clear b);go_ret;exact⟨au s.out.symm,rfl⟩
 ·rw[RU f]at d;have u:((n:Int)==0)=false:=by simpa using f
  go_enter func125,ntmps125;go_upto_region 3 with (go_at_call 94;refine R0 m.out ?_;rintro e x ⟨rfl,b⟩;rw[b];clear b)
  by_cases p:n<2
  ·have g:(n:Int)<2:=(by omega);cases i:(l.toList == [36,100]) <;> cases j:(l.toList == [36,102]) <;> cases k:(l.toList == [36,112]) <;> cases r
   all_goals
    go_wp2;go_ret;exact⟨au (by rw[d.out];simp[p,i,j,k]),rfl⟩
  ·have g:¬(n:Int)<2:=(by omega);cases i:(l.toList == [36,100]) <;> cases j:(l.toList == [36,102]) <;> cases k:(l.toList == [36,112]) <;> cases r
   all_goals
    go_wp2;go_ret;exact⟨au (by rw[d.out];simp[p,i,j,k]),rfl⟩
theorem AG(N:l.size<=1073741824) :
  Calls prog 170 #[string l] y fun e K=>e=returned (bool (ia l))/\K=y:=by
 go_enter func170,ntmps170;go_wp2
 go_loopg [3] l.size (fun g i wr=>∃k:Nat,k<=l.size/\g=l.size-k/\i=int i64 k/\Hid (∀i,i<k->jR (aH l i)=true)/\wr=y)
 case atStart=>exact⟨0,by omega,by omega,rfl,fun i h=>by omega,rfl⟩
 case round =>
  obtain⟨k,M,L,rfl,b,rfl⟩:=hrel;by_cases n:k<l.size
  ·have p:Hid (jR (l[k].toNat:Int)=false->ia l=false):=fun z=>Eb k n (by rw[bU l k n];exact z);have q:Hid (jR (l[k].toNat:Int)=true->∀i,i<k+1->jR (aH l i)=true):=fun z i E=>by
    by_cases e:i=k
    ·subst e;rw[bU l i n];exact z
    ·exact b.out i (by omega)
   have F:(k:Int)<(l.size:Int):=(by omega);(go_upto_region 5 with fail);obtain⟨c,B⟩:∃c:Int,(l[k].toNat:Int)=c:=⟨_,rfl⟩
   have D:Hid _:=B;clear B;rw[D.out]at p q ⊢
   go_cut [5] from 18 to 23 (fun G o=>G=bool (decide (97<=c)&&decide (c<=122))/\o=wr)
   case first =>
    by_cases r:97<=c
    ·by_cases w:c<=122
     all_goals
      go_wp2_with fail;go_meet
      case rel=>exact⟨by simp;omega,rfl⟩
    ·go_wp2_with fail;go_meet
     case rel=>exact⟨by simp;omega,rfl⟩
   case rest =>
    obtain⟨rfl,a⟩:=hcut;subst a;obtain⟨s,d⟩:∃s,Hid ((decide (97<=c)&&decide (c<=122))=s):=⟨_,rfl⟩
    rw[d.out];go_upto_region 6 with fail
    go_cut [6] from 24 to 29 (fun H o=>H=bool (decide (65<=c)&&decide (c<=90))/\o=wc)
    case first =>
     by_cases r:65<=c
     ·by_cases w:c<=90
      all_goals
       go_wp2_with fail;go_meet
       case rel=>exact⟨by simp;omega,rfl⟩
     ·go_wp2_with fail;go_meet
      case rel=>exact⟨by simp;omega,rfl⟩
    case rest =>
     obtain⟨rfl,a⟩:=hcut;subst a;obtain⟨t,f⟩:∃t,Hid ((decide (65<=c)&&decide (c<=90))=t):=⟨_,rfl⟩
     rw[f.out];go_upto_region 7 with fail
     go_cut [7] from 30 to 35 (fun I o=>I=bool (decide (48<=c)&&decide (c<=57))/\o=wc)
     case first =>
      by_cases r:48<=c
      ·by_cases w:c<=57
       all_goals
        go_wp2_with fail;go_meet
        case rel=>exact⟨by simp;omega,rfl⟩
      ·go_wp2_with fail;go_meet
       case rel=>exact⟨by simp;omega,rfl⟩
     case rest =>
      obtain⟨rfl,a⟩:=hcut;subst a;obtain⟨u,j⟩:∃u,Hid ((decide (48<=c)&&decide (c<=57))=u):=⟨_,rfl⟩
      rw[j.out];go_upto_region 8 with fail
      go_cut [8] from 36 to 45 (fun J o=>J=bool ((c==45)||(c==95)||(c==46))/\o=wc)
      case first =>
       cases r:(c==45)
       ·cases w:(c==95)
        all_goals
         go_wp2_with fail;go_meet
         case rel=>exact⟨by rw[r,w];simp,rfl⟩
       ·go_wp2_with fail;go_meet
        case rel=>exact⟨by rw[r];simp,rfl⟩
      case rest =>
       obtain⟨rfl,a⟩:=hcut;subst a;obtain⟨v,m⟩:∃v,Hid (((c==45)||(c==95)||(c==46))=v):=⟨_,rfl⟩
       rw[m.out];have A:Hid (jR c=(s||(t||(u||v)))):=by show _=_;rw[<-d.out,<-f.out,<-j.out,<-m.out];unfold jR;simp only[Bool.or_assoc]
       clear d f j m;cases s <;> cases t <;> cases u <;> cases v
       ·have x:Hid _:=p.out (by rw[A.out];rfl);go_wp2;go_ret;exact⟨aE x.out.symm,rfl⟩
       all_goals
        have x:Hid _:=(q.out (by rw[A.out];rfl));go_wp2;go_roundg (l.size-(k+1))
        case measure=>omega
        case rel=>exact⟨k+1,by omega,rfl,by go_num,x,rfl⟩
  ·have C:Hid (ia l=true):=Aa (fun i E=>b.out i (by omega));go_wp2;go_ret;exact⟨aE C.out.symm,rfl⟩
def dq(T:List Tk)(S:List Sm)(x:ByteArray)(n:Nat):Int :=
 if((x.toList == [36,123])||((x.toList == [36,118])||(x.toList == [36,100])))=true then 0
 else if((x.toList == [36,125])&&(bm S n==0))=true then 9
 else if(x.toList == [36,125])=true then 0
 else if((x.toList == [36,99])&&decide (0<bm S n))=true then 10
 else if(x.toList == [36,99])=true then 0
 else if(ay x||aF x)=true then 11
 else if gW x ⟨#[36]⟩=true then 8
 else if ia x=false then 12
 else if jy T S x n=true then 13 else 0
theorem Ev(r:fZ y v w D d b a x)(t:iB w b H)(F:l.size<=1073741824) :
  Calls prog 122 #[pointer (some ⟨v,0,none⟩),string l,int i64 H] y fun e I=>e=returned (int i64 (dq w b l H))/\aa [] y I:=by
 have u:Hid _:=En v H w D d b a x y r t.m t.s;have z:Hid _:=xV v H l w D d b a x y r t
 have i:Hid (dq w b l H=if((l.toList == [36,123])||((l.toList == [36,118])||(l.toList == [36,100])))=true then 0
  else if((l.toList == [36,125])&&(bm b H==0))=true then 9
  else if(l.toList == [36,125])=true then 0
  else if((l.toList == [36,99])&&decide (0<bm b H))=true then 10
  else if(l.toList == [36,99])=true then 0
  else if(ay l||aF l)=true then 11
  else if gW l ⟨#[36]⟩=true then 8
  else if ia l=false then 12
  else if jy w b l H=true then 13 else 0):=rfl
 generalize dq w b l H=R at *;generalize bm b H=A at *;generalize jy w b l H=G at *;clear r;go_enter func122,ntmps122;go_upto_region 5 with (first | (go_at_call 169;refine R0 u.out ?_;rintro e q ⟨rfl,c⟩;rw[c];clear c) | (go_at_call 121;refine(fS l _ _ (by omega) (by show 1<=_;omega)).mono ?_;rintro e q ⟨rfl,c⟩;rw[c];clear c) | (go_at_call 170;refine(AG l _ F).mono ?_;rintro e q ⟨rfl,c⟩;rw[c];clear c) | (go_at_call 171;refine R0 z.out ?_;rintro e N ⟨rfl,E⟩))
 go_upto_region 7 with (first | (go_at_call 123;refine(gG l _).mono ?_;rintro e q ⟨rfl,c⟩;rw[c];clear c) | (go_at_call 124;refine(l5 l _).mono ?_;rintro e q ⟨rfl,c⟩;rw[c];clear c))
 have g:Hid _:=E;generalize ay l=J at *;generalize aF l=M at *;generalize gW l ⟨#[36]⟩=K at *;generalize ia l=L at *;clear u z E;cases j:(l.toList == [36,123])
 ·cases k:(l.toList == [36,118])
  ·cases n:(l.toList == [36,100])
   ·cases o:(l.toList == [36,125])
    ·cases p:(l.toList == [36,99])
     ·cases J
      ·cases M
       ·cases K
        ·cases L
         ·have f:Hid (R=12):=(by show _=_;rw[i.out];simp[j,k,n,o,p]);go_wp2;go_ret;exact⟨au f.out.symm,g.out⟩
         ·cases G
          ·have f:Hid (R=0):=(by show _=_;rw[i.out];simp[j,k,n,o,p]);go_wp2;go_ret;exact⟨au f.out.symm,g.out⟩
          ·have f:Hid (R=13):=(by show _=_;rw[i.out];simp[j,k,n,o,p]);go_wp2;go_ret;exact⟨au f.out.symm,g.out⟩
        ·have f:Hid (R=8):=(by show _=_;rw[i.out];simp[j,k,n,o,p]);go_wp2;go_ret;exact⟨au f.out.symm,g.out⟩
       ·have f:Hid (R=11):=(by show _=_;rw[i.out];simp[j,k,n,o,p]);go_wp2;go_ret;exact⟨au f.out.symm,g.out⟩
      ·have f:Hid (R=11):=(by show _=_;rw[i.out];simp[j,k,n,o,p]);go_wp2;go_ret;exact⟨au f.out.symm,g.out⟩
     ·by_cases B:0<A
      ·have f:Hid (R=10):=(by show _=_;rw[i.out];simp[j,k,n,o,p,B]);go_wp2;go_ret;exact⟨au f.out.symm,g.out⟩
      ·have f:Hid (R=0):=(by show _=_;rw[i.out];simp[j,k,n,o,p,B]);go_wp2;go_ret;exact⟨au f.out.symm,g.out⟩
    ·cases C:(A==0)
     ·have f:Hid (R=0):=(by show _=_;rw[i.out];simp[j,k,n,o,C]);go_wp2;go_ret;exact⟨au f.out.symm,g.out⟩
     ·have f:Hid (R=9):=(by show _=_;rw[i.out];simp[j,k,n,o,C]);go_wp2;go_ret;exact⟨au f.out.symm,g.out⟩
   ·have f:Hid (R=0):=(by show _=_;rw[i.out];simp[j,k,n]);go_wp2;go_ret;exact⟨au f.out.symm,g.out⟩
  ·have f:Hid (R=0):=(by show _=_;rw[i.out];simp[j,k]);go_wp2;go_ret;exact⟨au f.out.symm,g.out⟩
 ·have f:Hid (R=0):=by show _=_;rw[i.out];simp[j]
  go_wp2;go_ret;exact⟨au f.out.symm,g.out⟩
def rj(T:List Tk)(S:List Sm)(v:ByteArray)(n j:Nat):Bool:=((aq S j).k.toList == [36,102])&&(((tS T ((aq S j).h+1)).toList==v.toList)&&aM S j n)
def go(T:List Tk)(S:List Sm)(v:ByteArray)(n:Nat):Int:=match (List.range n).find? (rj T S v n) with
 | some j=>j
 | none=>-1
theorem I2{k:Nat}(c:k<L)(h:rj o i N L k=true)(a:∀j,j<k->rj o i N L j=false):go o i N L=k:=by
 have e:(List.range L).find? (rj o i N L)=some k:=by
  rw[Tx];exact⟨h,Sd.2 c,fun j b=>by rw[a j b];rfl⟩
 unfold go;rw[e]
theorem LQ(a:∀j,j<L->rj o i N L j=false):go o i N L=-1:=by
 have e:(List.range L).find? (rj o i N L)=none:=by
  rw[Tn];intro j b;rw[a j (Sd.1 b)];simp
 unfold go;rw[e]
theorem IY(R:fZ y v w D d b a x)(L:iB w b H)(W:∀j,j<H->((aq b j).k.toList == [36,102])=true->(aq b j).h+1<w.length) :
  Calls prog 175 #[pointer (some ⟨v,0,none⟩),string l,int i64 H] y fun e N=>e=returned (int i64 (go w b l H))/\aa [] y N:=by
 have P:Hid _:=R;have hn:=L.m;have V:=L.s;have hT:=L.t;clear R;go_enter func175,ntmps175;go_wp2
 go_loopg [7] H (fun g i wr=>∃k:Nat,k<=H/\g=H-k/\i=int i64 k/\Hid (∀j,j<k->rj w b l H j=false)/\Hid (aa [] y wr))
 case atStart=>exact⟨0,by omega,rfl,rfl,(fun j Z=>by omega),aa.refl _ _⟩
 case round =>
  obtain⟨k,hk,hg,rfl,B,A⟩:=hrel;by_cases E:k<H
  ·have r:k<b.length:=(by omega);have p:Hid _:=fZ.Wj P.out A.out;obtain⟨c0,c1,hb⟩:=p.out.cells;obtain⟨gs,rfl,Y,-,-,q2,q3⟩:=p.out.s.2 k b[k] (RQ r);have ad:(k:Int)<(H:Int):=(by omega);have S:(k:Int)<b.length:=(by omega);have q:Hid (rj w b l H k=((b[k].k.toList == [36,102])&&(((tS w (b[k].h+1)).toList==l.toList)&&aM b k H))):=(by show _=_;unfold rj;rw[bQ b k r]);have Q:Hid ((b[k].k.toList == [36,102])=true->b[k].h+1<w.length):=(by have:=W k E;rw[<-bQ b k r]at this;exact this);have z:Hid (∀F,aa [] y F->Calls prog 93 #[pointer (some ⟨v,0,none⟩),int i64 k,int i64 H] F fun e N=>e=returned (bool (aM b k H))/\N=F):=fun F kx=>lG v k H w D d b _ x F (fZ.Wj P.out kx) (by omega) hn V;generalize b[k]=s at *;obtain⟨sa,sz,n,sk⟩:=s;simp only at q2 q3 q Q;obtain⟨I,G⟩:∃I,Hid (aM b k H=I):=⟨_,rfl⟩
   rw[G.out]at q z;cases C:(sk.toList == [36,102])
   ·have o:Hid _:=eG B.out (by rw[q.out,C];rfl);(go_upto_region 4 with fail);go_region
    all_goals
     have c:Hid _:=A.out.drew;go_wp2;go_roundg (H-(k+1))
     case measure=>omega
     case rel=>exact⟨k+1,by omega,rfl,by go_num,o,c⟩
   ·have K:=Q.out C;obtain⟨U,rfl,X,M,-⟩:=p.out.t.2 (n+1) _ (iK w (n+1) K);replace M:wr.cell? ⟨U,(n+1)*5,none⟩=some (string (tS w (n+1))):=M;obtain⟨O,T⟩:∃O,Hid (tS w (n+1)=O):=⟨_,rfl⟩
    rw[T.out]at M q;have ag:(n:Int)+1<w.length:=by omega
    have al:IntKind.i64.wrap ((n:Int)+1)=(n:Int)+1:=(by rw[TE];omega);have ai:((n:Int)+1).toNat=n+1:=(by omega);have af:(0:Int)<=(n:Int)+1:=(by omega);cases J:(O.toList==l.toList)
    ·have o:Hid _:=eG B.out (by rw[q.out,C,J];rfl);(go_upto_region 4 with fail);go_region
     all_goals
      have c:Hid _:=A.out.drew;go_wp2;go_roundg (H-(k+1))
      case measure=>omega
      case rel=>exact⟨k+1,by omega,rfl,by go_num,o,c⟩
    ·(go_upto_region 4 with fail);go_region
     all_goals
      have c:Hid _:=A.out.drew;have u:Hid _:=z.out wr.drew c.out
     cases I
     ·have o:Hid _:=eG B.out (by rw[q.out,C,J];rfl);go_wp2_with (go_at_call 93;refine R0 u.out ?_;rintro e w9 ⟨rfl,f⟩;rw[f];clear f);go_roundg (H-(k+1))
      case measure=>omega
      case rel=>exact⟨k+1,by omega,rfl,by go_num,o,c⟩
     ·have o:Hid (go w b l H=k):=I2 E (by rw[q.out,C,J];rfl) B.out;go_wp2_with (go_at_call 93;refine R0 u.out ?_;rintro e w9 ⟨rfl,f⟩;rw[f];clear f);go_ret;exact⟨au o.out.symm,c.out⟩
  ·have o:Hid (go w b l H=-1):=LQ (fun j Z=>B.out j (by omega));go_wp2;go_ret;exact⟨au o.out.symm,A.out⟩
def mD(T:List Tk)(S:List Sm)(n:Nat):Prop:=∀j,j<n->((aq S j).k.toList == [36,102])=true->(aq S j).h+1<T.length
def g7(T:List Tk)(S:List Sm)(key x:ByteArray)(n:Nat)(before:List ByteArray):Int :=
 if(key.toList == [36,100])=true then(if ik T S x n=false then 18 else if aJ before x=true then 19 else 0)
 else if(before.length==0)=true then(if ee T S x n=false then 17 else 0)
 else if(key.toList == [36,102])=true then(if 1<before.length then 16 else if ik T S x n=false then 18 else if 0<=go T S x n then 20 else 0)
 else if ee T S x n=true then 0 else if ik T S x n=false then 21 else if go T S x n<0 then 22 else 0
theorem FK(x:ByteArray)(a:List ByteArray)(r:Option Addr)(P:Nat)(T:List Tk)(z:Option Addr)(L:Nat)(S:List Sm)(u:Option Addr)(K:Nat)(w:World)(N:fZ w v T z L S u K)(A:iB T S H)(hf:mD T S H)(Y:jB w r a)(ac:a.length<=1000000) :
  Calls prog 127 #[pointer (some ⟨v,0,none⟩),string l,string x,int i64 H,slice r a.length P] w fun e D=>e=returned (int i64 (g7 T S l x H a))/\aa [] w D:=by
 have X:Hid _:=un v H x T z L S u K w N A.m A.s A.t A.c;have G:Hid (∀f,aa [] w f->Calls prog 174 #[pointer (some ⟨v,0,none⟩),string x,int i64 H] f fun e D=>e=returned (bool (ik T S x H))/\aa [] f D):=fun f k=>Bi v H x T z L S u K f (N.Wj k) A.m A.s A.t A.v;have I:Hid (∀f,aa [] w f->Calls prog 175 #[pointer (some ⟨v,0,none⟩),string x,int i64 H] f fun e D=>e=returned (int i64 (go T S x H))/\aa [] f D):=fun f k=>IY v H x T z L S u K f (N.Wj k) A hf
 have J:Hid (∀f,aa [] w f->Calls prog 94 #[slice r a.length P,string x] f fun e D=>e=returned (bool (aJ a x))/\D=f):=fun f k=>kC a r P x f (fun i y hy=>by
  obtain⟨g,e,Z,c⟩:=Y i y hy;exact⟨g,e,R6 Z k.size,by rw[Sh (k.block g Z (by simp))];exact c⟩) (by omega)
 have n:Hid (g7 T S l x H a=if(l.toList == [36,100])=true then(if ik T S x H=false then 18 else if aJ a x=true then 19 else 0)
  else if(a.length==0)=true then(if ee T S x H=false then 17 else 0)
  else if(l.toList == [36,102])=true then(if 1<a.length then 16 else if ik T S x H=false then 18 else if 0<=go T S x H then 20 else 0)
  else if ee T S x H=true then 0 else if ik T S x H=false then 21 else if go T S x H<0 then 22 else 0):=rfl
 generalize g7 T S l x H a=R at *;generalize aJ a x=ag at *;generalize go T S x H=E at *;generalize ee T S x H=c at *;generalize ik T S x H=W at *;generalize a.length=p at *;clear N Y;go_enter func127,ntmps127;go_upto_region 3 with (go_at_call 173;refine R0 X.out ?_;rintro e w3 ⟨rfl,O⟩)
 have G:Hid _:=G.out w3 O;go_upto_region 4 with (go_at_call 174;refine R0 G.out ?_;rintro e w4 ⟨rfl,V⟩)
 have I:Hid _:=I.out w4 (O.trans V);go_upto_region 5 with (go_at_call 175;refine R0 I.out ?_;rintro e w5 ⟨rfl,k5⟩)
 have j:Hid _:=(O.trans V).trans k5;have J:Hid _:=J.out w5 j.out;go_upto_region 6 with (go_at_call 94;refine R0 J.out ?_;rintro e w9 ⟨rfl,F⟩;rw[F];clear F)
 clear X G I J O V k5;cases o:(l.toList == [36,100])
 ·by_cases q:p=0
  ·have U:((p:Int)==0)=true:=(by simpa using q);cases c
   ·have b:Hid (R=17):=(by show _=_;rw[n.out];simp[o,q]);go_wp2;go_ret;exact⟨au b.out.symm,j.out⟩
   ·have b:Hid (R=0):=(by show _=_;rw[n.out];simp[o,q]);go_wp2;go_ret;exact⟨au b.out.symm,j.out⟩
  ·have U:((p:Int)==0)=false:=(by simpa using q);cases B:(l.toList == [36,102])
   ·cases c
    ·cases W
     ·have b:Hid (R=21):=(by show _=_;rw[n.out];simp[o,q,B]);go_wp2;go_ret;exact⟨au b.out.symm,j.out⟩
     ·by_cases d:E<0
      ·have C:E<0:=d;have b:Hid (R=22):=(by show _=_;rw[n.out];simp[o,q,B,d]);go_wp2;go_ret;exact⟨au b.out.symm,j.out⟩
      ·have C:¬E<0:=d;have b:Hid (R=0):=(by show _=_;rw[n.out];simp[o,q,B,d]);go_wp2;go_ret;exact⟨au b.out.symm,j.out⟩
    ·have b:Hid (R=0):=(by show _=_;rw[n.out];simp[o,q,B]);go_wp2;go_ret;exact⟨au b.out.symm,j.out⟩
   ·by_cases M:1<p
    ·have Q:(1:Int)<(p:Int):=(by omega);have b:Hid (R=16):=(by show _=_;rw[n.out];simp[o,q,B,M]);go_wp2;go_ret;exact⟨au b.out.symm,j.out⟩
    ·have Q:¬(1:Int)<(p:Int):=(by omega);cases W
     ·have b:Hid (R=18):=(by show _=_;rw[n.out];simp[o,q,B,M]);go_wp2;go_ret;exact⟨au b.out.symm,j.out⟩
     ·by_cases d:0<=E
      ·have C:0<=E:=d;have b:Hid (R=20):=(by show _=_;rw[n.out];simp[o,q,B,M,d]);go_wp2;go_ret;exact⟨au b.out.symm,j.out⟩
      ·have C:¬0<=E:=d;have b:Hid (R=0):=(by show _=_;rw[n.out];simp[o,q,B,M,d]);go_wp2;go_ret;exact⟨au b.out.symm,j.out⟩
 ·cases W
  ·have b:Hid (R=18):=(by show _=_;rw[n.out];simp[o]);go_wp2;go_ret;exact⟨au b.out.symm,j.out⟩
  ·cases ag
   ·have b:Hid (R=0):=(by show _=_;rw[n.out];simp[o]);go_wp2;go_ret;exact⟨au b.out.symm,j.out⟩
   ·have b:Hid (R=19):=(by show _=_;rw[n.out];simp[o]);go_wp2;go_ret;exact⟨au b.out.symm,j.out⟩
def FD(s:Sm):List Value:=[int i64 s.a,int i64 s.z,int i64 s.h,string s.k]
def QE(L:List Sm):List Value:=L.flatMap FD
def tR(L:List Sm):eB:=⟨145,4,L.length,QE L⟩
theorem Qy(L:List Sm)(j:Nat)(t:Sm)(h:L[j]?=some t)(c:Nat)(d:c<4):(QE L)[j*4+c]?=(FD t)[c]?:=by
 induction L generalizing j with
 | nil=>cases h
 | cons a L b =>
  have e:QE (a :: L)=FD a++QE L:=rfl;cases j with
  | zero =>
   simp at h;subst h;rw[e,Si (by simp[FD];omega)];simp
  | succ j =>
   rw[e,Sf (by simp[FD];omega),show(j+1)*4+c-(FD a).length=j*4+c by simp[FD];omega];exact b j (by simpa using h)
theorem J3:(⟨(tR b).e,(tR b).size,(tR b).n+1,(tR b).xs++FD M⟩:eB)=tR (b++[M]):=by
 simp[tR,QE]
theorem aC.srcS(o:aC I g (tR i)):Bz I g.ao g.cap i:=by
 refine⟨?_,fun k t f=>?_⟩
 ·rcases o.Wu with ⟨e,d,_⟩ | ⟨a,j,q,r,l,-⟩
  ·have d:i.length=0:=d;omega
  ·exact l
 ·have s:=(R8.1 f).1;obtain⟨a,b,n,-⟩:=qK o (show 0<i.length by omega);have e:∀c,c<4->∀u,(FD t)[c]?=some u->I.cell? ⟨a,k*4+c,none⟩=some u:=fun c m u p=>o.cell b (k*4+c) u (by show(QE i)[k*4+c]?=some u;rw[Qy i k t f c m];exact p);exact⟨a,b,n,e 0 (by omega) _ rfl,e 1 (by omega) _ rfl,e 2 (by omega) _ rfl,e 3 (by omega) _ rfl⟩
theorem Qb:(prog.info? 145).map (fun i=>(i.zero,i.size,i.bytes))=some (some (agg #[int i64 0,int i64 0,int i64 0,string ⟨#[]⟩]),4,40):=by kernel_rfl
theorem uX{g:Array Oper}{b:List Oper}{o:Oper}{a:Act}{Q:Exit->Act->World->Prop}(A:o.guard=none)(s x:Operand)(l:o.op=Op.call { callee:=Callee.builtin Builtin.append,args:=#[s,x],argTypes:=#[139,139] })(h:Hd)(L:List Sm)(t:Sm)(E:a.eval s=slice h.ao L.length h.cap)(e:aC y h (tR L))(I:L.length<=1000000)(F:a.eval x=slice (some ⟨y.heap.size,0,none⟩) 1 1)(z:∀i q,aC q i (tR (L++[t]))->bI y q h i->wpList prog g Q b (a.put o.dst (slice i.ao (L.length+1) i.cap)) q) :
  wpList prog g Q (o :: b) a (y.alloc (.cells (FD t).toArray 145)):=by
 obtain⟨G,B,m,n,p⟩:=Sr Qb;have v:aa [] y (y.alloc (.cells (FD t).toArray 145)):=(aa.refl [] _).alloc _;have D:(y.alloc (.cells (FD t).toArray 145)).heap[y.heap.size]?=some (.cells (FD t).toArray 145):=R2 _ _;refine aO _ A s x 139 l G (agg #[int i64 0,int i64 0,int i64 0,string ⟨#[]⟩]) 40 h (tR L) underlying139 B m n p rfl (show 0<4 by omega) E (e.Wj v) ⟨y.heap.size,0,none⟩ 1 1 (FD t) F rfl ?_ ?_ So (by simp only[tR];unfold maxLen;omega) (by simp only[tR];omega) ?_
 ·intro j u C;rw[bS,aj D];simpa using C
 ·intro u r;simp only[FD,List.mem_cons,List.not_mem_nil,or_false]at r;rcases r with rfl | rfl | rfl | rfl <;> rfl
 ·intro w c H f d k;rw[J3]at f;exact z ⟨some ⟨w,0,none⟩,c⟩ H f ((bI.Wj v).trans (bI.made d k))
def fh(T:List Tk):Nat->List Sm×Nat
 | 0=>([],0)
 | i+1=>if bY (tS T i)=true then((fh T i).1++[⟨(fh T i).2,i+1,(dQ T (fh T i).2).2,(dQ T (fh T i).2).1⟩],i+1) else fh T i
def ab(T:List Tk):List Sm:=(fh T T.length).1
theorem Mw(i:Nat):(fh w i).2<=i:=by
 induction i with
 | zero=>exact RV _
 | succ i a =>
  rw[fh];split
  ·exact RV _
  ·omega
theorem tI(i:Nat):(fh w i).1.length<=i:=by
 induction i with
 | zero=>exact RV _
 | succ i a =>
  rw[fh];split
  ·simp;omega
  ·omega
structure QK(w wr:World)(T:List Tk)(aoT:Option Addr)(cT:Nat)(S:List Sm)(h:Hd):Prop where
 d:wr.heap[w.heap.size]?=some (.cells #[slice aoT T.length cT,slice h.ao S.length h.cap] 141)
 own:aC wr h (tR S)
 far:∀k,h.blk=some k->w.heap.size<k
 kept:aa [] w wr
theorem QK.add{wr m:World}{n:Option Addr}{p:List Sm}{c:Hd}(a:QK I wr o n L i g)(r:aC m c (tR p))(f:bI wr m g c):QK I (m.setCell ⟨I.heap.size,1,none⟩ (slice c.ao p.length c.cap)) o n L p c:=by
 have v:=ae a.d;have s:=f.kept.get a.d (fun j=>by have:=a.far _ (aQ j);omega);have b:∀k,c.blk=some k->I.heap.size<k:=fun k l=>by
  rcases f.blk with e | ⟨q,e,j⟩
  ·exact a.far k (by rw[<-e];exact l)
  ·rw[e]at l;cases l;omega
 have u:aa [I.heap.size] m (m.setCell ⟨I.heap.size,1,none⟩ (slice c.ao p.length c.cap)):=(aa.refl _ _).setCell (R4 (by simp)) _;have t:aa [] I m:=⟨f.kept.os.trans a.kept.os,f.kept.tape.trans a.kept.tape,f.kept.output.trans a.kept.output,Sc a.kept.size f.kept.size,fun k l _=>by rw[f.kept.block k (R6 l a.kept.size) (fun j=>by have:=a.far _ (aQ j);omega),a.kept.block k l (by simp)]⟩;exact⟨by rw[ah s];rfl,r.Wo (fun q j=>u.block q (r.lt j) (by simp;have:=b q j;omega)),b,t.setCell (RZ (by simp)) _⟩
theorem Mv(D:lF y a x w)(hl:w.length<=100000)(hs:∀i,(tS w i).size<=1073741824) :
  Calls prog 56 #[slice a w.length x] y fun e K=>e=returned (pointer (some ⟨y.heap.size,0,none⟩))/\∃q W,fZ K y.heap.size w a x (ab w) q W/\aa [] y K/\∀g,q=some ⟨g,0,none⟩->y.heap.size<=g/\g<K.heap.size:=by
 have V:Hid (QK y (y.alloc (.cells #[slice a w.length x,slice none 0 0] 141)) w a x [] ⟨none,0⟩):=⟨R2 _ _,Sb _ _ _ _,(by intro k Q;cases Q),(aa.refl [] _).alloc _⟩;have N:Hid _:=D;have P:=D.1;clear D;go_enter func56,ntmps56;go_wp2
 go_loopg [4,5] w.length (fun g f i wr=>∃(k j:Nat) (S:List Sm) (h:Hd),k<=w.length/\g=w.length-k/\f=int i64 j/\i=int i64 k/\(j<=k/\S.length<=k)/\Hid (fh w k=(S,j))/\Hid (QK y wr w a x S h))
 case atStart=>exact⟨0,0,[],⟨none,0⟩,by omega,rfl,rfl,rfl,⟨by omega,by simp⟩,rfl,V⟩
 case round =>
  obtain⟨k,j,S,h,Q,hg,rfl,rfl,⟨hf,Z⟩,M,c⟩:=hrel;by_cases F:k<w.length
  ·have p:Hid _:=lF.Wj N.out c.out.kept;obtain⟨B,rfl,ac,J,-⟩:=p.out.2 k _ (iK w k F);replace J:wr.cell? ⟨B,k*5,none⟩=some (string (tS w k)):=J;have ad:(k:Int)<w.length:=(by omega);have n:Hid (fh w (k+1)=if bY (tS w k)=true then(S++[⟨j,k+1,(dQ w j).2,(dQ w j).1⟩],k+1) else(S,j)):=(by show _=_;rw[fh,M.out]);obtain⟨s,U⟩:∃s,Hid (tS w k=s):=⟨_,rfl⟩
   rw[U.out]at J n;have u:Hid (fZ wr y.heap.size w (some ⟨B,0,none⟩) x S h.ao h.cap):=⟨c.out.d,p.out,c.out.own.srcS⟩;have o:Hid _:=(GP y.heap.size j w (some ⟨B,0,none⟩) x S h.ao h.cap wr u.out (by omega) hl hs);obtain⟨I,z⟩:∃I,Hid (dQ w j=I):=⟨_,rfl⟩
   rw[z.out]at o n;obtain⟨H,G⟩:=I;have c1:wr.cell? ⟨y.heap.size,1,none⟩=some (slice h.ao S.length h.cap):=by rw[aj c.out.d];rfl
   have hz:=ae c.out.d;have C:=c.out.own;obtain⟨A,l⟩:∃A,Hid (bY s=A):=⟨_,rfl⟩
   rw[l.out]at n;cases A
   ·have v:Hid (fh w (k+1)=(S,j)):=(by show _=_;rw[n.out,RU (by simp)]);go_wp2_with (go_at_call 85;refine(uu s _).mono ?_;rintro e R ⟨rfl,b⟩;rw[b,l.out];clear b);go_roundg (w.length-(k+1))
    case measure=>omega
    case rel=>exact⟨k+1,j,S,h,by omega,rfl,rfl,by go_num,⟨by omega,by omega⟩,v,c⟩
   ·have v:Hid (fh w (k+1)=(S++[⟨j,k+1,G,H⟩],k+1)):=(by show _=_;rw[n.out,RY rfl]);have E:((k+1:Nat):Int)=(k:Int)+1:=(by omega);(go_upto_region 9 with (first | (go_at_call 85;refine(uu s _).mono ?_;rintro e R ⟨rfl,b⟩;rw[b,l.out];clear b) | (go_at_call 86;refine R0 o.out ?_;rintro e R ⟨rfl,b⟩;rw[b];clear b)));go_wp2_with (at_builtin;rw[<-E];refine uX _ rfl (.tmp 35) (.tmp 42) rfl h S ⟨j,k+1,G,H⟩ rfl C (by omega) rfl ?_;intro Y w5 r m;have L:Hid _:=c.out.add r m;have t:=m.kept.get c.out.d (fun hq=>by have:=c.out.far _ (aQ hq);omega);have f5:=am t 1;have e5:w5.cell? ⟨y.heap.size,1,none⟩=some (slice h.ao S.length h.cap):=(by rw[aj t];rfl);have z5:=ae t;clear r m t);rw[R9]at L;go_roundg (w.length-(k+1))
    case measure=>omega
    case rel=>exact⟨k+1,k+1,S++[⟨j,k+1,G,H⟩],Y,by omega,rfl,by go_num,by go_num,⟨by omega,by simp;omega⟩,v,L⟩
  ·have e:k=w.length:=(by omega);subst e;have T:Hid (ab w=S):=by show _=_;unfold ab;rw[M.out]
   go_wp2;go_ret;exact⟨rfl,h.ao,h.cap,by rw[T.out];exact⟨c.out.d,lF.Wj N.out c.out.kept,c.out.own.srcS⟩,c.out.kept,fun g X=>have O:h.blk=some g:=(by unfold Hd.blk;rw[X];rfl);⟨Te (c.out.far g O),c.out.own.lt O⟩⟩
def nU(i:Nat):List Sm->Nat
 | []=>0
 | s :: r=>if s.z<=i then nU i r+1 else 0
def jh(S:List Sm)(i:Nat):Nat:=nU i S
def kJ(S:List Sm)(n:Nat):Nat:=if 0<n then(aq S (n-1)).z else 0
def dX(T:List Tk)(h i:Nat):List ByteArray:=((T.drop h).take (i-h)).map (·.s)
theorem BE(f:d<=x)(b:x<w.length):dX w d (x+1)=dX w d x++[tS w x]:=by
 unfold dX;have e:x+1-d=(x-d)+1:=by omega
 have c:x-d<(w.drop d).length:=by rw[Tc];omega
 rw[e,Ta c,SF];have a:(w.drop d)[x-d]=w[x]:=by rw[UW];congr 1;omega
 rw[a];unfold tS;rw[RT,RQ b];rfl
theorem PJ(S:List Sm):nU x S<=S.length:=by
 induction S with
 | nil=>exact RV _
 | cons s r a=>rw[nU];split <;> simp;omega
theorem BS(S:List Sm)(j:Nat)(h:j<nU x S):∃s,S[j]?=some s/\s.z<=x:=by
 induction S generalizing j with
 | nil=>simp[nU]at h
 | cons s r a =>
  rw[nU]at h;split at h
  ·cases j with
   | zero=>exact⟨s,rfl,by assumption⟩
   | succ j=>exact a j (by omega)
  ·omega
theorem Lx:kJ b (jh b x)<=x:=by
 unfold kJ;split
 ·next h =>
  obtain⟨s,a,c⟩:=BS x b (jh b x-1) (by unfold jh at h ⊢;omega);unfold aq;rw[RT,a];exact c
 ·omega
def mu(T:List Tk)(S:List Sm)(key x:ByteArray)(n:Nat)(before:List ByteArray):Int :=
 if(x.toList == [36,46])=true then iE key before
 else if((x.toList == [36,61])&&((key.toList == [36,112]) && !(aJ before ⟨#[36,61]⟩)))=true then(if before.length=0 then 15 else 0)
 else if gW x ⟨#[36]⟩=true then 8
 else if aJ before ⟨#[36,61]⟩=true then 0
 else if((key.toList == [36,99])||(key.toList == [36,118]))=true then jT T S x n (key.toList == [36,99]) before
 else g7 T S key x n before
def a9(T:List Tk)(S:List Sm)(i:Nat):Int :=
 if i=kJ S (jh S i) then dq T S (tS T i) (jh S i)
 else if i<(dQ T (kJ S (jh S i))).2 then(if(ay (tS T i)||aF (tS T i))=true then 0 else 14)
 else mu T S (dQ T (kJ S (jh S i))).1 (tS T i) (jh S i) (dX T (dQ T (kJ S (jh S i))).2 i)
theorem BI(Y:fZ y H w D d b a x)(hi:n<w.length)(V:iB w b (jh b n))(hf:mD w b (jh b n))(hs:∀n,(tS w n).size<=1073741824) :
  Calls prog 87 #[pointer (some ⟨H,0,none⟩),int i64 n] y fun e w'=>e=returned (int i64 (a9 w b n))/\aa [] y w':=by
 have HD:Hid _:=Y;have hT:=V.t;have b6:=V.s;obtain⟨c0,c1,hb⟩:=Y.cells;obtain⟨X,rfl,cc,t0,-⟩:=Y.t.2 n _ (iK w n hi);replace t0:y.cell? ⟨X,n*5,none⟩=some (string (tS w n)):=t0;have ch:(n:Int)<w.length:=by omega
 have F:Hid _:=Ev H (jh b n) (tS w n) w (some ⟨X,0,none⟩) d b a x y Y V (hs n);have ag:=Lx b n;have r:Hid _:=GP H (kJ b (jh b n)) w (some ⟨X,0,none⟩) d b a x y Y (by omega) hT hs
 have f:Hid (a9 w b n=if n=kJ b (jh b n) then dq w b (tS w n) (jh b n)
  else if n<(dQ w (kJ b (jh b n))).2 then(if(ay (tS w n)||aF (tS w n))=true then 0 else 14)
  else mu w b (dQ w (kJ b (jh b n))).1 (tS w n) (jh b n) (dX w (dQ w (kJ b (jh b n))).2 n)):=rfl
 have br:=hs n;have HB:Hid (kJ b (jh b n)=if 0<jh b n then(aq b (jh b n-1)).z else 0):=rfl;obtain⟨l,Hx⟩:∃l,Hid (tS w n=l):=⟨_,rfl⟩
 rw[Hx.out]at t0 F f br;obtain⟨M,Hn⟩:∃M,Hid (jh b n=M):=⟨_,rfl⟩
 have a1:Hid (M=nU n b):=Hn.out.symm;rw[Hn.out]at F r f HB ag V hf;obtain⟨L,a7⟩:∃L,Hid (kJ b M=L):=⟨_,rfl⟩
 rw[a7.out]at r f HB ag;obtain⟨kw,ba⟩:∃kw,Hid (dQ w L=kw):=⟨_,rfl⟩
 rw[ba.out]at r f;obtain⟨p,I⟩:=kw;simp only at r f;have cl:M<=b.length:=V.m;clear Y;go_enter func87,ntmps87;go_wp2
 go_loopg [5] b.length (fun g o wr=>∃k:Nat,k<=b.length/\g=b.length-k/\o=int i64 k/\Hid (k+nU n (b.drop k)=M)/\wr=y)
 case atStart=>exact⟨0,by omega,rfl,rfl,by show _=_;rw[U0,Ut];exact a1.out.symm,rfl⟩
 case round =>
  obtain⟨k,hk,hg,rfl,HC,rfl⟩:=hrel;obtain⟨v,ac,a5,ad⟩:∃v:Bool,Hid (∀h:k<b.length,b[k].z<=n->v=true)/\Hid (v=true->k<b.length/\k+1+nU n (b.drop (k+1))=M)/\Hid ((∀h:k<b.length,¬b[k].z<=n)->v=false):=by
   by_cases i:k<b.length
   ·have A:=HC.out;rw[Sq i,nU]at A;refine⟨decide (b[k].z<=n),fun h T=>by simpa using T,fun h=>⟨i,?_⟩,fun h=>by simpa using h i⟩;rw[RY (by simpa using h)]at A;omega
   ·exact⟨false,(fun h=>absurd h i),(fun h=>by cases h),(fun _=>rfl)⟩
  have a6:Hid (v=false->k=M):=fun h=>by
   have A:=HC.out;by_cases i:k<b.length
   ·rw[Sq i,nU]at A;by_cases T:b[k].z<=n
    ·have:=ac.out i T;rw[h]at this;cases this
    ·rw[RU T]at A;omega
   ·rw[UM (by omega),nU]at A;omega
  go_upto_region 2 with fail
  go_cut [34] from 16 to 34 (fun bv wd=>bv=bool v/\wd=wr)
  case first =>
   by_cases i:k<b.length
   ·obtain⟨gs,rfl,bk,-,q1,-⟩:=HD.out.s.2 k b[k] (RQ i);have ax:(k:Int)<b.length:=(by omega);by_cases T:b[k].z<=n
    ·have bs:(b[k].z:Int)<=(n:Int):=(by omega);have HV:Hid _:=ac.out i T;go_wp2_with fail;go_meet
     case rel=>exact⟨by rw[HV.out],rfl⟩
    ·have bs:¬(b[k].z:Int)<=(n:Int):=(by omega);have HV:Hid _:=(ad.out (fun _=>T));go_wp2_with fail;go_meet
     case rel=>exact⟨by rw[HV.out],rfl⟩
   ·have ax:¬(k:Int)<b.length:=(by omega);have HV:Hid _:=(ad.out (fun h=>absurd h i));go_wp2_with fail;go_meet
    case rel=>exact⟨by rw[HV.out],rfl⟩
  case rest =>
   obtain⟨rfl,E⟩:=hcut;subst E;cases v
   ·have bl:=a6.out rfl;subst bl;go_upto_if 38 with fail
    go_cut [6] from 37 to 47 (fun s6 wd=>s6=int i64 L/\wd=wc)
    case first =>
     by_cases ap:0<k
     ·have ar:k-1<b.length:=(by omega);obtain⟨gs,rfl,bk,-,q1,-⟩:=HD.out.s.2 (k-1) b[k-1] (RQ ar);have P:Hid (b[k-1].z=L):=(by show _=_;rw[HB.out,RY ap,bQ b (k-1) ar]);rw[P.out]at q1;have cp:IntKind.i64.wrap ((k:Int)-1)=(k:Int)-1:=by rw[TE];omega
      have co:((k:Int)-1).toNat=k-1:=(by omega);have b1:(0:Int)<=(k:Int)-1:=(by omega);have b2:(k:Int)-1<b.length:=(by omega);have b3:(1:Int)<=(k:Int):=(by omega);have b4:(0:Int)<(k:Int):=(by omega);go_wp2_with fail;go_meet
      case rel=>exact⟨rfl,rfl⟩
     ·have P:Hid (L=0):=(by show _=_;rw[HB.out,RU ap]);have b4:¬(0:Int)<(k:Int):=(by omega);go_wp2_with fail;go_meet
      case rel=>exact⟨by rw[P.out];rfl,rfl⟩
    case rest =>
     obtain⟨rfl,E⟩:=hcut;subst E;by_cases S:n=L
     ·have j:Hid (a9 w b n=dq w b l k):=(by show _=_;rw[f.out,RY S]);subst S;clear r;go_wp2_with (go_at_call 122;refine R0 F.out ?_;rintro e J ⟨rfl,U⟩);go_ret;exact⟨au j.out.symm,U⟩
     ·rw[RU S]at f;have bw:((n:Int)==(L:Int))=false:=(by simp;omega);(go_upto_region 11 with (go_at_call 86;refine R0 r.out ?_;rintro e J ⟨rfl,c⟩;rw[c];clear c));by_cases al:n<I
      ·rw[RY al]at f;have an:(n:Int)<(I:Int):=(by omega);(go_upto_region 14 with (first | (go_at_call 123;refine(gG l _).mono ?_;rintro e J ⟨rfl,c⟩;rw[c];clear c) | (go_at_call 124;refine(l5 l _).mono ?_;rintro e J ⟨rfl,c⟩;rw[c];clear c)));obtain⟨ya,bd⟩:∃ya,Hid (ay l=ya):=⟨_,rfl⟩
       obtain⟨yu,be⟩:∃yu,Hid (aF l=yu):=⟨_,rfl⟩
       rw[bd.out,be.out]at f ⊢;cases ya
       ·cases yu
        ·have j:Hid (a9 w b n=14):=(by show _=_;rw[f.out];rfl);go_wp2;go_ret;exact⟨au j.out.symm,aa.refl _ _⟩
        ·have j:Hid (a9 w b n=0):=(by show _=_;rw[f.out];rfl);go_wp2;go_ret;exact⟨au j.out.symm,aa.refl _ _⟩
       ·have j:Hid (a9 w b n=0):=(by show _=_;rw[f.out];rfl);go_wp2;go_ret;exact⟨au j.out.symm,aa.refl _ _⟩
      ·rw[RU al]at f;have an:¬(n:Int)<(I:Int):=(by omega);have HX:Hid _:=yP.nil wc;clear F r c1;go_wp2
       go_loopg [12,13] (n-I) (fun g o q wr=>∃(m:Nat) (u:Hd) (O:List ByteArray),(I<=m/\m<=n)/\g=n-m/\o=slice u.ao O.length u.cap/\q=int i64 m/\O.length<=m/\Hid (O=dX w I m)/\Hid (yP wc wr u O))
       case atStart=>exact⟨I,⟨none,0⟩,[],⟨by omega,by omega⟩,rfl,rfl,rfl,by simp,by show _=_;unfold dX;rw[Td];rfl,HX⟩
       case round =>
        obtain⟨m,u,O,⟨bo,cj⟩,cb,rfl,rfl,b5,HO,W⟩:=hrel;have B:Hid _:=fZ.Wj HD.out W.out.kept;obtain⟨d0,-,ca⟩:=B.out.cells;by_cases ck:m<n
        ·have az:m<w.length:=(by omega);obtain⟨b0,e5,cf,q0,-⟩:=B.out.t.2 m _ (iK w m az);cases e5
         replace q0:wr.cell? ⟨X,m*5,none⟩=some (string (tS w m)):=q0;have bx:(m:Int)<(n:Int):=(by omega);have bz:(m:Int)<w.length:=(by omega);have a3:Hid (O++[tS w m]=dX w I (m+1)):=(by show _=_;rw[BE w I m bo az,HO.out]);generalize tS w m=bT at *;have bj:=W.out.own;go_wp2_with (at_builtin;refine pG _ rfl (.tmp 86) (.tmp 95) rfl u O bT rfl bj (by omega) rfl ?_;intro h5 w5 aS ai;have a2:Hid _:=W.out.Wt ai aS;clear aS ai);go_roundg (n-(m+1))
         case measure=>omega
         case rel=>exact⟨m+1,h5,O++[bT],⟨by omega,by omega⟩,rfl,by simp,by go_num,by simp;omega,a3,a2⟩
        ·have bf:m=n:=(by omega);subst bf;rw[<-HO.out]at f;have C:=W.out.own.srcX;have K:Hid _:=W.out.kept;have N:Hid _:=(kC O u.ao u.cap ⟨#[36,61]⟩ wr C (by omega));have a0:Hid _:=(BQ p O u.ao u.cap wr C (by omega));have Z:Hid (∀G,Calls prog 126 #[pointer (some ⟨H,0,none⟩),string l,int i64 k,bool G,slice u.ao O.length u.cap] wr fun e w'=>e=returned (int i64 (jT w b l k G O))/\aa [] wr w'):=fun G=>Ju H k l G O u.ao u.cap w (some ⟨X,0,none⟩) d b a x wr B.out V C (by omega);have a4:Hid _:=(FK H k p l O u.ao u.cap w (some ⟨X,0,none⟩) d b a x wr B.out V hf C (by omega));unfold mu at f;obtain⟨pf,bc⟩:∃pf,Hid (aJ O ⟨#[36,61]⟩=pf):=⟨_,rfl⟩
         obtain⟨dl,af⟩:∃dl,Hid (gW l ⟨#[36]⟩=dl):=⟨_,rfl⟩
         rw[bc.out]at N f;rw[af.out]at f;(go_upto_region 24 with (first | (go_at_call 94;refine R0 N.out ?_;rintro e J ⟨rfl,c⟩;rw[c];clear c) | (go_at_call 121;refine(fS l _ _ (by omega) (by show 1<=_;omega)).mono ?_;rintro e J ⟨rfl,c⟩;rw[c];clear c)));rw[af.out];clear N C HX d0 W B;generalize O.length=ol at *;cases h1:(l.toList == [36,46])
         ·rw[RU (by rw[h1];simp)]at f;obtain⟨tb,R⟩:∃tb,Hid (((l.toList == [36,61])&&((p.toList == [36,112]) && !pf))=tb):=⟨_,rfl⟩
          rw[R.out]at f;go_upto_region 26 with fail
          go_cut [107] from 108 to 117 (fun aT wd=>aT=bool tb/\wd=wr)
          case first =>
           cases h2:(l.toList == [36,61])
           ·go_wp2_with fail;go_meet
            case rel=>exact⟨by rw[<-R.out,h2];rfl,rfl⟩
           ·cases h3:(p.toList == [36,112])
            all_goals
             go_wp2_with fail;go_meet
             case rel=>exact⟨by rw[<-R.out,h2,h3];rfl,rfl⟩
          case rest =>
           obtain⟨rfl,E⟩:=hcut;subst E;cases tb
           ·cases dl
            ·cases pf
             ·cases h4:(p.toList == [36,99])
              ·cases h5:(p.toList == [36,118])
               ·have j:Hid (a9 w b m=g7 w b p l k O):=(by show _=_;rw[f.out,h4,h5];rfl);go_wp2_with (go_at_call 127;refine R0 a4.out ?_;rintro e J ⟨rfl,U⟩);go_ret;exact⟨au j.out.symm,K.out.trans U⟩
               ·have j:Hid (a9 w b m=jT w b l k false O):=(by show _=_;rw[f.out,h4,h5];rfl);have Q:Hid _:=Z.out false;go_wp2_with (go_at_call 126;refine R0 Q.out ?_;rintro e J ⟨rfl,U⟩);go_ret;exact⟨au j.out.symm,K.out.trans U⟩
              ·have j:Hid (a9 w b m=jT w b l k true O):=(by show _=_;rw[f.out,h4];rfl);have Q:Hid _:=Z.out true;go_wp2_with (go_at_call 126;refine R0 Q.out ?_;rintro e J ⟨rfl,U⟩);go_ret;exact⟨au j.out.symm,K.out.trans U⟩
             ·have j:Hid (a9 w b m=0):=(by show _=_;rw[f.out];rfl);go_wp2;go_ret;exact⟨au j.out.symm,K.out⟩
            ·have j:Hid (a9 w b m=8):=(by show _=_;rw[f.out];rfl);go_wp2;go_ret;exact⟨au j.out.symm,K.out⟩
           ·rw[RY rfl]at f;by_cases ho:ol=0
            ·have j:Hid (a9 w b m=15):=(by show _=_;rw[f.out,RY ho]);have bp:((ol:Int)==0)=true:=(by simpa using ho);go_wp2;go_ret;exact⟨au j.out.symm,K.out⟩
            ·have j:Hid (a9 w b m=0):=(by show _=_;rw[f.out,RU ho]);have bp:((ol:Int)==0)=false:=(by simpa using ho);go_wp2;go_ret;exact⟨au j.out.symm,K.out⟩
         ·have j:Hid (a9 w b m=iE p O):=(by show _=_;rw[f.out,RY h1]);go_wp2_with (go_at_call 125;refine R0 a0.out ?_;rintro e J ⟨rfl,c⟩;rw[c];clear c);go_ret;exact⟨au j.out.symm,K.out⟩
   ·obtain⟨i,hm⟩:=a5.out rfl;have HM:Hid _:=hm;clear hm;go_wp2;go_roundg (b.length-(k+1))
    case measure=>omega
    case rel=>exact⟨k+1,by omega,rfl,by go_num,HM,rfl⟩
def QD(T:List Tk)(S:List Sm)(i:Nat):Bool:=!(a9 T S i==0)
def za(T:List Tk)(S:List Sm):Tk:=match (List.range T.length).find? (QD T S) with
 | some i=>⟨⟨#[]⟩,a9 T S i,(T.getD i gB).file,(T.getD i gB).line,(T.getD i gB).col⟩
 | none=>gB
theorem LL{T:List Tk}{S:List Sm}{k:Nat}(c:k<T.length)(h:(a9 T S k==0)=false)(a:∀j,j<k->a9 T S j=0):za T S=⟨⟨#[]⟩,a9 T S k,(T.getD k gB).file,(T.getD k gB).line,(T.getD k gB).col⟩:=by
 have e:(List.range T.length).find? (QD T S)=some k:=by
  rw[Tx];exact⟨by unfold QD;rw[h];rfl,Sd.2 c,fun j b=>by unfold QD;rw[a j b];rfl⟩
 unfold za;rw[e]
theorem Pq(a:∀j,j<o.length->a9 o i j=0):za o i=gB:=by
 have e:(List.range o.length).find? (QD o i)=none:=by
  rw[Tn];intro j b;unfold QD;rw[a j (Sd.1 b)];simp
 unfold za;rw[e]
def QG(T:List Tk)(S:List Sm):Prop:=∀i,i<T.length->(∀j,j<i->a9 T S j=0)->iB T S (jh S i)/\mD T S (jh S i)
theorem wU(P:fZ y n w D d b a x)(hT:w.length<=100000)(hO:QG w b)(hs:∀i,(tS w i).size<=1073741824) :
  Calls prog 57 #[pointer (some ⟨n,0,none⟩)] y fun e w'=>e=returned (agg #[int i64 (za w b).rule,string (za w b).file,int i64 (za w b).line,int i64 (za w b).col])/\aa [] y w':=by
 have N:Hid _:=P;obtain⟨W,G⟩:∃W,Hid (y.alloc (.cells #[int i64 0,string ⟨#[]⟩,int i64 0,int i64 0] 87)=W):=⟨_,rfl⟩
 have Z:=fY G.out;have F:Hid _:=fN G.out;clear P;go_enter func57,ntmps57;go_upto_region 1 with fail
 rw[G.out];go_wp2
 go_loopg [3] w.length (fun g i wr=>∃k:Nat,k<=w.length/\g=w.length-k/\i=int i64 k/\Hid (∀j,j<k->a9 w b j=0)/\Hid (aa [] W wr))
 case atStart=>exact⟨0,by omega,rfl,rfl,(fun j S=>by omega),aa.refl _ _⟩
 case round =>
  obtain⟨k,hk,hg,rfl,z,C⟩:=hrel;have o:Hid _:=F.out.trans C.out;have q:Hid _:=fZ.Wj N.out o.out;obtain⟨O,-,Q⟩:=q.out.cells;have f:=C.out.get Z (by simp);by_cases c:k<w.length
  ·obtain⟨U,R⟩:=hO k c z.out;have H:(k:Int)<w.length:=(by omega);have m:Hid _:=BI n k w D d b a x wr q.out c U R hs;obtain⟨r,A⟩:∃r,Hid (a9 w b k=r):=⟨_,rfl⟩
   rw[A.out]at m;clear U R;cases T:(r==0)
   ·have u:Hid (za w b=⟨⟨#[]⟩,r,(w.getD k gB).file,(w.getD k gB).line,(w.getD k gB).col⟩):=(by show _=_;rw[LL c (by rw[A.out];exact T) z.out,A.out]);(go_upto_region 5 with (go_at_call 87;refine R0 m.out ?_;rintro e w2 ⟨rfl,B⟩));have s:Hid _:=o.out.trans B;have p:Hid _:=fZ.Wj N.out s.out;have l:=B.get f (by simp);clear O Q;obtain⟨O,-,Q⟩:=p.out.cells;obtain⟨gT,rfl,ac,-,-,t2,t3,t4⟩:=p.out.t.2 k _ (iK w k c);generalize w.getD k gB=t at *;obtain⟨ts,tr,X,Y,V⟩:=t;simp only at t2 t3 t4 u;have f0:=am l 0;have f1:=am l 1;have f2:=am l 2;have f3:=am l 3;obtain⟨g0,g1,g2,g3⟩:=BK l;have y2:=ae l;go_wp2;obtain⟨J,K,L,M⟩:=tx l (int i64 r) (string X) (int i64 Y) (int i64 V);exact Sa (v:=agg #[int i64 r,string X,int i64 Y,int i64 V]) (by simp[results,results57,go_sem,J,K,L,M]) rfl ⟨by rw[u.out],(((s.out.setCell (RZ (by simp)) _).setCell (RZ (by simp)) _).setCell (RZ (by simp)) _).setCell (RZ (by simp)) _⟩
   ·have I:r=0:=(by simpa using T);subst I;have HM:Hid (∀j,j<k+1->a9 w b j=0):=fun j S=>by
     by_cases e:j=k
     ·rw[e];exact A.out
     ·exact z.out j (by omega)
    go_wp2_with (go_at_call 87;refine R0 m.out ?_;rintro e w2 ⟨rfl,B⟩;have E:Hid _:=C.out.trans B);go_roundg (w.length-(k+1))
    case measure=>omega
    case rel=>exact⟨k+1,by omega,rfl,by go_num,HM,E⟩
  ·have u:Hid (za w b=gB):=Pq (fun j S=>z.out j (by omega));have f0:=am f 0;have f1:=am f 1;have f2:=am f 2;have f3:=am f 3;obtain⟨g0,g1,g2,g3⟩:=BK f;have y2:=ae f;have H:¬(k:Int)<w.length:=(by omega);go_wp2;obtain⟨J,K,L,M⟩:=tx f (int i64 0) (string ⟨#[]⟩) (int i64 0) (int i64 0);exact Sa (v:=agg #[int i64 0,string ⟨#[]⟩,int i64 0,int i64 0]) (by simp[results,results57,go_sem,J,K,L,M]) rfl ⟨by rw[u.out];rfl,(((o.out.setCell (RZ (by simp)) _).setCell (RZ (by simp)) _).setCell (RZ (by simp)) _).setCell (RZ (by simp)) _⟩
theorem zG(h:x<b.length):aq (b++[M]) x=aq b x:=by
 unfold aq;rw[RT,RT,Si h]
theorem uP:aq (b++[M]) b.length=M:=by
 unfold aq;rw[RT,Sf (RV _),Td];rfl
theorem BH(h:x<=b.length):kJ (b++[M]) x=kJ b x:=by
 unfold kJ;split
 ·rw[zG b M (x-1) (by omega)]
 ·rfl
structure Rq(T:List Tk)(S:List Sm)(j:Nat)(s:Sm):Prop where
 a:s.a=kJ S j
 lt:s.a<s.z
 e:bY (tS T (s.z-1))=true
 n:∀q,s.a<=q->q<s.z-1->bY (tS T q)=false
 k:(s.k,s.h)=dQ T s.a
structure By(T:List Tk)(i:Nat)(S:List Sm)(f:Nat):Prop where
 s:∀j,j<S.length->Rq T S j (aq S j)/\(aq S j).z<=i
 fr:f=kJ S S.length
 n:∀q,f<=q->q<i->bY (tS T q)=false
 le:f<=i
theorem Jy(i:Nat):By w i (fh w i).1 (fh w i).2:=by
 induction i with
 | zero=>exact⟨fun j d=>by simp[fh]at d,rfl,fun q _ h=>by omega,RV _⟩
 | succ i b =>
  rw[fh];split
  ·next l =>
   generalize (fh w i).1=S at *;generalize (fh w i).2=f at *;refine⟨fun j d=>?_,?_,fun q c g=>by simp only at c;omega,RV _⟩
   ·simp only[List.length_append,List.length_cons,List.length_nil]at d;by_cases e:j<S.length
    ·obtain⟨p,m⟩:=b.s j e;rw[zG S _ j e];exact⟨⟨by rw[BH S _ j (by omega)];exact p.a,p.lt,p.e,p.n,p.k⟩,by omega⟩
    ·have e:j=S.length:=(by omega);subst e;rw[uP];have:=b.le;exact⟨⟨by rw[BH S _ _ (RV _)];exact b.fr,by show f<i+1;omega,l,fun q c g=>b.n q c (by simp only at g;omega),rfl⟩,RV _⟩
   ·simp only[List.length_append,List.length_cons,List.length_nil];unfold kJ;rw[RY (by omega),Tq,uP]
  ·next l =>
   refine⟨fun j d=>?_,b.fr,fun q c g=>?_,by have:=b.le;omega⟩
   ·obtain⟨p,m⟩:=b.s j d;exact⟨p,by omega⟩
   ·by_cases e:q=i
    ·rw[e];simpa using l
    ·exact b.n q c (by omega)
theorem dL:By w w.length (ab w) (fh w w.length).2:=Jy w w.length
theorem LG(S:List Sm)(j:Nat)(a:∀q,q<j->∃s,S[q]?=some s/\s.z<=x)(b:∀s,S[j]?=some s->¬s.z<=x):nU x S=j:=by
 induction S generalizing j with
 | nil =>
  cases j with
  | zero=>rfl
  | succ j=>obtain⟨s,h,-⟩:=a 0 (by omega);cases h
 | cons s r f =>
  cases j with
  | zero=>rw[nU,RU (b s rfl)]
  | succ j =>
   obtain⟨i,e,d⟩:=a 0 (by omega);simp at e;subst e;rw[nU,RY d,f j (fun q g=>by simpa using a (q+1) (by omega)) (fun t c=>b t (by simpa using c))]
section
variable {T:List Tk} {i0 f:Nat} {S:List Sm}
theorem Hz(S:List Sm)(j:Nat)(h:j<S.length):S[j]?=some (aq S j):=by
 unfold aq;rw[RT,RQ h];rfl
theorem By.step(p:By T i0 S f)(j:Nat)(h:j+1<S.length):(aq S j).z<(aq S (j+1)).z:=by
 have q:=(p.s (j+1) h).1;have:=q.lt;rw[q.a]at this;unfold kJ at this;rw[RY (by omega),Tq]at this;exact this
theorem By.mono(p:By T i0 S f)(j k:Nat)(h:j<=k)(a:k<S.length):(aq S j).z<=(aq S k).z:=by
 induction k with
 | zero =>
  have:j=0:=by omega
  rw[this];exact RV _
 | succ k b =>
  by_cases e:j=k+1
  ·rw[e];exact RV _
  ·have:=b (by omega) (by omega);have:=p.step k a;omega
theorem By.cnt(p:By T i0 S f)(j:Nat)(h:j<S.length)(i:Nat)(c:(aq S j).a<=i)(d:i<(aq S j).z):jh S i=j:=by
 refine LG i S j (fun q g=>⟨aq S q,Hz S q (by omega),?_⟩) (fun s b=>?_)
 ·have e:=(p.s j h).1.a;unfold kJ at e;rw[RY (by omega)]at e;have:=p.mono q (j-1) (by omega) (by omega);omega
 ·rw[Hz S j h]at b;cases b;omega
theorem By.beg(p:By T i0 S f)(j:Nat)(h:j<S.length)(i:Nat)(b:(aq S j).a<=i)(c:i<(aq S j).z):kJ S (jh S i)=(aq S j).a:=by
 rw[p.cnt j h i b c];exact((p.s j h).1.a).symm
end
end Go.Proofs.YtnbhnocdhbcbcaaGreat
