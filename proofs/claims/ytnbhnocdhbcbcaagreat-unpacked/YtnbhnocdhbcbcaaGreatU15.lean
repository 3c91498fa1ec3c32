import Derived.Deep.CutRange
import Derived.Test.YtnbhnocdhbcbcaaGreatU04
import Derived.Test.YtnbhnocdhbcbcaaGreatU14
namespace Go.Proofs.YtnbhnocdhbcbcaaGreat
open Go.RowKit Tryz
open Value IntKind Ending
set_option maxHeartbeats 0
variable{o:List Tk}{i:List Sm}{D:Xs}{N t:Nat}{m:World}{c:Hd}(L n:Nat)(H:Xs)(y:Nat)(w:List Tk)(g:Xu)(I:Nat)(b:List Sm)(M:Xu)(s:Sm)(d:Nat)(a:World)
structure i8(T:List Tk)(S:List Sm)(n:Nat):Prop where
 m:n<=S.length
 s:S.length<=100000
 t:T.length<=100000
 c:wK T S n [36,99]
 v:wK T S n [36,118]
 a:∀j,j<n->(aq S j).a<T.length
def jT(T:List Tk)(S:List Sm)(x:Xs)(n:Nat):Bool:=decide (0<=bB T S x n)||(eO T S x n||jL T S ⟨#[36,118]⟩ x n false)
set_option maxRecDepth 100000
theorem zh(q:ge a L w g I b M d)(f:i8 w b n) :
  Calls prog 171 #[pointer (some ⟨L,0,none⟩),string H,int i64 n] a fun e p=>e=returned (bool (jT w b H n))/\ae [] a p:=by
 have C:Xr _:=pR L n H w g I b M d a q f.m f.s f.a;have r:Xr (∀i,ae [] a i->Calls prog 173 #[pointer (some ⟨L,0,none⟩),string H,int i64 n] i fun e p=>e=returned (bool (eO w b H n))/\ae [] i p):=fun i k=>uW L n H w g I b M d i (q.Yh k) f.m f.s f.t f.c;have u:Xr (∀i,ae [] a i->Calls prog 213 #[pointer (some ⟨L,0,none⟩),string ⟨#[36,118]⟩,string H,int i64 n,bool false] i fun e p=>e=returned (bool (jL w b ⟨#[36,118]⟩ H n false))/\ae [] i p):=fun i k=>pN L n ⟨#[36,118]⟩ H false w g I b M d i (q.Yh k) f.m f.s f.t (by rw[pk.2];exact f.v);have y:Xr (jT w b H n=(decide (0<=bB w b H n)||(eO w b H n||jL w b ⟨#[36,118]⟩ H n false))):=rfl;generalize jT w b H n=R at *;generalize bB w b H n=l at *;generalize eO w b H n=c at *;generalize jL w b ⟨#[36,118]⟩ H n false=v at *;clear q;go_enter func171,ntmps171;go_upto_region 2 with (go_at_call 172;refine Ug C.o ?_;rintro e E ⟨rfl,z⟩)
 have r:Xr _:=r.o E z;go_upto_region 3 with (go_at_call 173;refine Ug r.o ?_;rintro e F ⟨rfl,B⟩)
 have u:Xr _:=u.o F (z.trans B);go_upto_region 4 with (go_at_call 213;refine Ug u.o ?_;rintro e G ⟨rfl,D⟩)
 have x:Xr _:=(z.trans B).trans D;by_cases A:0<=l
 ·have j:Xr (R=true):=by show _=_;rw[y.o];simp[A]
  go_wp2;go_ret;exact⟨aE j.o.symm,x.o⟩
 ·cases c
  ·have j:Xr (R=v):=(by show _=_;rw[y.o];simp[A]);go_wp2;go_ret;exact⟨aE j.o.symm,x.o⟩
  ·have j:Xr (R=true):=(by show _=_;rw[y.o];simp);go_wp2;go_ret;exact⟨aE j.o.symm,x.o⟩
def kl(T:List Tk)(S:List Sm)(x:Xs)(n:Nat)(con:Bool)(before:Xt):Int :=
 if aJ before x=true then 13 else if(con&&jT T S x n)=true then 13 else if(!con&&(decide (0<=bB T S x n)||(eO T S x n||iI T S x n)))=true then 13 else 0
theorem KG(f:Bool)(b:Xt)(u:Xu)(M:Nat)(T:List Tk)(p:Xu)(z:Nat)(S:List Sm)(j:Xu)(y:Nat)(w:World)(A:ge w L T p z S j y)(i:i8 T S n)(Q:ig w u b)(U:b.length<=1000000) :
  Calls prog 126 #[pointer (some ⟨L,0,none⟩),string H,int i64 n,bool f,slice u b.length M] w fun e x=>e=returned (int i64 (kl T S H n f b))/\ae [] w x:=by
 have J:Xr _:=(kU b u M H w Q (by omega));have K:Xr _:=zh L n H T p z S j y w A i;have D:Xr (∀d,ae [] w d->Calls prog 172 #[pointer (some ⟨L,0,none⟩),string H,int i64 n] d fun e x=>e=returned (int i64 (bB T S H n))/\ae [] d x):=fun d k=>pR L n H T p z S j y d (A.Yh k) i.m i.s i.a;have E:Xr (∀d,ae [] w d->Calls prog 173 #[pointer (some ⟨L,0,none⟩),string H,int i64 n] d fun e x=>e=returned (bool (eO T S H n))/\ae [] d x):=fun d k=>uW L n H T p z S j y d (A.Yh k) i.m i.s i.t i.c;have F:Xr (∀d,ae [] w d->Calls prog 174 #[pointer (some ⟨L,0,none⟩),string H,int i64 n] d fun e x=>e=returned (bool (iI T S H n))/\ae [] d x):=fun d k=>CD L n H T p z S j y d (A.Yh k) i.m i.s i.t i.v;have r:Xr (kl T S H n f b=if aJ b H=true then 13 else if(f&&jT T S H n)=true then 13 else if(!f&&(decide (0<=bB T S H n)||(eO T S H n||iI T S H n)))=true then 13 else 0):=rfl;generalize kl T S H n f b=R at *;generalize aJ b H=P at *;generalize jT T S H n=V at *;generalize bB T S H n=l at *;generalize eO T S H n=c at *;generalize iI T S H n=v at *;clear A;go_enter func126,ntmps126;go_upto_region 2 with (go_at_call 94;refine Ug J.o ?_;rintro e w9 ⟨rfl,B⟩;rw[B];clear B)
 go_upto_region 3 with (go_at_call 171;refine Ug K.o ?_;rintro e W ⟨rfl,C⟩)
 have D:Xr _:=D.o W C;go_upto_region 4 with (go_at_call 172;refine Ug D.o ?_;rintro e X ⟨rfl,G⟩)
 have E:Xr _:=E.o X (C.trans G);go_upto_region 5 with (go_at_call 173;refine Ug E.o ?_;rintro e Y ⟨rfl,I⟩)
 have F:Xr _:=F.o Y ((C.trans G).trans I);go_upto_region 6 with (go_at_call 174;refine Ug F.o ?_;rintro e Z ⟨rfl,O⟩)
 have q:Xr _:=((C.trans G).trans I).trans O;clear J K D E F C G I O;cases P
 ·cases f
  ·by_cases N:0<=l
   ·have g:Xr (R=13):=(by show _=_;rw[r.o];simp[N]);go_wp2;go_ret;exact⟨T0 g.o.symm,q.o⟩
   ·cases c
    ·cases v
     ·have g:Xr (R=0):=(by show _=_;rw[r.o];simp[N]);go_wp2;go_ret;exact⟨T0 g.o.symm,q.o⟩
     ·have g:Xr (R=13):=(by show _=_;rw[r.o];simp);go_wp2;go_ret;exact⟨T0 g.o.symm,q.o⟩
    ·have g:Xr (R=13):=(by show _=_;rw[r.o];simp);go_wp2;go_ret;exact⟨T0 g.o.symm,q.o⟩
  ·cases V
   ·have g:Xr (R=0):=(by show _=_;rw[r.o];simp);go_wp2;go_ret;exact⟨T0 g.o.symm,q.o⟩
   ·have g:Xr (R=13):=(by show _=_;rw[r.o];simp);go_wp2;go_ret;exact⟨T0 g.o.symm,q.o⟩
 ·have g:Xr (R=13):=by show _=_;rw[r.o];simp
  go_wp2;go_ret;exact⟨T0 g.o.symm,q.o⟩
def jb(key:Xs)(before:Xt):Int :=
 if before.length=0 then 15 else if(((key.toList == [36,100])||(key.toList == [36,102]))&&decide (before.length<2))=true then 15 else if((key.toList == [36,112]) && !(aJ before ⟨#[36,61]⟩))=true then 23 else 0
theorem Dd(a:Xt)(c:Xu)(p:Nat)(w:World)(q:ig w c a)(t:a.length<=1000000) :
  Calls prog 125 #[string H,slice c a.length p] w fun e v=>e=returned (int i64 (jb H a))/\v=w:=by
 have m:Xr _:=(kU a c p ⟨#[36,61]⟩ w q (by omega));have d:Xr (jb H a=if a.length=0 then 15 else if(((H.toList == [36,100])||(H.toList == [36,102]))&&decide (a.length<2))=true then 15 else if((H.toList == [36,112]) && !(aJ a ⟨#[36,61]⟩))=true then 23 else 0):=rfl;generalize jb H a=R at *;generalize aJ a ⟨#[36,61]⟩=r at *;generalize a.length=n at *;clear q;by_cases f:n=0
 ·have s:Xr (R=15):=by show _=_;rw[d.o,Uf f]
  subst f;go_enter func125,ntmps125;go_wp2_with (go_at_call 94;refine Ug m.o ?_;rintro e x ⟨rfl,b⟩;rw[b];clear b);go_ret;exact⟨T0 s.o.symm,rfl⟩
 ·rw[Ud f]at d;have u:((n:Int)==0)=false:=by simpa using f
  go_enter func125,ntmps125;go_upto_region 3 with (go_at_call 94;refine Ug m.o ?_;rintro e x ⟨rfl,b⟩;rw[b];clear b)
  rcases kn n 2 with ⟨g,i⟩ | ⟨g,i⟩
  ·cases j:(H.toList == [36,100]) <;> cases k:(H.toList == [36,102]) <;> cases l:(H.toList == [36,112]) <;> cases r
   all_goals
    go_wp2;go_ret;exact⟨T0 (by rw[d.o];simp[g,j,k,l]),rfl⟩
  ·cases j:(H.toList == [36,100]) <;> cases k:(H.toList == [36,102]) <;> cases l:(H.toList == [36,112]) <;> cases r
   all_goals
    go_wp2;go_ret;exact⟨T0 (by rw[d.o];simp[g,j,k,l]),rfl⟩
theorem BY(O:H.size<=1073741824) :
  Calls prog 170 #[string H] a fun e L=>e=returned (bool (iB H))/\L=a:=by
 go_enter func170,ntmps170;go_wp2
 go_loopg [3] H.size (fun g i wr=>∃k:Nat,k<=H.size/\g=H.size-k/\i=int i64 k/\Xr (∀i,i<k->ki (aH H i)=true)/\wr=a)
 ·exact⟨0,by omega,by omega,rfl,fun i h=>by omega,rfl⟩
 obtain⟨k,N,M,rfl,d,rfl⟩:=hrel;by_cases n:k<H.size
 ·have q:Xr (ki (H[k].toNat:Int)=false->iB H=false):=fun v=>Fp k n (by rw[bZ H k n];exact v);have r:Xr (ki (H[k].toNat:Int)=true->∀i,i<k+1->ki (aH H i)=true):=fun v i E=>by
   by_cases e:i=k
   ·subst e;rw[bZ H i n];exact v
   ·exact d.o i (by omega)
  have F:(k:Int)<(H.size:Int):=by omega
  go_upto_region 5 with fail
  obtain⟨c,B⟩:∃c:Int,(H[k].toNat:Int)=c:=⟨_,rfl⟩
  have D:Xr _:=B;clear B;rw[D.o]at q r ⊢
  go_cut [5] from 18 to 23 (fun G p=>G=bool (decide (97<=c)&&decide (c<=122))/\p=wr)
  case first =>
   by_cases s:97<=c
   ·by_cases t:c<=122
    all_goals
     go_wp2_with fail;go_meet
     case rel=>exact⟨by simp;omega,rfl⟩
   ·go_wp2_with fail;go_meet
    case rel=>exact⟨by simp;omega,rfl⟩
  case rest =>
   obtain⟨rfl,b⟩:=hcut;subst b;obtain⟨x,f⟩:=bm ((decide (97<=c)&&decide (c<=122)));rw[f.o];go_upto_region 6 with fail
   go_cut [6] from 24 to 29 (fun I p=>I=bool (decide (65<=c)&&decide (c<=90))/\p=wc)
   case first =>
    by_cases s:65<=c
    ·by_cases t:c<=90
     all_goals
      go_wp2_with fail;go_meet
      case rel=>exact⟨by simp;omega,rfl⟩
    ·go_wp2_with fail;go_meet
     case rel=>exact⟨by simp;omega,rfl⟩
   case rest =>
    obtain⟨rfl,b⟩:=hcut;subst b;obtain⟨y,j⟩:=bm ((decide (65<=c)&&decide (c<=90)));rw[j.o];go_upto_region 7 with fail
    go_cut [7] from 30 to 35 (fun J p=>J=bool (decide (48<=c)&&decide (c<=57))/\p=wc)
    case first =>
     by_cases s:48<=c
     ·by_cases t:c<=57
      all_goals
       go_wp2_with fail;go_meet
       case rel=>exact⟨by simp;omega,rfl⟩
     ·go_wp2_with fail;go_meet
      case rel=>exact⟨by simp;omega,rfl⟩
    case rest =>
     obtain⟨rfl,b⟩:=hcut;subst b;obtain⟨z,l⟩:=bm ((decide (48<=c)&&decide (c<=57)));rw[l.o];go_upto_region 8 with fail
     go_cut [8] from 36 to 45 (fun K p=>K=bool ((c==45)||(c==95)||(c==46))/\p=wc)
     case first =>
      cases s:(c==45)
      ·cases t:(c==95)
       all_goals
        go_wp2_with fail;go_meet
        case rel=>exact⟨by rw[s,t];simp,rfl⟩
      ·go_wp2_with fail;go_meet
       case rel=>exact⟨by rw[s];simp,rfl⟩
     case rest =>
      obtain⟨rfl,b⟩:=hcut;subst b;obtain⟨A,m⟩:=bm (((c==45)||(c==95)||(c==46)));rw[m.o];have w:Xr (ki c=(x||(y||(z||A)))):=cM (by rw[<-f.o,<-j.o,<-l.o,<-m.o];unfold ki;simp only[Bool.or_assoc]);clear f j l m;cases x <;> cases y <;> cases z <;> cases A
      ·have u:Xr _:=q.o (by rw[w.o];rfl);go_wp2;go_ret;exact⟨aE u.o.symm,rfl⟩
      all_goals
       have u:Xr _:=(r.o (by rw[w.o];rfl));go_wp2;go_roundg (H.size-(k+1))
       ·exact⟨k+1,by omega,rfl,by go_num,u,rfl⟩
       omega
 ·have C:Xr (iB H=true):=Bj (fun i E=>d.o i (by omega));go_wp2;go_ret;exact⟨aE C.o.symm,rfl⟩
def dE(T:List Tk)(S:List Sm)(x:Xs)(n:Nat):Int :=
 if((x.toList == [36,123])||((x.toList == [36,118])||(x.toList == [36,100])))=true then 0
 else if((x.toList == [36,125])&&(bq S n==0))=true then 9
 else if(x.toList == [36,125])=true then 0
 else if((x.toList == [36,99])&&decide (0<bq S n))=true then 10
 else if(x.toList == [36,99])=true then 0
 else if(aA x||aG x)=true then 11
 else if io x ⟨#[36]⟩=true then 8
 else if iB x=false then 12
 else if jT T S x n=true then 13 else 0
theorem FJ(u:ge a L w g I b M d)(v:i8 w b n)(D:H.size<=1073741824) :
  Calls prog 122 #[pointer (some ⟨L,0,none⟩),string H,int i64 n] a fun e F=>e=returned (int i64 (dE w b H n))/\ae [] a F:=by
 have x:Xr _:=FC L n w g I b M d a u v.m v.s;have y:Xr _:=zh L n H w g I b M d a u v
 have j:Xr (dE w b H n=if((H.toList == [36,123])||((H.toList == [36,118])||(H.toList == [36,100])))=true then 0
  else if((H.toList == [36,125])&&(bq b n==0))=true then 9
  else if(H.toList == [36,125])=true then 0
  else if((H.toList == [36,99])&&decide (0<bq b n))=true then 10
  else if(H.toList == [36,99])=true then 0
  else if(aA H||aG H)=true then 11
  else if io H ⟨#[36]⟩=true then 8
  else if iB H=false then 12
  else if jT w b H n=true then 13 else 0):=rfl
 generalize dE w b H n=R at *;generalize bq b n=z at *;generalize jT w b H n=E at *;clear u;go_enter func122,ntmps122;go_upto_region 5 with (first | (go_at_call 169;refine Ug x.o ?_;rintro e t ⟨rfl,c⟩;rw[c];clear c) | (go_at_call 121;refine(go H _ _ (by omega) (by show 1<=_;omega)).mono ?_;rintro e t ⟨rfl,c⟩;rw[c];clear c) | (go_at_call 170;refine(BY H _ D).mono ?_;rintro e t ⟨rfl,c⟩;rw[c];clear c) | (go_at_call 171;refine Ug y.o ?_;rintro e O ⟨rfl,C⟩))
 go_upto_region 7 with (first | (go_at_call 123;refine(gW H _).mono ?_;rintro e t ⟨rfl,c⟩;rw[c];clear c) | (go_at_call 124;refine(mz H _).mono ?_;rintro e t ⟨rfl,c⟩;rw[c];clear c))
 have i:Xr _:=C;generalize aA H=G at *;generalize aG H=N at *;generalize io H ⟨#[36]⟩=J at *;generalize iB H=K at *;clear x y C;cases k:(H.toList == [36,123])
 ·cases l:(H.toList == [36,118])
  ·cases p:(H.toList == [36,100])
   ·cases q:(H.toList == [36,125])
    ·cases r:(H.toList == [36,99])
     ·cases G
      ·cases N
       ·cases J
        ·cases K
         ·have f:Xr (R=12):=(by show _=_;rw[j.o];simp[k,l,p,q,r]);go_wp2;go_ret;exact⟨T0 f.o.symm,i.o⟩
         ·cases E
          ·have f:Xr (R=0):=(by show _=_;rw[j.o];simp[k,l,p,q,r]);go_wp2;go_ret;exact⟨T0 f.o.symm,i.o⟩
          ·have f:Xr (R=13):=(by show _=_;rw[j.o];simp[k,l,p,q,r]);go_wp2;go_ret;exact⟨T0 f.o.symm,i.o⟩
        ·have f:Xr (R=8):=(by show _=_;rw[j.o];simp[k,l,p,q,r]);go_wp2;go_ret;exact⟨T0 f.o.symm,i.o⟩
       ·have f:Xr (R=11):=(by show _=_;rw[j.o];simp[k,l,p,q,r]);go_wp2;go_ret;exact⟨T0 f.o.symm,i.o⟩
      ·have f:Xr (R=11):=(by show _=_;rw[j.o];simp[k,l,p,q,r]);go_wp2;go_ret;exact⟨T0 f.o.symm,i.o⟩
     ·by_cases A:0<z
      ·have f:Xr (R=10):=(by show _=_;rw[j.o];simp[k,l,p,q,r,A]);go_wp2;go_ret;exact⟨T0 f.o.symm,i.o⟩
      ·have f:Xr (R=0):=(by show _=_;rw[j.o];simp[k,l,p,q,r,A]);go_wp2;go_ret;exact⟨T0 f.o.symm,i.o⟩
    ·cases B:(z==0)
     ·have f:Xr (R=0):=(by show _=_;rw[j.o];simp[k,l,p,q,B]);go_wp2;go_ret;exact⟨T0 f.o.symm,i.o⟩
     ·have f:Xr (R=9):=(by show _=_;rw[j.o];simp[k,l,p,q,B]);go_wp2;go_ret;exact⟨T0 f.o.symm,i.o⟩
   ·have f:Xr (R=0):=(by show _=_;rw[j.o];simp[k,l,p]);go_wp2;go_ret;exact⟨T0 f.o.symm,i.o⟩
  ·have f:Xr (R=0):=(by show _=_;rw[j.o];simp[k,l]);go_wp2;go_ret;exact⟨T0 f.o.symm,i.o⟩
 ·have f:Xr (R=0):=by show _=_;rw[j.o];simp[k]
  go_wp2;go_ret;exact⟨T0 f.o.symm,i.o⟩
def rZ(T:List Tk)(S:List Sm)(v:Xs)(n j:Nat):Bool:=((aq S j).k.toList == [36,102])&&(((tS T ((aq S j).h+1)).toList==v.toList)&&aO S j n)
def gG(T:List Tk)(S:List Sm)(v:Xs)(n:Nat):Int:=match (List.range n).find? (rZ T S v n) with
 | some j=>j
 | none=>-1
theorem Kd(c:t<N)(h:rZ o i D N t=true)(a:∀j,j<t->rZ o i D N j=false):gG o i D N=t:=by
 have e:(List.range N).find? (rZ o i D N)=some t:=by
  rw[Vp];exact⟨h,Up.2 c,fun j b=>by rw[a j b];rfl⟩
 unfold gG;rw[e]
theorem Nb(a:∀j,j<N->rZ o i D N j=false):gG o i D N=-1:=by
 have e:(List.range N).find? (rZ o i D N)=none:=by
  rw[U8];intro j b;rw[a j (Up.1 b)];simp
 unfold gG;rw[e]
theorem Ka(Q:ge a L w g I b M d)(J:i8 w b n)(X:∀j,j<n->((aq b j).k.toList == [36,102])=true->(aq b j).h+1<w.length) :
  Calls prog 175 #[pointer (some ⟨L,0,none⟩),string H,int i64 n] a fun e N=>e=returned (int i64 (gG w b H n))/\ae [] a N:=by
 have O:Xr _:=Q;have hn:=J.m;have W:=J.s;have hT:=J.t;clear Q;go_enter func175,ntmps175;go_wp2
 go_loopg [7] n (fun U i wr=>∃k:Nat,k<=n/\U=n-k/\i=int i64 k/\Xr (∀j,j<k->rZ w b H n j=false)/\Xr (ae [] a wr))
 ·exact⟨0,by omega,rfl,rfl,(fun j hj=>by omega),ae.refl _ _⟩
 obtain⟨k,hk,hg,rfl,A,z⟩:=hrel;by_cases C:k<n
 ·have u:k<b.length:=by omega
  have q:Xr _:=ge.Yh O.o z.o;obtain⟨c0,c1,hb⟩:=q.o.cells;obtain⟨gs,rfl,Z,-,-,q2,q3⟩:=q.o.s.2 k b[k] (Ub u);have ad:(k:Int)<(n:Int):=by omega
  have R:(k:Int)<b.length:=by omega
  have r:Xr (rZ w b H n k=((b[k].k.toList == [36,102])&&(((tS w (b[k].h+1)).toList==H.toList)&&aO b k n))):=cM (by unfold rZ;rw[bX b k u]);have P:Xr ((b[k].k.toList == [36,102])=true->b[k].h+1<w.length):=by have:=X k C;rw[<-bX b k u]at this;exact this
  have x:Xr (∀D,ae [] a D->Calls prog 93 #[pointer (some ⟨L,0,none⟩),int i64 k,int i64 n] D fun e N=>e=returned (bool (aO b k n))/\N=D):=fun D kx=>lZ L k n w g I b _ d D (ge.Yh O.o kx) (by omega) hn W;generalize b[k]=s at *;obtain⟨sa,sz,l,sk⟩:=s;simp only at q2 q3 r P;obtain⟨T,E⟩:=bm (aO b k n);rw[E.o]at r x;cases B:(sk.toList == [36,102])
  ·have p:Xr _:=fc A.o (by rw[r.o,B];rfl);(go_upto_region 4 with fail);go_region
   all_goals
    have c:Xr _:=z.o.drew;go_wp2;go_roundg (n-(k+1))
    ·exact⟨k+1,by omega,rfl,by go_num,p,c⟩
    omega
  ·have G:=P.o B;obtain⟨V,rfl,Y,K,-⟩:=q.o.t.2 (l+1) _ (jf w (l+1) G);replace K:wr.cell? ⟨V,(l+1)*5,none⟩=some (string (tS w (l+1))):=K;obtain⟨y,S⟩:=bm (tS w (l+1));rw[S.o]at K r;have ag:(l:Int)+1<w.length:=(by omega);have al:IntKind.i64.wrap ((l:Int)+1)=(l:Int)+1:=(by rw[Vv];omega);have ai:((l:Int)+1).toNat=l+1:=(by omega);have af:(0:Int)<=(l:Int)+1:=(by omega);cases F:(y.toList==H.toList)
   ·have p:Xr _:=fc A.o (by rw[r.o,B,F];rfl);(go_upto_region 4 with fail);go_region
    all_goals
     have c:Xr _:=z.o.drew;go_wp2;go_roundg (n-(k+1))
     ·exact⟨k+1,by omega,rfl,by go_num,p,c⟩
     omega
   ·(go_upto_region 4 with fail);go_region
    all_goals
     have c:Xr _:=z.o.drew;have v:Xr _:=x.o wr.drew c.o
    cases T
    ·have p:Xr _:=fc A.o (by rw[r.o,B,F];rfl);go_wp2_with (go_at_call 93;refine Ug v.o ?_;rintro e w9 ⟨rfl,f⟩;rw[f];clear f);go_roundg (n-(k+1))
     ·exact⟨k+1,by omega,rfl,by go_num,p,c⟩
     omega
    ·have p:Xr (gG w b H n=k):=Kd C (by rw[r.o,B,F];rfl) A.o;go_wp2_with (go_at_call 93;refine Ug v.o ?_;rintro e w9 ⟨rfl,f⟩;rw[f];clear f);go_ret;exact⟨T0 p.o.symm,c.o⟩
 ·have p:Xr (gG w b H n=-1):=Nb (fun j hj=>A.o j (by omega));go_wp2;go_ret;exact⟨T0 p.o.symm,z.o⟩
def m8(T:List Tk)(S:List Sm)(n:Nat):Prop:=∀j,j<n->((aq S j).k.toList == [36,102])=true->(aq S j).h+1<T.length
def ir(T:List Tk)(S:List Sm)(key x:Xs)(n:Nat)(before:Xt):Int :=
 if(key.toList == [36,100])=true then(if iI T S x n=false then 18 else if aJ before x=true then 19 else 0)
 else if(before.length==0)=true then(if eO T S x n=false then 17 else 0)
 else if(key.toList == [36,102])=true then(if 1<before.length then 16 else if iI T S x n=false then 18 else if 0<=gG T S x n then 20 else 0)
 else if eO T S x n=true then 0 else if iI T S x n=false then 21 else if gG T S x n<0 then 22 else 0
theorem GV(x:Xs)(a:Xt)(u:Xu)(U:Nat)(T:List Tk)(A:Xu)(N:Nat)(S:List Sm)(z:Xu)(M:Nat)(w:World)(P:ge w L T A N S z M)(B:i8 T S n)(hf:m8 T S n)(Z:ig w u a)(ac:a.length<=1000000) :
  Calls prog 127 #[pointer (some ⟨L,0,none⟩),string H,string x,int i64 n,slice u a.length U] w fun e E=>e=returned (int i64 (ir T S H x n a))/\ae [] w E:=by
 have Y:Xr _:=uW L n x T A N S z M w P B.m B.s B.t B.c;have I:Xr (∀f,ae [] w f->Calls prog 174 #[pointer (some ⟨L,0,none⟩),string x,int i64 n] f fun e E=>e=returned (bool (iI T S x n))/\ae [] f E):=fun f k=>CD L n x T A N S z M f (P.Yh k) B.m B.s B.t B.v;have J:Xr (∀f,ae [] w f->Calls prog 175 #[pointer (some ⟨L,0,none⟩),string x,int i64 n] f fun e E=>e=returned (int i64 (gG T S x n))/\ae [] f E):=fun f k=>Ka L n x T A N S z M f (P.Yh k) B hf
 have K:Xr (∀f,ae [] w f->Calls prog 94 #[slice u a.length U,string x] f fun e E=>e=returned (bool (aJ a x))/\E=f):=fun f k=>kU a u U x f (fun i y hy=>by
  obtain⟨g,e,hg,c⟩:=Z i y hy;exact⟨g,e,Ul hg k.size,by rw[Uw (k.block g hg (by simp))];exact c⟩) (by omega)
 have l:Xr (ir T S H x n a=if(H.toList == [36,100])=true then(if iI T S x n=false then 18 else if aJ a x=true then 19 else 0)
  else if(a.length==0)=true then(if eO T S x n=false then 17 else 0)
  else if(H.toList == [36,102])=true then(if 1<a.length then 16 else if iI T S x n=false then 18 else if 0<=gG T S x n then 20 else 0)
  else if eO T S x n=true then 0 else if iI T S x n=false then 21 else if gG T S x n<0 then 22 else 0):=rfl
 generalize ir T S H x n a=R at *;generalize aJ a x=ag at *;generalize gG T S x n=F at *;generalize eO T S x n=c at *;generalize iI T S x n=v at *;generalize a.length=p at *;clear P Z;go_enter func127,ntmps127;go_upto_region 3 with (go_at_call 173;refine Ug Y.o ?_;rintro e w3 ⟨rfl,Q⟩)
 have I:Xr _:=I.o w3 Q;go_upto_region 4 with (go_at_call 174;refine Ug I.o ?_;rintro e w4 ⟨rfl,X⟩)
 have J:Xr _:=J.o w4 (Q.trans X);go_upto_region 5 with (go_at_call 175;refine Ug J.o ?_;rintro e w5 ⟨rfl,k5⟩)
 have j:Xr _:=(Q.trans X).trans k5;have K:Xr _:=K.o w5 j.o;go_upto_region 6 with (go_at_call 94;refine Ug K.o ?_;rintro e w9 ⟨rfl,G⟩;rw[G];clear G)
 clear Y I J K Q X k5;cases q:(H.toList == [36,100])
 ·by_cases r:p=0
  ·have W:((p:Int)==0)=true:=(by simpa using r);cases c
   ·have b:Xr (R=17):=(by show _=_;rw[l.o];simp[q,r]);go_wp2;go_ret;exact⟨T0 b.o.symm,j.o⟩
   ·have b:Xr (R=0):=(by show _=_;rw[l.o];simp[q,r]);go_wp2;go_ret;exact⟨T0 b.o.symm,j.o⟩
  ·have W:((p:Int)==0)=false:=(by simpa using r);cases C:(H.toList == [36,102])
   ·cases c
    ·cases v
     ·have b:Xr (R=21):=(by show _=_;rw[l.o];simp[q,r,C]);go_wp2;go_ret;exact⟨T0 b.o.symm,j.o⟩
     ·by_cases d:F<0
      ·have D:F<0:=d;have b:Xr (R=22):=cM (by rw[l.o];simp[q,r,C,d]);go_wp2;go_ret;exact⟨T0 b.o.symm,j.o⟩
      ·have D:¬F<0:=d;have b:Xr (R=0):=cM (by rw[l.o];simp[q,r,C,d]);go_wp2;go_ret;exact⟨T0 b.o.symm,j.o⟩
    ·have b:Xr (R=0):=(by show _=_;rw[l.o];simp[q,r,C]);go_wp2;go_ret;exact⟨T0 b.o.symm,j.o⟩
   ·by_cases O:1<p
    ·have V:(1:Int)<(p:Int):=(by omega);have b:Xr (R=16):=cM (by rw[l.o];simp[q,r,C,O]);go_wp2;go_ret;exact⟨T0 b.o.symm,j.o⟩
    ·have V:¬(1:Int)<(p:Int):=(by omega);cases v
     ·have b:Xr (R=18):=(by show _=_;rw[l.o];simp[q,r,C,O]);go_wp2;go_ret;exact⟨T0 b.o.symm,j.o⟩
     ·by_cases d:0<=F
      ·have D:0<=F:=d;have b:Xr (R=20):=cM (by rw[l.o];simp[q,r,C,O,d]);go_wp2;go_ret;exact⟨T0 b.o.symm,j.o⟩
      ·have D:¬0<=F:=d;have b:Xr (R=0):=cM (by rw[l.o];simp[q,r,C,O,d]);go_wp2;go_ret;exact⟨T0 b.o.symm,j.o⟩
 ·cases v
  ·have b:Xr (R=18):=(by show _=_;rw[l.o];simp[q]);go_wp2;go_ret;exact⟨T0 b.o.symm,j.o⟩
  ·cases ag
   ·have b:Xr (R=0):=(by show _=_;rw[l.o];simp[q]);go_wp2;go_ret;exact⟨T0 b.o.symm,j.o⟩
   ·have b:Xr (R=19):=(by show _=_;rw[l.o];simp[q]);go_wp2;go_ret;exact⟨T0 b.o.symm,j.o⟩
def GN(s:Sm):List Value:=[int i64 s.a,int i64 s.z,int i64 s.h,string s.k]
def Sz(L:List Sm):List Value:=L.flatMap GN
def ux(L:List Sm):ew:=⟨145,4,L.length,Sz L⟩
theorem Sn(L:List Sm)(j:Nat)(t:Sm)(h:L[j]?=some t)(c:Nat)(d:c<4):(Sz L)[j*4+c]?=(GN t)[c]?:=by
 induction L generalizing j with
 | nil=>cases h
 | cons a L b =>
  have e:Sz (a :: L)=GN a++Sz L:=rfl;cases j with
  | zero =>
   simp at h;subst h;rw[e,Uv (by simp[GN];omega)];simp
  | succ j =>
   rw[e,Ur (by simp[GN];omega),show(j+1)*4+c-(GN a).length=j*4+c by simp[GN];omega];exact b j (by simpa using h)
theorem Lr:(⟨(ux b).e,(ux b).size,(ux b).n+1,(ux b).xs++GN s⟩:ew)=ux (b++[s]):=by
 simp[ux,Sz]
theorem aB.srcS(o:aB m c (ux i)):CW m c.ao c.cap i:=by
 refine⟨?_,fun k t f=>?_⟩
 ·rcases o.Ys with ⟨e,d,_⟩ | ⟨g,j,r,s,l,-⟩
  ·have d:i.length=0:=d;omega
  ·exact l
 ·have v:=(Uk.1 f).1;obtain⟨g,b,p,-⟩:=rJ o (show 0<i.length by omega);have e:∀a,a<4->∀u,(GN t)[a]?=some u->m.cell? ⟨g,k*4+a,none⟩=some u:=fun a n u q=>o.cell b (k*4+a) u (by show(Sz i)[k*4+a]?=some u;rw[Sn i k t f a n];exact q);exact⟨g,b,p,e 0 (by omega) _ rfl,e 1 (by omega) _ rfl,e 2 (by omega) _ rfl,e 3 (by omega) _ rfl⟩
theorem RM:(prog.info? 145).map (fun i=>(i.zero,i.size,i.bytes))=some (some (agg #[int i64 0,int i64 0,int i64 0,string ⟨#[]⟩]),4,40):=by kernel_rfl
theorem vO{g:Array Oper}{b:List Oper}{o:Oper}{i:Act}{Q:Exit->Act->World->Prop}(A:o.guard=none)(s x:Operand)(m:o.op=Op.call { callee:=Callee.builtin Builtin.append,args:=#[s,x],argTypes:=#[139,139] })(h:Hd)(L:List Sm)(t:Sm)(E:i.eval s=slice h.ao L.length h.cap)(e:aB a h (ux L))(I:L.length<=1000000)(F:i.eval x=slice (some ⟨a.heap.size,0,none⟩) 1 1)(z:∀k r,aB r k (ux (L++[t]))->bJ a r h k->wpList prog g Q b (i.put o.dst (slice k.ao (L.length+1) k.cap)) r) :
  wpList prog g Q (o :: b) i (a.alloc (.cells (GN t).toArray 145)):=by
 obtain⟨G,B,n,p,q⟩:=UC RM;have w:ae [] a (a.alloc (.cells (GN t).toArray 145)):=bM.alloc _;have D:(a.alloc (.cells (GN t).toArray 145)).heap[a.heap.size]?=some (.cells (GN t).toArray 145):=Ui _ _;refine aN _ A s x 139 m G (agg #[int i64 0,int i64 0,int i64 0,string ⟨#[]⟩]) 40 h (ux L) underlying139 B n p q rfl (show 0<4 by omega) E (e.Yh w) ⟨a.heap.size,0,none⟩ 1 1 (GN t) F rfl ?_ ?_ UA (by simp only[ux];unfold maxLen;omega) (by simp only[ux];omega) ?_
 ·intro j u C;rw[bS,ah D];simpa using C
 ·intro u v;simp only[GN,List.mem_cons,List.not_mem_nil,or_false]at v;rcases v with rfl | rfl | rfl | rfl <;> rfl
 ·intro y c H f d l;rw[Lr]at f;exact z ⟨some ⟨y,0,none⟩,c⟩ H f ((bJ.Yh w).trans (bJ.made d l))
def fI(T:List Tk):Nat->List Sm×Nat
 | 0=>([],0)
 | i+1=>if cd (tS T i)=true then((fI T i).1++[⟨(fI T i).2,i+1,(eu T (fI T i).2).2,(eu T (fI T i).2).1⟩],i+1) else fI T i
def aa(T:List Tk):List Sm:=(fI T T.length).1
theorem NJ(i:Nat):(fI w i).2<=i:=by
 induction i with
 | zero=>exact Ue _
 | succ i a =>
  rw[fI];split
  ·exact Ue _
  ·omega
theorem rI(i:Nat):(fI w i).1.length<=i:=by
 induction i with
 | zero=>exact Ue _
 | succ i a =>
  rw[fI];split
  ·simp;omega
  ·omega
structure SG(w wr:World)(T:List Tk)(aoT:Xu)(cT:Nat)(S:List Sm)(h:Hd):Prop where
 d:wr.heap[w.heap.size]?=some (.cells #[slice aoT T.length cT,slice h.ao S.length h.cap] 141)
 YF:aB wr h (ux S)
 far:∀k,h.Yv=some k->w.heap.size<k
 Yu:ae [] w wr
theorem SG.add{wr n:World}{p:Xu}{r:List Sm}{f:Hd}(a:SG m wr o p N i c)(s:aB n f (ux r))(g:bJ wr n c f):SG m (n.setCell ⟨m.heap.size,1,none⟩ (slice f.ao r.length f.cap)) o p N r f:=by
 have w:=aj a.d;have t:=g.Yu.get a.d (fun j=>by have:=a.far _ (aR j);omega);have b:∀k,f.Yv=some k->m.heap.size<k:=fun k l=>by
  rcases g.Yv with e | ⟨q,e,j⟩
  ·exact a.far k (by rw[<-e];exact l)
  ·rw[e]at l;cases l;omega
 have v:ae [m.heap.size] n (n.setCell ⟨m.heap.size,1,none⟩ (slice f.ao r.length f.cap)):=(ae.refl _ _).sl1 _;have u:ae [] m n:=⟨g.Yu.os.trans a.Yu.os,g.Yu.tape.trans a.Yu.tape,g.Yu.output.trans a.Yu.output,Un a.Yu.size g.Yu.size,fun k l _=>by rw[g.Yu.block k (Ul l a.Yu.size) (fun j=>by have:=a.far _ (aR j);omega),a.Yu.block k l (by simp)]⟩;exact⟨by rw[ab t];rfl,s.Ym (fun q j=>v.block q (s.lt j) (by simp;have:=b q j;omega)),b,u.sr1 (by simp) _⟩
theorem NI(L:lX a M d w)(hl:w.length<=100000)(hs:∀i,(tS w i).size<=1073741824) :
  Calls prog 56 #[slice M w.length d] a fun e G=>e=returned (pointer (some ⟨a.heap.size,0,none⟩))/\∃r T,ge G a.heap.size w M d (aa w) r T/\ae [] a G/\∀g,r=some ⟨g,0,none⟩->a.heap.size<=g/\g<G.heap.size:=by
 have R:Xr (SG a (a.alloc (.cells #[slice M w.length d,slice none 0 0] 141)) w M d [] ⟨none,0⟩):=⟨Ui _ _,Uj _ _ _ _,(by intro k N;cases N),bM.alloc _⟩;have J:Xr _:=L;clear L;go_enter func56,ntmps56;go_wp2
 go_loopg [4,5] w.length (fun g f i wr=>∃(k j:Nat) (S:List Sm) (h:Hd),k<=w.length/\g=w.length-k/\f=int i64 j/\i=int i64 k/\(j<=k/\S.length<=k)/\Xr (fI w k=(S,j))/\Xr (SG a wr w M d S h))
 ·exact⟨0,0,[],⟨none,0⟩,by omega,rfl,rfl,rfl,⟨by omega,by simp⟩,rfl,R⟩
 obtain⟨k,j,S,h,N,hg,rfl,rfl,⟨hf,X⟩,I,c⟩:=hrel;by_cases C:k<w.length
 ·have q:Xr _:=lX.Yh J.o c.o.Yu;obtain⟨z,rfl,Y,F,-⟩:=q.o.2 k _ (jf w k C);replace F:wr.cell? ⟨z,k*5,none⟩=some (string (tS w k)):=F;have Z:(k:Int)<w.length:=by omega
  have n:Xr (fI w (k+1)=if cd (tS w k)=true then(S++[⟨j,k+1,(eu w j).2,(eu w j).1⟩],k+1) else(S,j)):=cM (by rw[fI,I.o]);obtain⟨x,Q⟩:=bm (tS w k);rw[Q.o]at F n;have u:Xr (ge wr a.heap.size w (some ⟨z,0,none⟩) d S h.ao h.cap):=⟨c.o.d,q.o,c.o.YF.srcS⟩;have p:Xr _:=(IW a.heap.size j w (some ⟨z,0,none⟩) d S h.ao h.cap wr u.o (by omega) hl hs);obtain⟨kw,y⟩:=bm (eu w j);rw[y.o]at p n;obtain⟨E,D⟩:=kw;have c1:wr.cell? ⟨a.heap.size,1,none⟩=some (slice h.ao S.length h.cap):=by rw[ah c.o.d];rfl
  have A:=c.o.YF;obtain⟨V,l⟩:=bm (cd x);rw[l.o]at n;cases V
  ·have v:Xr (fI w (k+1)=(S,j)):=(by show _=_;rw[n.o,Ud (by simp)]);go_wp2_with (go_at_call 85;refine(ve x _).mono ?_;rintro e O ⟨rfl,b⟩;rw[b,l.o];clear b);go_roundg (w.length-(k+1))
   ·exact⟨k+1,j,S,h,by omega,rfl,rfl,by go_num,⟨by omega,by omega⟩,v,c⟩
   omega
  ·have v:Xr (fI w (k+1)=(S++[⟨j,k+1,D,E⟩],k+1)):=(by show _=_;rw[n.o,Uf rfl]);have B:((k+1:Nat):Int)=(k:Int)+1:=(by omega);(go_upto_region 9 with (first | (go_at_call 85;refine(ve x _).mono ?_;rintro e O ⟨rfl,b⟩;rw[b,l.o];clear b) | (go_at_call 86;refine Ug p.o ?_;rintro e O ⟨rfl,b⟩;rw[b];clear b)));go_wp2_with (at_builtin;rw[<-B];refine vO _ rfl (.tmp 35) (.tmp 42) rfl h S ⟨j,k+1,D,E⟩ rfl A (by omega) rfl ?_;intro W w5 s m;have H:Xr _:=c.o.add s m;have t:=m.Yu.get c.o.d (fun hq=>by have:=c.o.far _ (aR hq);omega);have f5:=am t 1;have e5:w5.cell? ⟨a.heap.size,1,none⟩=some (slice h.ao S.length h.cap):=(by rw[ah t];rfl);have z5:=aj t;clear s m t);rw[Uh]at H;go_roundg (w.length-(k+1))
   ·exact⟨k+1,k+1,S++[⟨j,k+1,D,E⟩],W,by omega,rfl,by go_num,by go_num,⟨by omega,by simp;omega⟩,v,H⟩
   omega
 ·have e:k=w.length:=by omega
  subst e;have P:Xr (aa w=S):=cM (by unfold aa;rw[I.o]);go_wp2;go_ret;exact⟨rfl,h.ao,h.cap,by rw[P.o];exact⟨c.o.d,lX.Yh J.o c.o.Yu,c.o.YF.srcS⟩,c.o.Yu,fun g U=>have K:h.Yv=some g:=(by unfold Hd.Yv;rw[U];rfl);⟨Vb (c.o.far g K),c.o.YF.lt K⟩⟩
def oK(i:Nat):List Sm->Nat
 | []=>0
 | s :: r=>if s.z<=i then oK i r+1 else 0
def jJ(S:List Sm)(i:Nat):Nat:=oK i S
def lk(S:List Sm)(n:Nat):Nat:=if 0<n then(aq S (n-1)).z else 0
def eJ(T:List Tk)(h i:Nat):Xt:=((T.drop h).take (i-h)).map (·.s)
theorem C2(f:I<=d)(b:d<w.length):eJ w I (d+1)=eJ w I d++[tS w d]:=by
 unfold eJ;have e:d+1-I=(d-I)+1:=by omega
 have c:d-I<(w.drop I).length:=by rw[UX];omega
 rw[e,UY c,UJ];have a:(w.drop I)[d-I]=w[d]:=by rw[WJ];congr 1;omega
 rw[a];unfold tS;rw[Uc,Ub b];rfl
theorem Rt(S:List Sm):oK d S<=S.length:=by
 induction S with
 | nil=>exact Ue _
 | cons s r a=>rw[oK];split <;> simp;omega
theorem De(S:List Sm)(j:Nat)(h:j<oK d S):∃s,S[j]?=some s/\s.z<=d:=by
 induction S generalizing j with
 | nil=>simp[oK]at h
 | cons s r a =>
  rw[oK]at h;split at h
  ·cases j with
   | zero=>exact⟨s,rfl,by assumption⟩
   | succ j=>exact a j (by omega)
  ·omega
theorem MN:lk b (jJ b d)<=d:=by
 unfold lk;split
 ·next h =>
  obtain⟨s,a,c⟩:=De d b (jJ b d-1) (by unfold jJ at h ⊢;omega);unfold aq;rw[Uc,a];exact c
 ·omega
def mO(T:List Tk)(S:List Sm)(key x:Xs)(n:Nat)(before:Xt):Int :=
 if(x.toList == [36,46])=true then jb key before
 else if((x.toList == [36,61])&&((key.toList == [36,112]) && !(aJ before ⟨#[36,61]⟩)))=true then(if before.length=0 then 15 else 0)
 else if io x ⟨#[36]⟩=true then 8
 else if aJ before ⟨#[36,61]⟩=true then 0
 else if((key.toList == [36,99])||(key.toList == [36,118]))=true then kl T S x n (key.toList == [36,99]) before
 else ir T S key x n before
def aY(T:List Tk)(S:List Sm)(i:Nat):Int :=
 if i=lk S (jJ S i) then dE T S (tS T i) (jJ S i)
 else if i<(eu T (lk S (jJ S i))).2 then(if(aA (tS T i)||aG (tS T i))=true then 0 else 14)
 else mO T S (eu T (lk S (jJ S i))).1 (tS T i) (jJ S i) (eJ T (eu T (lk S (jJ S i))).2 i)
theorem C7(W:ge a n w g I b M d)(hi:y<w.length)(S:i8 w b (jJ b y))(hf:m8 w b (jJ b y))(hs:∀y,(tS w y).size<=1073741824) :
  Calls prog 87 #[pointer (some ⟨n,0,none⟩),int i64 y] a fun e w'=>e=returned (int i64 (aY w b y))/\ae [] a w':=by
 have HD:Xr _:=W;have hT:=S.t;have b4:=S.s;obtain⟨c0,c1,hb⟩:=W.cells;obtain⟨V,rfl,ca,t0,-⟩:=W.t.2 y _ (jf w y hi);replace t0:a.cell? ⟨V,y*5,none⟩=some (string (tS w y)):=t0;have cc:(y:Int)<w.length:=by omega
 have D:Xr _:=FJ n (jJ b y) (tS w y) w (some ⟨V,0,none⟩) I b M d a W S (hs y);have af:=MN b y;have p:Xr _:=IW n (lk b (jJ b y)) w (some ⟨V,0,none⟩) I b M d a W (by omega) hT hs
 have f:Xr (aY w b y=if y=lk b (jJ b y) then dE w b (tS w y) (jJ b y)
  else if y<(eu w (lk b (jJ b y))).2 then(if(aA (tS w y)||aG (tS w y))=true then 0 else 14)
  else mO w b (eu w (lk b (jJ b y))).1 (tS w y) (jJ b y) (eJ w (eu w (lk b (jJ b y))).2 y)):=rfl
 have br:=hs y;have HB:Xr (lk b (jJ b y)=if 0<jJ b y then(aq b (jJ b y-1)).z else 0):=rfl;obtain⟨x,Hx⟩:=bm (tS w y);rw[Hx.o]at t0 D f br;obtain⟨X,Hn⟩:=bm (jJ b y);have a0:Xr (X=oK y b):=Hn.o.symm;rw[Hn.o]at D p f HB af S hf;obtain⟨U,a6⟩:=bm (lk b X);rw[a6.o]at p f HB af;obtain⟨kw,a7⟩:=bm (eu w U);rw[a7.o]at p f;obtain⟨l,F⟩:=kw;simp only at p f;have ch:X<=b.length:=S.m;clear W;go_enter func87,ntmps87;go_wp2
 go_loopg [5] b.length (fun bf o wr=>∃k:Nat,k<=b.length/\bf=b.length-k/\o=int i64 k/\Xr (k+oK y (b.drop k)=X)/\wr=a)
 ·exact⟨0,by omega,rfl,rfl,by show _=_;rw[VK,V3];exact a0.o.symm,rfl⟩
 obtain⟨k,hk,hg,rfl,HC,rfl⟩:=hrel;obtain⟨u,Z,a4,ac⟩:∃u:Bool,Xr (∀h:k<b.length,b[k].z<=y->u=true)/\Xr (u=true->k<b.length/\k+1+oK y (b.drop (k+1))=X)/\Xr ((∀h:k<b.length,¬b[k].z<=y)->u=false):=by
  by_cases i:k<b.length
  ·have v:=HC.o;rw[UB i,oK]at v;refine⟨decide (b[k].z<=y),fun h Q=>by simpa using Q,fun h=>⟨i,?_⟩,fun h=>by simpa using h i⟩;rw[Uf (by simpa using h)]at v;omega
  ·exact⟨false,(fun h=>absurd h i),(fun h=>by cases h),(fun _=>rfl)⟩
 have a5:Xr (u=false->k=X):=fun h=>by
  have v:=HC.o;by_cases i:k<b.length
  ·rw[UB i,oK]at v;by_cases Q:b[k].z<=y
   ·have:=Z.o i Q;rw[h]at this;cases this
   ·rw[Ud Q]at v;omega
  ·rw[Ww (by omega),oK]at v;omega
 go_upto_region 2 with fail
 go_cut [34] from 16 to 34 (fun bv wd=>bv=bool u/\wd=wr)
 case first =>
  by_cases i:k<b.length
  ·obtain⟨gs,rfl,bk,-,q1,-⟩:=HD.o.s.2 k b[k] (Ub i);have ar:(k:Int)<b.length:=(by omega);by_cases Q:b[k].z<=y
   ·have bs:(b[k].z:Int)<=(y:Int):=(by omega);have HV:Xr _:=Z.o i Q;go_wp2_with fail;go_meet
    case rel=>exact⟨by rw[HV.o],rfl⟩
   ·have bs:¬(b[k].z:Int)<=(y:Int):=(by omega);have HV:Xr _:=(ac.o (fun _=>Q));go_wp2_with fail;go_meet
    case rel=>exact⟨by rw[HV.o],rfl⟩
  ·have ar:¬(k:Int)<b.length:=(by omega);have HV:Xr _:=(ac.o (fun h=>absurd h i));go_wp2_with fail;go_meet
   case rel=>exact⟨by rw[HV.o],rfl⟩
 case rest =>
  obtain⟨rfl,C⟩:=hcut;subst C;cases u
  ·have bl:=a5.o rfl;subst bl;go_upto_if 38 with fail
   go_cut [6] from 37 to 47 (fun s6 wd=>s6=int i64 U/\wd=wc)
   case first =>
    by_cases an:0<k
    ·have ap:k-1<b.length:=(by omega);obtain⟨gs,rfl,bk,-,q1,-⟩:=HD.o.s.2 (k-1) b[k-1] (Ub ap);have K:Xr (b[k-1].z=U):=cM (by rw[HB.o,Uf an,bX b (k-1) ap]);rw[K.o]at q1;have ck:IntKind.i64.wrap ((k:Int)-1)=(k:Int)-1:=(by rw[Vv];omega);have cj:((k:Int)-1).toNat=k-1:=(by omega);have b2:(k:Int)-1<b.length:=(by omega);have b3:(1:Int)<=(k:Int):=(by omega);go_wp2_with fail;go_meet
     case rel=>exact⟨rfl,rfl⟩
    ·have K:Xr (U=0):=(by show _=_;rw[HB.o,Ud an]);go_wp2_with fail;go_meet
     case rel=>exact⟨by rw[K.o];rfl,rfl⟩
   case rest =>
    obtain⟨rfl,C⟩:=hcut;subst C;by_cases P:y=U
    ·have j:Xr (aY w b y=dE w b x k):=(by show _=_;rw[f.o,Uf P]);subst P;clear p;go_wp2_with (go_at_call 122;refine Ug D.o ?_;rintro e G ⟨rfl,R⟩);go_ret;exact⟨T0 j.o.symm,R⟩
    ·rw[Ud P]at f;have bw:((y:Int)==(U:Int))=false:=(by simp;omega);(go_upto_region 11 with (go_at_call 86;refine Ug p.o ?_;rintro e G ⟨rfl,c⟩;rw[c];clear c));by_cases ai:y<F
     ·rw[Uf ai]at f;have al:(y:Int)<(F:Int):=(by omega);(go_upto_region 14 with (first | (go_at_call 123;refine(gW x _).mono ?_;rintro e G ⟨rfl,c⟩;rw[c];clear c) | (go_at_call 124;refine(mz x _).mono ?_;rintro e G ⟨rfl,c⟩;rw[c];clear c)));obtain⟨ya,bc⟩:=bm (aA x);obtain⟨yu,bd⟩:=bm (aG x);rw[bc.o,bd.o]at f ⊢;cases ya
      ·cases yu
       ·have j:Xr (aY w b y=14):=(by show _=_;rw[f.o];rfl);go_wp2;go_ret;exact⟨T0 j.o.symm,ae.refl _ _⟩
       ·have j:Xr (aY w b y=0):=(by show _=_;rw[f.o];rfl);go_wp2;go_ret;exact⟨T0 j.o.symm,ae.refl _ _⟩
      ·have j:Xr (aY w b y=0):=(by show _=_;rw[f.o];rfl);go_wp2;go_ret;exact⟨T0 j.o.symm,ae.refl _ _⟩
     ·rw[Ud ai]at f;have al:¬(y:Int)<(F:Int):=(by omega);have HX:Xr _:=zX.nil wc;clear D p c1;go_wp2
      go_loopg [12,13] (y-F) (fun bf o q wr=>∃(m:Nat) (r:Hd) (O:Xt),(F<=m/\m<=y)/\bf=y-m/\o=slice r.ao O.length r.cap/\q=int i64 m/\O.length<=m/\Xr (O=eJ w F m)/\Xr (zX wc wr r O))
      ·exact⟨F,⟨none,0⟩,[],⟨by omega,by omega⟩,rfl,rfl,rfl,by simp,by show _=_;unfold eJ;rw[U3];rfl,HX⟩
      obtain⟨m,r,O,⟨bo,ce⟩,b6,rfl,rfl,b1,HO,T⟩:=hrel;have A:Xr _:=ge.Yh HD.o T.o.Yu;obtain⟨d0,-,b5⟩:=A.o.cells;by_cases cf:m<y
      ·have ax:m<w.length:=(by omega);obtain⟨b0,e5,cb,q0,-⟩:=A.o.t.2 m _ (jf w m ax);cases e5
       replace q0:wr.cell? ⟨V,m*5,none⟩=some (string (tS w m)):=q0;have bx:(m:Int)<(y:Int):=(by omega);have bz:(m:Int)<w.length:=(by omega);have a2:Xr (O++[tS w m]=eJ w F (m+1)):=cM (by rw[C2 w F m bo ax,HO.o]);generalize tS w m=bT at *;have bj:=T.o.YF;go_wp2_with (at_builtin;refine mZ _ rfl (.tmp 86) (.tmp 95) rfl r O bT rfl bj (by omega) rfl ?_;intro h5 w5 az ag;have a1:Xr _:=T.o.Yr ag az;clear az ag);go_roundg (y-(m+1))
       ·exact⟨m+1,h5,O++[bT],⟨by omega,by omega⟩,rfl,by simp,by go_num,by simp;omega,a2,a1⟩
       omega
      ·have be:m=y:=(by omega);subst be;rw[<-HO.o]at f;have B:=T.o.YF.srcX;have H:Xr _:=T.o.Yu;have J:Xr _:=(kU O r.ao r.cap ⟨#[36,61]⟩ wr B (by omega));have aT:Xr _:=(Dd l O r.ao r.cap wr B (by omega));have Y:Xr (∀E,Calls prog 126 #[pointer (some ⟨n,0,none⟩),string x,int i64 k,bool E,slice r.ao O.length r.cap] wr fun e w'=>e=returned (int i64 (kl w b x k E O))/\ae [] wr w'):=fun E=>KG n k x E O r.ao r.cap w (some ⟨V,0,none⟩) I b M d wr A.o S B (by omega);have a3:Xr _:=(GV n k l x O r.ao r.cap w (some ⟨V,0,none⟩) I b M d wr A.o S hf B (by omega));unfold mO at f;obtain⟨pf,ba⟩:=bm (aJ O ⟨#[36,61]⟩);obtain⟨dl,ad⟩:=bm (io x ⟨#[36]⟩);rw[ba.o]at J f;rw[ad.o]at f;(go_upto_region 24 with (first | (go_at_call 94;refine Ug J.o ?_;rintro e G ⟨rfl,c⟩;rw[c];clear c) | (go_at_call 121;refine(go x _ _ (by omega) (by show 1<=_;omega)).mono ?_;rintro e G ⟨rfl,c⟩;rw[c];clear c)));rw[ad.o];clear J B HX d0 T A;generalize O.length=ol at *;cases h1:(x.toList == [36,46])
       ·rw[Ud (by rw[h1];simp)]at f;obtain⟨tb,N⟩:=bm (((x.toList == [36,61])&&((l.toList == [36,112]) && !pf)));rw[N.o]at f;go_upto_region 26 with fail
        go_cut [107] from 108 to 117 (fun aS wd=>aS=bool tb/\wd=wr)
        case first =>
         cases h2:(x.toList == [36,61])
         ·go_wp2_with fail;go_meet
          case rel=>exact⟨by rw[<-N.o,h2];rfl,rfl⟩
         ·cases h3:(l.toList == [36,112])
          all_goals
           go_wp2_with fail;go_meet
           case rel=>exact⟨by rw[<-N.o,h2,h3];rfl,rfl⟩
        case rest =>
         obtain⟨rfl,C⟩:=hcut;subst C;cases tb
         ·cases dl
          ·cases pf
           ·cases h4:(l.toList == [36,99])
            ·cases h5:(l.toList == [36,118])
             ·have j:Xr (aY w b m=ir w b l x k O):=(by show _=_;rw[f.o,h4,h5];rfl);go_wp2_with (go_at_call 127;refine Ug a3.o ?_;rintro e G ⟨rfl,R⟩);go_ret;exact⟨T0 j.o.symm,H.o.trans R⟩
             ·have j:Xr (aY w b m=kl w b x k false O):=(by show _=_;rw[f.o,h4,h5];rfl);have L:Xr _:=Y.o false;go_wp2_with (go_at_call 126;refine Ug L.o ?_;rintro e G ⟨rfl,R⟩);go_ret;exact⟨T0 j.o.symm,H.o.trans R⟩
            ·have j:Xr (aY w b m=kl w b x k true O):=(by show _=_;rw[f.o,h4];rfl);have L:Xr _:=Y.o true;go_wp2_with (go_at_call 126;refine Ug L.o ?_;rintro e G ⟨rfl,R⟩);go_ret;exact⟨T0 j.o.symm,H.o.trans R⟩
           ·have j:Xr (aY w b m=0):=(by show _=_;rw[f.o];rfl);go_wp2;go_ret;exact⟨T0 j.o.symm,H.o⟩
          ·have j:Xr (aY w b m=8):=(by show _=_;rw[f.o];rfl);go_wp2;go_ret;exact⟨T0 j.o.symm,H.o⟩
         ·rw[Uf rfl]at f;by_cases ho:ol=0
          ·have j:Xr (aY w b m=15):=(by show _=_;rw[f.o,Uf ho]);have bp:((ol:Int)==0)=true:=(by simpa using ho);go_wp2;go_ret;exact⟨T0 j.o.symm,H.o⟩
          ·have j:Xr (aY w b m=0):=(by show _=_;rw[f.o,Ud ho]);have bp:((ol:Int)==0)=false:=(by simpa using ho);go_wp2;go_ret;exact⟨T0 j.o.symm,H.o⟩
       ·have j:Xr (aY w b m=jb l O):=(by show _=_;rw[f.o,Uf h1]);go_wp2_with (go_at_call 125;refine Ug aT.o ?_;rintro e G ⟨rfl,c⟩;rw[c];clear c);go_ret;exact⟨T0 j.o.symm,H.o⟩
  ·obtain⟨i,hm⟩:=a4.o rfl;have HM:Xr _:=hm;clear hm;go_wp2;go_roundg (b.length-(k+1))
   ·exact⟨k+1,by omega,rfl,by go_num,HM,rfl⟩
   omega
def Sy(T:List Tk)(S:List Sm)(i:Nat):Bool:=!(aY T S i==0)
def Af(T:List Tk)(S:List Sm):Tk:=match (List.range T.length).find? (Sy T S) with
 | some i=>⟨⟨#[]⟩,aY T S i,(T.getD i gO).YB,(T.getD i gO).YC,(T.getD i gO).YD⟩
 | none=>gO
theorem M5{T:List Tk}{S:List Sm}{k:Nat}(c:k<T.length)(h:(aY T S k==0)=false)(a:∀j,j<k->aY T S j=0):Af T S=⟨⟨#[]⟩,aY T S k,(T.getD k gO).YB,(T.getD k gO).YC,(T.getD k gO).YD⟩:=by
 have e:(List.range T.length).find? (Sy T S)=some k:=by
  rw[Vp];exact⟨by unfold Sy;rw[h];rfl,Up.2 c,fun j b=>by unfold Sy;rw[a j b];rfl⟩
 unfold Af;rw[e]
theorem Rb(a:∀j,j<o.length->aY o i j=0):Af o i=gO:=by
 have e:(List.range o.length).find? (Sy o i)=none:=by
  rw[U8];intro j b;unfold Sy;rw[a j (Up.1 b)];simp
 unfold Af;rw[e]
def SB(T:List Tk)(S:List Sm):Prop:=∀i,i<T.length->(∀j,j<i->aY T S j=0)->i8 T S (jJ S i)/\m8 T S (jJ S i)
theorem xR(P:ge a y w g I b M d)(hT:w.length<=100000)(hO:SB w b)(hs:∀i,(tS w i).size<=1073741824) :
  Calls prog 57 #[pointer (some ⟨y,0,none⟩)] a fun e w'=>e=returned (agg #[int i64 (Af w b).YE,string (Af w b).YB,int i64 (Af w b).YC,int i64 (Af w b).YD])/\ae [] a w':=by
 have N:Xr _:=P;obtain⟨W,E⟩:=bm (a.alloc (.cells #[int i64 0,string ⟨#[]⟩,int i64 0,int i64 0] 87));have Z:=fE E.o;have D:Xr _:=fg E.o;clear P;go_enter func57,ntmps57;go_upto_region 1 with fail
 rw[E.o];go_wp2
 go_loopg [3] w.length (fun ac i wr=>∃k:Nat,k<=w.length/\ac=w.length-k/\i=int i64 k/\Xr (∀j,j<k->aY w b j=0)/\Xr (ae [] W wr))
 ·exact⟨0,by omega,rfl,rfl,(fun j S=>by omega),ae.refl _ _⟩
 obtain⟨k,hk,hg,rfl,x,B⟩:=hrel;have m:Xr _:=D.o.trans B.o;have q:Xr _:=ge.Yh N.o m.o;obtain⟨O,-,Q⟩:=q.o.cells;have f:=B.o.get Z (by simp);by_cases c:k<w.length
 ·obtain⟨U,R⟩:=hO k c x.o;have F:(k:Int)<w.length:=by omega
  have l:Xr _:=C7 y k w g I b M d wr q.o c U R hs;obtain⟨r,z⟩:=bm (aY w b k);rw[z.o]at l;clear U R;cases T:(r==0)
  ·have u:Xr (Af w b=⟨⟨#[]⟩,r,(w.getD k gO).YB,(w.getD k gO).YC,(w.getD k gO).YD⟩):=(by show _=_;rw[M5 c (by rw[z.o];exact T) x.o,z.o]);(go_upto_region 5 with (go_at_call 87;refine Ug l.o ?_;rintro e w2 ⟨rfl,A⟩));have s:Xr _:=m.o.trans A;have p:Xr _:=ge.Yh N.o s.o;have n:=A.get f (by simp);clear O Q;obtain⟨O,-,Q⟩:=p.o.cells;obtain⟨gT,rfl,ad,-,-,t2,t3,t4⟩:=p.o.t.2 k _ (jf w k c);generalize w.getD k gO=t at *;obtain⟨ts,tr,X,Y,V⟩:=t;simp only at t2 t3 t4 u;have f0:=am n 0;have f1:=am n 1;have f2:=am n 2;have f3:=am n 3;obtain⟨g0,g1,g2,g3⟩:=C9 n;go_wp2;obtain⟨H,J,K,L⟩:=t9 n (int i64 r) (string X) (int i64 Y) (int i64 V);exact Um (v:=agg #[int i64 r,string X,int i64 Y,int i64 V]) (by simp[results,results57,go_sem,H,J,K,L]) rfl ⟨by rw[u.o],(((s.o.sr1 (by simp) _).sr1 (by simp) _).sr1 (by simp) _).sr1 (by simp) _⟩
  ·have G:r=0:=(by simpa using T);subst G;have HM:Xr (∀j,j<k+1->aY w b j=0):=fun j S=>by
    by_cases e:j=k
    ·rw[e];exact z.o
    ·exact x.o j (by omega)
   go_wp2_with (go_at_call 87;refine Ug l.o ?_;rintro e w2 ⟨rfl,A⟩;have C:Xr _:=B.o.trans A);go_roundg (w.length-(k+1))
   ·exact⟨k+1,by omega,rfl,by go_num,HM,C⟩
   omega
 ·have u:Xr (Af w b=gO):=Rb (fun j S=>x.o j (by omega));have f0:=am f 0;have f1:=am f 1;have f2:=am f 2;have f3:=am f 3;obtain⟨g0,g1,g2,g3⟩:=C9 f;have F:¬(k:Int)<w.length:=by omega
  go_wp2;obtain⟨H,J,K,L⟩:=t9 f (int i64 0) (string ⟨#[]⟩) (int i64 0) (int i64 0);exact Um (v:=agg #[int i64 0,string ⟨#[]⟩,int i64 0,int i64 0]) (by simp[results,results57,go_sem,H,J,K,L]) rfl ⟨by rw[u.o];rfl,(((m.o.sr1 (by simp) _).sr1 (by simp) _).sr1 (by simp) _).sr1 (by simp) _⟩
theorem AN(h:d<b.length):aq (b++[s]) d=aq b d:=by
 unfold aq;rw[Uc,Uc,Uv h]
theorem vF:aq (b++[s]) b.length=s:=by
 unfold aq;rw[Uc,Ur (Ue _),U3];rfl
theorem C4(h:d<=b.length):lk (b++[s]) d=lk b d:=by
 unfold lk;split
 ·rw[AN b s (d-1) (by omega)]
 ·rfl
structure TG(T:List Tk)(S:List Sm)(j:Nat)(s:Sm):Prop where
 a:s.a=lk S j
 lt:s.a<s.z
 e:cd (tS T (s.z-1))=true
 n:∀q,s.a<=q->q<s.z-1->cd (tS T q)=false
 k:(s.k,s.h)=eu T s.a
structure CU(T:List Tk)(i:Nat)(S:List Sm)(f:Nat):Prop where
 s:∀j,j<S.length->TG T S j (aq S j)/\(aq S j).z<=i
 fr:f=lk S S.length
 n:∀q,f<=q->q<i->cd (tS T q)=false
 le:f<=i
theorem KL(i:Nat):CU w i (fI w i).1 (fI w i).2:=by
 induction i with
 | zero=>exact⟨fun j d=>by simp[fI]at d,rfl,fun q _ h=>by omega,Ue _⟩
 | succ i b =>
  rw[fI];split
  ·next l =>
   generalize (fI w i).1=S at *;generalize (fI w i).2=f at *;refine⟨fun j d=>?_,?_,fun q c g=>by simp only at c;omega,Ue _⟩
   ·simp only[List.length_append,List.length_cons,List.length_nil]at d;by_cases e:j<S.length
    ·obtain⟨p,m⟩:=b.s j e;rw[AN S _ j e];exact⟨⟨by rw[C4 S _ j (by omega)];exact p.a,p.lt,p.e,p.n,p.k⟩,by omega⟩
    ·have e:j=S.length:=(by omega);subst e;rw[vF];have:=b.le;exact⟨⟨by rw[C4 S _ _ (Ue _)];exact b.fr,by show f<i+1;omega,l,fun q c g=>b.n q c (by simp only at g;omega),rfl⟩,Ue _⟩
   ·simp only[List.length_append,List.length_cons,List.length_nil];unfold lk;rw[Uf (by omega),Vj,vF]
  ·next l =>
   refine⟨fun j d=>?_,b.fr,fun q c g=>?_,by have:=b.le;omega⟩
   ·obtain⟨p,m⟩:=b.s j d;exact⟨p,by omega⟩
   ·by_cases e:q=i
    ·rw[e];simpa using l
    ·exact b.n q c (by omega)
theorem dN:CU w w.length (aa w) (fI w w.length).2:=KL w w.length
theorem MW(S:List Sm)(j:Nat)(a:∀q,q<j->∃s,S[q]?=some s/\s.z<=d)(b:∀s,S[j]?=some s->¬s.z<=d):oK d S=j:=by
 induction S generalizing j with
 | nil =>
  cases j with
  | zero=>rfl
  | succ j=>obtain⟨s,h,-⟩:=a 0 (by omega);cases h
 | cons s r g =>
  cases j with
  | zero=>rw[oK,Ud (b s rfl)]
  | succ j =>
   obtain⟨k,e,f⟩:=a 0 (by omega);simp at e;subst e;rw[oK,Uf f,g j (fun q i=>by simpa using a (q+1) (by omega)) (fun t c=>b t (by simpa using c))]
section
variable {T:List Tk} {i0 f:Nat} {S:List Sm}
theorem Jn(S:List Sm)(j:Nat)(h:j<S.length):S[j]?=some (aq S j):=by
 unfold aq;rw[Uc,Ub h];rfl
theorem CU.step(p:CU T i0 S f)(j:Nat)(h:j+1<S.length):(aq S j).z<(aq S (j+1)).z:=by
 have q:=(p.s (j+1) h).1;have:=q.lt;rw[q.a]at this;unfold lk at this;rw[Uf (by omega),Vj]at this;exact this
theorem CU.mono(p:CU T i0 S f)(j k:Nat)(h:j<=k)(a:k<S.length):(aq S j).z<=(aq S k).z:=by
 induction k with
 | zero =>
  have:j=0:=by omega
  rw[this];exact Ue _
 | succ k b =>
  by_cases e:j=k+1
  ·rw[e];exact Ue _
  ·have:=b (by omega) (by omega);have:=p.step k a;omega
theorem CU.cnt(p:CU T i0 S f)(j:Nat)(h:j<S.length)(i:Nat)(c:(aq S j).a<=i)(d:i<(aq S j).z):jJ S i=j:=by
 refine MW i S j (fun q g=>⟨aq S q,Jn S q (by omega),?_⟩) (fun s b=>?_)
 ·have e:=(p.s j h).1.a;unfold lk at e;rw[Uf (by omega)]at e;have:=p.mono q (j-1) (by omega) (by omega);omega
 ·rw[Jn S j h]at b;cases b;omega
theorem CU.beg(p:CU T i0 S f)(j:Nat)(h:j<S.length)(i:Nat)(b:(aq S j).a<=i)(c:i<(aq S j).z):lk S (jJ S i)=(aq S j).a:=by
 rw[p.cnt j h i b c];exact((p.s j h).1.a).symm
end
theorem qN{x:Xs}{l:List UInt8}(h:(x.toList==l)=true):x=⟨l.toArray⟩:=by
 have a:x.toList=l:=by simpa using h
 apply XR;apply WO.1;rw[<-US,a]
theorem lH(h:cd D=true):io D ⟨#[36]⟩=true/\(D.toList == [36,99])=false/\(D.toList == [36,118])=false/\(D.toList == [36,102])=false:=by
 unfold cd at h;rcases UO _ _ ▸ h with h | h
 ·rcases UO _ _ ▸ h with h | h <;> (rw[qN h];decide +kernel)
 ·rw[qN h];decide +kernel
theorem CK(p:CU o N i t)(j:Nat)(h:j<i.length)(q:Nat)(b:(aq i j).a<=q)(c:q<(aq i j).z):aY o i q =
  if q=(aq i j).a then dE o i (tS o q) j
  else if q<(aq i j).h then(if(aA (tS o q)||aG (tS o q))=true then 0 else 14)
  else mO o i (aq i j).k (tS o q) j (eJ o (aq i j).h q):=by
 unfold aY;rw[p.beg j h q b c,p.cnt j h q b c,<-(p.s j h).1.k]
theorem yN{x:Xs}{B:Xt}(a:cd x=true)(h:mO o i D x N B=0):(x.toList == [36,46])=true/\jb D B=0:=by
 unfold mO at h;cases b:(x.toList == [36,46])
 ·rw[Ud (by rw[b];simp)]at h;have d:=(lH a).1;have c:(x.toList == [36,61])=false:=by
   unfold cd at a;rw[b,Vn]at a;rcases UO _ _ ▸ a with e | e <;> (rw[qN e];decide +kernel)
  rw[c,Wl,Ud (by simp),Uf d]at h;cases h
 ·rw[Uf b]at h;exact⟨rfl,h⟩
theorem uH(h:(D.toList == [36,46])=true):od D=true:=by unfold od;rw[h];simp
theorem PD(h:(D.toList == [36,102])=true):dE o i D N=11:=by
 have e:=qN h;have d:((D.toList == [36,123])||((D.toList == [36,118])||(D.toList == [36,100])))=false/\(D.toList == [36,125])=false/\(D.toList == [36,99])=false/\(aA D||aG D)=true:=by rw[e];decide +kernel
 obtain⟨a,b,c,f⟩:=d;unfold dE;rw[a,b,c,f];simp
theorem NB(h:(aA D||aG D)=true):(D.toList == [36,99])=false/\(D.toList == [36,118])=false/\cd D=false:=by
 unfold aA aG at h;rcases UO _ _ ▸ h with h | h
 all_goals
  rcases UO _ _ ▸ h with h | h <;> (rw[qN h];decide +kernel)
theorem E6(p:CU o o.length i N)(j:Nat)(h:j<i.length)(A:∀q,(aq i j).a<=q->q<(aq i j).z->aY o i q=0) :
  (((aq i j).k.toList == [36,99])=true->dS o (aq i j).h)/\(((aq i j).k.toList == [36,118])=true->dS o (aq i j).h)/\(((aq i j).k.toList == [36,102])=true->(aq i j).h+1<o.length):=by
 have w:=CK p j h;obtain⟨P,E⟩:=p.s j h;generalize aq i j=s at *;obtain⟨a,z,J,k⟩:=s;obtain⟨-,C,l,-,n⟩:=P;simp only at *;have g:=A (z-1) (by omega) (by omega);rw[w (z-1) (by omega) (by omega)]at g;have u:=A a (Ue _) C;rw[w a (Ue _) C,Uf rfl]at u;unfold eu at n;have b:=lH l;by_cases r:(io (tS o a) ⟨#[36]⟩||decide (o.length<=a+1))=true
 ·rw[Uf r]at n;cases n
  have d:¬(z-1=a)->dS o (a+1):=fun f=>by
   rw[Ud f,Ud (by omega)]at g;have:=yN l g;exact⟨z-1,by omega,by omega,uH this.1⟩
  refine⟨fun c=>d (fun e=>?_),fun c=>d (fun e=>?_),fun c=>?_⟩
  ·rw[e,c]at b;exact absurd b.2.1 (by simp)
  ·rw[e,c]at b;exact absurd b.2.2.1 (by simp)
  ·rw[PD c]at u;cases u
 ·rw[Ud r]at n;cases n
  have y:io (tS o a) ⟨#[36]⟩=false:=by
   cases e:io (tS o a) ⟨#[36]⟩
   ·rfl
   ·rw[e]at r;exact absurd rfl r
  have f:¬(z-1=a):=fun e=>by
   rw[e,y]at b;exact absurd b.1 (by simp)
  have v:=A (a+1) (by omega) (by omega);rw[w (a+1) (by omega) (by omega),Ud (by omega),Uf (by omega)]at v;have x:(aA (tS o (a+1))||aG (tS o (a+1)))=true:=by
   cases e:(aA (tS o (a+1))||aG (tS o (a+1)))
   ·rw[e]at v;cases v
   ·rfl
  obtain⟨F,G,H⟩:=NB x;refine⟨fun c=>absurd c (by rw[F];simp),fun c=>absurd c (by rw[G];simp),fun c=>?_⟩;have B:¬(z-1=a+1):=fun e=>by rw[e,H]at l;cases l
  rw[Ud f,Ud (by omega)]at g;have m:=(yN l g).2;unfold jb at m;split at m
  ·cases m
  ·split at m
   ·cases m
   ·next I D =>
    have t:¬(eJ o (a+2) (z-1)).length<2:=fun t=>D (by rw[c];simp[t]);unfold eJ at t;rw[Uy,U6,UX]at t;omega
theorem Rc(g:w.length<=100000):SB w (aa w):=by
 intro i l b;have p:=dN w;have m:(aa w).length<=w.length:=rI w w.length;have k:jJ (aa w) i<=(aa w).length:=Rt i (aa w);generalize aa w=S at *;have f:∀j,j<jJ S i->(aq S j).z<=i:=fun j a=>by
  obtain⟨s,d,e⟩:=De i S j a;rw[Jn S j (by omega)]at d;cases d;exact e
 have c:=fun j (a:j<jJ S i)=>E6 p j (by omega) (fun q _ e=>b q (by have:=f j a;omega));refine⟨⟨k,by omega,g,fun j a=>(c j a).1,fun j a=>(c j a).2.1,fun j a=>?_⟩,fun j a=>(c j a).2.2⟩;have:=(p.s j (by omega)).1.lt;have:=f j a;omega
end Go.Proofs.YtnbhnocdhbcbcaaGreat
