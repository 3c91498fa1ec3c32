import Derived.Deep.CutRange
import Derived.Test.YtnbhnocdhbcbcaaGreatK04
import Derived.Test.YtnbhnocdhbcbcaaGreatK14
namespace Go.Proofs.YtnbhnocdhbcbcaaGreat
open Go.RowKit Tryz
open Value IntKind Ending
set_option maxHeartbeats 0
variable{o:List Tk}{i:List Sm}{D:Xs}{N t:Nat}{m:World}{c:Hd}(L n:Nat)(H:Xs)(y:Nat)(w:List Tk)(g:Xu)(I:Nat)(b:List Sm)(M:Xu)(s:Sm)(d:Nat)(a:World)
structure iZ(T:List Tk)(S:List Sm)(n:Nat):Prop where
 m:n<=S.length
 s:S.length<=100000
 t:T.length<=100000
 c:wD T S n [36,99]
 v:wD T S n [36,118]
 a:∀j,j<n->(aq S j).a<T.length
def jM(T:List Tk)(S:List Sm)(x:Xs)(n:Nat):Bool:=decide (0<=bC T S x n)||(eM T S x n||jG T S ⟨#[36,118]⟩ x n false)
set_option maxRecDepth 100000
theorem yR(q:gy a L w g I b M d)(f:iZ w b n) :
  Calls prog 171 #[pointer (some ⟨L,0,none⟩),string H,int i64 n] a fun e p=>e=returned (bool (jM w b H n))/\ae [] a p:=by
 have C:Xr _:=pH L n H w g I b M d a q f.m f.s f.a;have r:Xr (∀i,ae [] a i->Calls prog 173 #[pointer (some ⟨L,0,none⟩),string H,int i64 n] i fun e p=>e=returned (bool (eM w b H n))/\ae [] i p):=fun i k=>uT L n H w g I b M d i (q.XE k) f.m f.s f.t f.c;have u:Xr (∀i,ae [] a i->Calls prog 213 #[pointer (some ⟨L,0,none⟩),string ⟨#[36,118]⟩,string H,int i64 n,bool false] i fun e p=>e=returned (bool (jG w b ⟨#[36,118]⟩ H n false))/\ae [] i p):=fun i k=>pB L n ⟨#[36,118]⟩ H false w g I b M d i (q.XE k) f.m f.s f.t (by rw[oY.2];exact f.v);have y:Xr (jM w b H n=(decide (0<=bC w b H n)||(eM w b H n||jG w b ⟨#[36,118]⟩ H n false))):=rfl;generalize jM w b H n=R at *;generalize bC w b H n=l at *;generalize eM w b H n=c at *;generalize jG w b ⟨#[36,118]⟩ H n false=v at *;clear q;go_enter func171,ntmps171;go_upto_region 2 with (go_at_call 172;refine Ts C.o ?_;rintro e E ⟨rfl,z⟩)
 have r:Xr _:=r.o E z;go_upto_region 3 with (go_at_call 173;refine Ts r.o ?_;rintro e F ⟨rfl,B⟩)
 have u:Xr _:=u.o F (z.trans B);go_upto_region 4 with (go_at_call 213;refine Ts u.o ?_;rintro e G ⟨rfl,D⟩)
 have x:Xr _:=(z.trans B).trans D;by_cases A:0<=l
 ·have j:Xr (R=true):=by show _=_;rw[y.o];simp[A]
  go_wp2;go_ret;exact⟨aF j.o.symm,x.o⟩
 ·cases c
  ·have j:Xr (R=v):=(by show _=_;rw[y.o];simp[A]);go_wp2;go_ret;exact⟨aF j.o.symm,x.o⟩
  ·have j:Xr (R=true):=(by show _=_;rw[y.o];simp);go_wp2;go_ret;exact⟨aF j.o.symm,x.o⟩
def j7(T:List Tk)(S:List Sm)(x:Xs)(n:Nat)(con:Bool)(before:Xt):Int :=
 if aK before x=true then 13 else if(con&&jM T S x n)=true then 13 else if(!con&&(decide (0<=bC T S x n)||(eM T S x n||iG T S x n)))=true then 13 else 0
theorem Ki(f:Bool)(b:Xt)(u:Xu)(M:Nat)(T:List Tk)(p:Xu)(z:Nat)(S:List Sm)(j:Xu)(y:Nat)(w:World)(A:gy w L T p z S j y)(i:iZ T S n)(Q:ie w u b)(U:b.length<=1000000) :
  Calls prog 126 #[pointer (some ⟨L,0,none⟩),string H,int i64 n,bool f,slice u b.length M] w fun e x=>e=returned (int i64 (j7 T S H n f b))/\ae [] w x:=by
 have J:Xr _:=(kO b u M H w Q (by omega));have K:Xr _:=yR L n H T p z S j y w A i;have D:Xr (∀d,ae [] w d->Calls prog 172 #[pointer (some ⟨L,0,none⟩),string H,int i64 n] d fun e x=>e=returned (int i64 (bC T S H n))/\ae [] d x):=fun d k=>pH L n H T p z S j y d (A.XE k) i.m i.s i.a;have E:Xr (∀d,ae [] w d->Calls prog 173 #[pointer (some ⟨L,0,none⟩),string H,int i64 n] d fun e x=>e=returned (bool (eM T S H n))/\ae [] d x):=fun d k=>uT L n H T p z S j y d (A.XE k) i.m i.s i.t i.c;have F:Xr (∀d,ae [] w d->Calls prog 174 #[pointer (some ⟨L,0,none⟩),string H,int i64 n] d fun e x=>e=returned (bool (iG T S H n))/\ae [] d x):=fun d k=>Ci L n H T p z S j y d (A.XE k) i.m i.s i.t i.v;have r:Xr (j7 T S H n f b=if aK b H=true then 13 else if(f&&jM T S H n)=true then 13 else if(!f&&(decide (0<=bC T S H n)||(eM T S H n||iG T S H n)))=true then 13 else 0):=rfl;generalize j7 T S H n f b=R at *;generalize aK b H=P at *;generalize jM T S H n=V at *;generalize bC T S H n=l at *;generalize eM T S H n=c at *;generalize iG T S H n=v at *;clear A;go_enter func126,ntmps126;go_upto_region 2 with (go_at_call 94;refine Ts J.o ?_;rintro e w9 ⟨rfl,B⟩;rw[B];clear B)
 go_upto_region 3 with (go_at_call 171;refine Ts K.o ?_;rintro e W ⟨rfl,C⟩)
 have D:Xr _:=D.o W C;go_upto_region 4 with (go_at_call 172;refine Ts D.o ?_;rintro e X ⟨rfl,G⟩)
 have E:Xr _:=E.o X (C.trans G);go_upto_region 5 with (go_at_call 173;refine Ts E.o ?_;rintro e Y ⟨rfl,I⟩)
 have F:Xr _:=F.o Y ((C.trans G).trans I);go_upto_region 6 with (go_at_call 174;refine Ts F.o ?_;rintro e Z ⟨rfl,O⟩)
 have q:Xr _:=((C.trans G).trans I).trans O;clear J K D E F C G I O;cases P
 ·cases f
  ·by_cases N:0<=l
   ·have g:Xr (R=13):=(by show _=_;rw[r.o];simp[N]);go_wp2;go_ret;exact⟨au g.o.symm,q.o⟩
   ·cases c
    ·cases v
     ·have g:Xr (R=0):=(by show _=_;rw[r.o];simp[N]);go_wp2;go_ret;exact⟨au g.o.symm,q.o⟩
     ·have g:Xr (R=13):=(by show _=_;rw[r.o];simp);go_wp2;go_ret;exact⟨au g.o.symm,q.o⟩
    ·have g:Xr (R=13):=(by show _=_;rw[r.o];simp);go_wp2;go_ret;exact⟨au g.o.symm,q.o⟩
  ·cases V
   ·have g:Xr (R=0):=(by show _=_;rw[r.o];simp);go_wp2;go_ret;exact⟨au g.o.symm,q.o⟩
   ·have g:Xr (R=13):=(by show _=_;rw[r.o];simp);go_wp2;go_ret;exact⟨au g.o.symm,q.o⟩
 ·have g:Xr (R=13):=by show _=_;rw[r.o];simp
  go_wp2;go_ret;exact⟨au g.o.symm,q.o⟩
def ja(key:Xs)(before:Xt):Int :=
 if before.length=0 then 15 else if(((key.toList == [36,100])||(key.toList == [36,102]))&&decide (before.length<2))=true then 15 else if((key.toList == [36,112]) && !(aK before ⟨#[36,61]⟩))=true then 23 else 0
theorem CO(a:Xt)(c:Xu)(p:Nat)(w:World)(q:ie w c a)(t:a.length<=1000000) :
  Calls prog 125 #[string H,slice c a.length p] w fun e v=>e=returned (int i64 (ja H a))/\v=w:=by
 have m:Xr _:=(kO a c p ⟨#[36,61]⟩ w q (by omega));have d:Xr (ja H a=if a.length=0 then 15 else if(((H.toList == [36,100])||(H.toList == [36,102]))&&decide (a.length<2))=true then 15 else if((H.toList == [36,112]) && !(aK a ⟨#[36,61]⟩))=true then 23 else 0):=rfl;generalize ja H a=R at *;generalize aK a ⟨#[36,61]⟩=r at *;generalize a.length=n at *;clear q;by_cases f:n=0
 ·have s:Xr (R=15):=by show _=_;rw[d.o,Tr f]
  subst f;go_enter func125,ntmps125;go_wp2_with (go_at_call 94;refine Ts m.o ?_;rintro e x ⟨rfl,b⟩;rw[b];clear b);go_ret;exact⟨au s.o.symm,rfl⟩
 ·rw[Tp f]at d;have u:((n:Int)==0)=false:=by simpa using f
  go_enter func125,ntmps125;go_upto_region 3 with (go_at_call 94;refine Ts m.o ?_;rintro e x ⟨rfl,b⟩;rw[b];clear b)
  rcases kn n 2 with ⟨g,i⟩ | ⟨g,i⟩
  ·cases j:(H.toList == [36,100]) <;> cases k:(H.toList == [36,102]) <;> cases l:(H.toList == [36,112]) <;> cases r
   all_goals
    go_wp2;go_ret;exact⟨au (by rw[d.o];simp[g,j,k,l]),rfl⟩
  ·cases j:(H.toList == [36,100]) <;> cases k:(H.toList == [36,102]) <;> cases l:(H.toList == [36,112]) <;> cases r
   all_goals
    go_wp2;go_ret;exact⟨au (by rw[d.o];simp[g,j,k,l]),rfl⟩
theorem Bw(O:H.size<=1073741824) :
  Calls prog 170 #[string H] a fun e L=>e=returned (bool (iz H))/\L=a:=by
 go_enter func170,ntmps170;go_wp2
 go_loopg [3] H.size (fun g i wr=>∃k:Nat,k<=H.size/\g=H.size-k/\i=int i64 k/\Xr (∀i,i<k->j5 (aI H i)=true)/\wr=a)
 ·exact⟨0,by omega,by omega,rfl,fun i h=>by omega,rfl⟩
 obtain⟨k,N,M,rfl,d,rfl⟩:=hrel;by_cases n:k<H.size
 ·have q:Xr (j5 (H[k].toNat:Int)=false->iz H=false):=fun v=>E1 k n (by rw[bZ H k n];exact v);have r:Xr (j5 (H[k].toNat:Int)=true->∀i,i<k+1->j5 (aI H i)=true):=fun v i E=>by
   by_cases e:i=k
   ·subst e;rw[bZ H i n];exact v
   ·exact d.o i (by omega)
  have F:(k:Int)<(H.size:Int):=by omega
  go_upto_region 5 with fail
  obtain⟨c,B⟩:∃c:Int,(H[k].toNat:Int)=c:=⟨_,rfl⟩
  have D:Xr _:=B;clear B;rw[D.o]at q r ⊢
  go_cut [5] from 18 to 23 (fun G p=>G=bool (decide (97<=c)&&decide (c<=122))/\p=wr)
  case first =>
   by_cases s:97<=c
   ·by_cases t:c<=122
    all_goals
     go_wp2_with fail;go_meet
     case rel=>exact⟨by simp;omega,rfl⟩
   ·go_wp2_with fail;go_meet
    case rel=>exact⟨by simp;omega,rfl⟩
  case rest =>
   obtain⟨rfl,b⟩:=hcut;subst b;obtain⟨x,f⟩:=bn ((decide (97<=c)&&decide (c<=122)));rw[f.o];go_upto_region 6 with fail
   go_cut [6] from 24 to 29 (fun I p=>I=bool (decide (65<=c)&&decide (c<=90))/\p=wc)
   case first =>
    by_cases s:65<=c
    ·by_cases t:c<=90
     all_goals
      go_wp2_with fail;go_meet
      case rel=>exact⟨by simp;omega,rfl⟩
    ·go_wp2_with fail;go_meet
     case rel=>exact⟨by simp;omega,rfl⟩
   case rest =>
    obtain⟨rfl,b⟩:=hcut;subst b;obtain⟨y,j⟩:=bn ((decide (65<=c)&&decide (c<=90)));rw[j.o];go_upto_region 7 with fail
    go_cut [7] from 30 to 35 (fun J p=>J=bool (decide (48<=c)&&decide (c<=57))/\p=wc)
    case first =>
     by_cases s:48<=c
     ·by_cases t:c<=57
      all_goals
       go_wp2_with fail;go_meet
       case rel=>exact⟨by simp;omega,rfl⟩
     ·go_wp2_with fail;go_meet
      case rel=>exact⟨by simp;omega,rfl⟩
    case rest =>
     obtain⟨rfl,b⟩:=hcut;subst b;obtain⟨z,l⟩:=bn ((decide (48<=c)&&decide (c<=57)));rw[l.o];go_upto_region 8 with fail
     go_cut [8] from 36 to 45 (fun K p=>K=bool ((c==45)||(c==95)||(c==46))/\p=wc)
     case first =>
      cases s:(c==45)
      ·cases t:(c==95)
       all_goals
        go_wp2_with fail;go_meet
        case rel=>exact⟨by rw[s,t];simp,rfl⟩
      ·go_wp2_with fail;go_meet
       case rel=>exact⟨by rw[s];simp,rfl⟩
     case rest =>
      obtain⟨rfl,b⟩:=hcut;subst b;obtain⟨A,m⟩:=bn (((c==45)||(c==95)||(c==46)));rw[m.o];have w:Xr (j5 c=(x||(y||(z||A)))):=ci (by rw[<-f.o,<-j.o,<-l.o,<-m.o];unfold j5;simp only[Bool.or_assoc]);clear f j l m;cases x <;> cases y <;> cases z <;> cases A
      ·have u:Xr _:=q.o (by rw[w.o];rfl);go_wp2;go_ret;exact⟨aF u.o.symm,rfl⟩
      all_goals
       have u:Xr _:=(r.o (by rw[w.o];rfl));go_wp2;go_roundg (H.size-(k+1))
       ·exact⟨k+1,by omega,rfl,by go_num,u,rfl⟩
       omega
 ·have C:Xr (iz H=true):=AV (fun i E=>d.o i (by omega));go_wp2;go_ret;exact⟨aF C.o.symm,rfl⟩
def dE(T:List Tk)(S:List Sm)(x:Xs)(n:Nat):Int :=
 if((x.toList == [36,123])||((x.toList == [36,118])||(x.toList == [36,100])))=true then 0
 else if((x.toList == [36,125])&&(bt S n==0))=true then 9
 else if(x.toList == [36,125])=true then 0
 else if((x.toList == [36,99])&&decide (0<bt S n))=true then 10
 else if(x.toList == [36,99])=true then 0
 else if(aA x||aH x)=true then 11
 else if ij x ⟨#[36]⟩=true then 8
 else if iz x=false then 12
 else if jM T S x n=true then 13 else 0
theorem Fj(u:gy a L w g I b M d)(v:iZ w b n)(D:H.size<=1073741824) :
  Calls prog 122 #[pointer (some ⟨L,0,none⟩),string H,int i64 n] a fun e F=>e=returned (int i64 (dE w b H n))/\ae [] a F:=by
 have x:Xr _:=Fc L n w g I b M d a u v.m v.s;have y:Xr _:=yR L n H w g I b M d a u v
 have j:Xr (dE w b H n=if((H.toList == [36,123])||((H.toList == [36,118])||(H.toList == [36,100])))=true then 0
  else if((H.toList == [36,125])&&(bt b n==0))=true then 9
  else if(H.toList == [36,125])=true then 0
  else if((H.toList == [36,99])&&decide (0<bt b n))=true then 10
  else if(H.toList == [36,99])=true then 0
  else if(aA H||aH H)=true then 11
  else if ij H ⟨#[36]⟩=true then 8
  else if iz H=false then 12
  else if jM w b H n=true then 13 else 0):=rfl
 generalize dE w b H n=R at *;generalize bt b n=z at *;generalize jM w b H n=E at *;clear u;go_enter func122,ntmps122;go_upto_region 5 with (first | (go_at_call 169;refine Ts x.o ?_;rintro e t ⟨rfl,c⟩;rw[c];clear c) | (go_at_call 121;refine(go H _ _ (by omega) (by show 1<=_;omega)).mono ?_;rintro e t ⟨rfl,c⟩;rw[c];clear c) | (go_at_call 170;refine(Bw H _ D).mono ?_;rintro e t ⟨rfl,c⟩;rw[c];clear c) | (go_at_call 171;refine Ts y.o ?_;rintro e O ⟨rfl,C⟩))
 go_upto_region 7 with (first | (go_at_call 123;refine(gZ H _).mono ?_;rintro e t ⟨rfl,c⟩;rw[c];clear c) | (go_at_call 124;refine(mo H _).mono ?_;rintro e t ⟨rfl,c⟩;rw[c];clear c))
 have i:Xr _:=C;generalize aA H=G at *;generalize aH H=N at *;generalize ij H ⟨#[36]⟩=J at *;generalize iz H=K at *;clear x y C;cases k:(H.toList == [36,123])
 ·cases l:(H.toList == [36,118])
  ·cases p:(H.toList == [36,100])
   ·cases q:(H.toList == [36,125])
    ·cases r:(H.toList == [36,99])
     ·cases G
      ·cases N
       ·cases J
        ·cases K
         ·have f:Xr (R=12):=(by show _=_;rw[j.o];simp[k,l,p,q,r]);go_wp2;go_ret;exact⟨au f.o.symm,i.o⟩
         ·cases E
          ·have f:Xr (R=0):=(by show _=_;rw[j.o];simp[k,l,p,q,r]);go_wp2;go_ret;exact⟨au f.o.symm,i.o⟩
          ·have f:Xr (R=13):=(by show _=_;rw[j.o];simp[k,l,p,q,r]);go_wp2;go_ret;exact⟨au f.o.symm,i.o⟩
        ·have f:Xr (R=8):=(by show _=_;rw[j.o];simp[k,l,p,q,r]);go_wp2;go_ret;exact⟨au f.o.symm,i.o⟩
       ·have f:Xr (R=11):=(by show _=_;rw[j.o];simp[k,l,p,q,r]);go_wp2;go_ret;exact⟨au f.o.symm,i.o⟩
      ·have f:Xr (R=11):=(by show _=_;rw[j.o];simp[k,l,p,q,r]);go_wp2;go_ret;exact⟨au f.o.symm,i.o⟩
     ·by_cases A:0<z
      ·have f:Xr (R=10):=(by show _=_;rw[j.o];simp[k,l,p,q,r,A]);go_wp2;go_ret;exact⟨au f.o.symm,i.o⟩
      ·have f:Xr (R=0):=(by show _=_;rw[j.o];simp[k,l,p,q,r,A]);go_wp2;go_ret;exact⟨au f.o.symm,i.o⟩
    ·cases B:(z==0)
     ·have f:Xr (R=0):=(by show _=_;rw[j.o];simp[k,l,p,q,B]);go_wp2;go_ret;exact⟨au f.o.symm,i.o⟩
     ·have f:Xr (R=9):=(by show _=_;rw[j.o];simp[k,l,p,q,B]);go_wp2;go_ret;exact⟨au f.o.symm,i.o⟩
   ·have f:Xr (R=0):=(by show _=_;rw[j.o];simp[k,l,p]);go_wp2;go_ret;exact⟨au f.o.symm,i.o⟩
  ·have f:Xr (R=0):=(by show _=_;rw[j.o];simp[k,l]);go_wp2;go_ret;exact⟨au f.o.symm,i.o⟩
 ·have f:Xr (R=0):=by show _=_;rw[j.o];simp[k]
  go_wp2;go_ret;exact⟨au f.o.symm,i.o⟩
def rU(T:List Tk)(S:List Sm)(v:Xs)(n j:Nat):Bool:=((aq S j).k.toList == [36,102])&&(((tS T ((aq S j).h+1)).toList==v.toList)&&aO S j n)
def gK(T:List Tk)(S:List Sm)(v:Xs)(n:Nat):Int:=match (List.range n).find? (rU T S v n) with
 | some j=>j
 | none=>-1
theorem JQ(c:t<N)(h:rU o i D N t=true)(a:∀j,j<t->rU o i D N j=false):gK o i D N=t:=by
 have e:(List.range N).find? (rU o i D N)=some t:=by
  rw[UT];exact⟨h,TG.2 c,fun j b=>by rw[a j b];rfl⟩
 unfold gK;rw[e]
theorem MQ(a:∀j,j<N->rU o i D N j=false):gK o i D N=-1:=by
 have e:(List.range N).find? (rU o i D N)=none:=by
  rw[UE];intro j b;rw[a j (TG.1 b)];simp
 unfold gK;rw[e]
theorem JN(Q:gy a L w g I b M d)(J:iZ w b n)(X:∀j,j<n->((aq b j).k.toList == [36,102])=true->(aq b j).h+1<w.length) :
  Calls prog 175 #[pointer (some ⟨L,0,none⟩),string H,int i64 n] a fun e N=>e=returned (int i64 (gK w b H n))/\ae [] a N:=by
 have O:Xr _:=Q;have hn:=J.m;have W:=J.s;have hT:=J.t;clear Q;go_enter func175,ntmps175;go_wp2
 go_loopg [7] n (fun U i wr=>∃k:Nat,k<=n/\U=n-k/\i=int i64 k/\Xr (∀j,j<k->rU w b H n j=false)/\Xr (ae [] a wr))
 ·exact⟨0,by omega,rfl,rfl,(fun j hj=>by omega),ae.refl _ _⟩
 obtain⟨k,hk,hg,rfl,A,z⟩:=hrel;by_cases C:k<n
 ·have u:k<b.length:=by omega
  have q:Xr _:=gy.XE O.o z.o;obtain⟨c0,c1,hb⟩:=q.o.cells;obtain⟨gs,rfl,Z,-,-,q2,q3⟩:=q.o.s.2 k b[k] (Tn u);have ad:(k:Int)<(n:Int):=by omega
  have R:(k:Int)<b.length:=by omega
  have r:Xr (rU w b H n k=((b[k].k.toList == [36,102])&&(((tS w (b[k].h+1)).toList==H.toList)&&aO b k n))):=ci (by unfold rU;rw[bW b k u]);have P:Xr ((b[k].k.toList == [36,102])=true->b[k].h+1<w.length):=by have:=X k C;rw[<-bW b k u]at this;exact this
  have x:Xr (∀D,ae [] a D->Calls prog 93 #[pointer (some ⟨L,0,none⟩),int i64 k,int i64 n] D fun e N=>e=returned (bool (aO b k n))/\N=D):=fun D kx=>lR L k n w g I b _ d D (gy.XE O.o kx) (by omega) hn W;generalize b[k]=s at *;obtain⟨sa,sz,l,sk⟩:=s;simp only at q2 q3 r P;obtain⟨T,E⟩:=bn (aO b k n);rw[E.o]at r x;cases B:(sk.toList == [36,102])
  ·have p:Xr _:=eZ A.o (by rw[r.o,B];rfl);(go_upto_region 4 with fail);go_region
   all_goals
    have c:Xr _:=z.o.drew;go_wp2;go_roundg (n-(k+1))
    ·exact⟨k+1,by omega,rfl,by go_num,p,c⟩
    omega
  ·have G:=P.o B;obtain⟨V,rfl,Y,K,-⟩:=q.o.t.2 (l+1) _ (jd w (l+1) G);replace K:wr.cell? ⟨V,(l+1)*5,none⟩=some (string (tS w (l+1))):=K;obtain⟨y,S⟩:=bn (tS w (l+1));rw[S.o]at K r;have ag:(l:Int)+1<w.length:=(by omega);have al:IntKind.i64.wrap ((l:Int)+1)=(l:Int)+1:=(by rw[UX];omega);have ai:((l:Int)+1).toNat=l+1:=(by omega);have af:(0:Int)<=(l:Int)+1:=(by omega);cases F:(y.toList==H.toList)
   ·have p:Xr _:=eZ A.o (by rw[r.o,B,F];rfl);(go_upto_region 4 with fail);go_region
    all_goals
     have c:Xr _:=z.o.drew;go_wp2;go_roundg (n-(k+1))
     ·exact⟨k+1,by omega,rfl,by go_num,p,c⟩
     omega
   ·(go_upto_region 4 with fail);go_region
    all_goals
     have c:Xr _:=z.o.drew;have v:Xr _:=x.o wr.drew c.o
    cases T
    ·have p:Xr _:=eZ A.o (by rw[r.o,B,F];rfl);go_wp2_with (go_at_call 93;refine Ts v.o ?_;rintro e w9 ⟨rfl,f⟩;rw[f];clear f);go_roundg (n-(k+1))
     ·exact⟨k+1,by omega,rfl,by go_num,p,c⟩
     omega
    ·have p:Xr (gK w b H n=k):=JQ C (by rw[r.o,B,F];rfl) A.o;go_wp2_with (go_at_call 93;refine Ts v.o ?_;rintro e w9 ⟨rfl,f⟩;rw[f];clear f);go_ret;exact⟨au p.o.symm,c.o⟩
 ·have p:Xr (gK w b H n=-1):=MQ (fun j hj=>A.o j (by omega));go_wp2;go_ret;exact⟨au p.o.symm,z.o⟩
def mU(T:List Tk)(S:List Sm)(n:Nat):Prop:=∀j,j<n->((aq S j).k.toList == [36,102])=true->(aq S j).h+1<T.length
def im(T:List Tk)(S:List Sm)(key x:Xs)(n:Nat)(before:Xt):Int :=
 if(key.toList == [36,100])=true then(if iG T S x n=false then 18 else if aK before x=true then 19 else 0)
 else if(before.length==0)=true then(if eM T S x n=false then 17 else 0)
 else if(key.toList == [36,102])=true then(if 1<before.length then 16 else if iG T S x n=false then 18 else if 0<=gK T S x n then 20 else 0)
 else if eM T S x n=true then 0 else if iG T S x n=false then 21 else if gK T S x n<0 then 22 else 0
theorem Gz(x:Xs)(a:Xt)(u:Xu)(U:Nat)(T:List Tk)(A:Xu)(N:Nat)(S:List Sm)(z:Xu)(M:Nat)(w:World)(P:gy w L T A N S z M)(B:iZ T S n)(hf:mU T S n)(Z:ie w u a)(ac:a.length<=1000000) :
  Calls prog 127 #[pointer (some ⟨L,0,none⟩),string H,string x,int i64 n,slice u a.length U] w fun e E=>e=returned (int i64 (im T S H x n a))/\ae [] w E:=by
 have Y:Xr _:=uT L n x T A N S z M w P B.m B.s B.t B.c;have I:Xr (∀f,ae [] w f->Calls prog 174 #[pointer (some ⟨L,0,none⟩),string x,int i64 n] f fun e E=>e=returned (bool (iG T S x n))/\ae [] f E):=fun f k=>Ci L n x T A N S z M f (P.XE k) B.m B.s B.t B.v;have J:Xr (∀f,ae [] w f->Calls prog 175 #[pointer (some ⟨L,0,none⟩),string x,int i64 n] f fun e E=>e=returned (int i64 (gK T S x n))/\ae [] f E):=fun f k=>JN L n x T A N S z M f (P.XE k) B hf
 have K:Xr (∀f,ae [] w f->Calls prog 94 #[slice u a.length U,string x] f fun e E=>e=returned (bool (aK a x))/\E=f):=fun f k=>kO a u U x f (fun i y hy=>by
  obtain⟨g,e,hg,c⟩:=Z i y hy;exact⟨g,e,Tw hg k.size,by rw[TO (k.block g hg (by simp))];exact c⟩) (by omega)
 have l:Xr (im T S H x n a=if(H.toList == [36,100])=true then(if iG T S x n=false then 18 else if aK a x=true then 19 else 0)
  else if(a.length==0)=true then(if eM T S x n=false then 17 else 0)
  else if(H.toList == [36,102])=true then(if 1<a.length then 16 else if iG T S x n=false then 18 else if 0<=gK T S x n then 20 else 0)
  else if eM T S x n=true then 0 else if iG T S x n=false then 21 else if gK T S x n<0 then 22 else 0):=rfl
 generalize im T S H x n a=R at *;generalize aK a x=ag at *;generalize gK T S x n=F at *;generalize eM T S x n=c at *;generalize iG T S x n=v at *;generalize a.length=p at *;clear P Z;go_enter func127,ntmps127;go_upto_region 3 with (go_at_call 173;refine Ts Y.o ?_;rintro e w3 ⟨rfl,Q⟩)
 have I:Xr _:=I.o w3 Q;go_upto_region 4 with (go_at_call 174;refine Ts I.o ?_;rintro e w4 ⟨rfl,X⟩)
 have J:Xr _:=J.o w4 (Q.trans X);go_upto_region 5 with (go_at_call 175;refine Ts J.o ?_;rintro e w5 ⟨rfl,k5⟩)
 have j:Xr _:=(Q.trans X).trans k5;have K:Xr _:=K.o w5 j.o;go_upto_region 6 with (go_at_call 94;refine Ts K.o ?_;rintro e w9 ⟨rfl,G⟩;rw[G];clear G)
 clear Y I J K Q X k5;cases q:(H.toList == [36,100])
 ·by_cases r:p=0
  ·have W:((p:Int)==0)=true:=(by simpa using r);cases c
   ·have b:Xr (R=17):=(by show _=_;rw[l.o];simp[q,r]);go_wp2;go_ret;exact⟨au b.o.symm,j.o⟩
   ·have b:Xr (R=0):=(by show _=_;rw[l.o];simp[q,r]);go_wp2;go_ret;exact⟨au b.o.symm,j.o⟩
  ·have W:((p:Int)==0)=false:=(by simpa using r);cases C:(H.toList == [36,102])
   ·cases c
    ·cases v
     ·have b:Xr (R=21):=(by show _=_;rw[l.o];simp[q,r,C]);go_wp2;go_ret;exact⟨au b.o.symm,j.o⟩
     ·by_cases d:F<0
      ·have D:F<0:=d;have b:Xr (R=22):=ci (by rw[l.o];simp[q,r,C,d]);go_wp2;go_ret;exact⟨au b.o.symm,j.o⟩
      ·have D:¬F<0:=d;have b:Xr (R=0):=ci (by rw[l.o];simp[q,r,C,d]);go_wp2;go_ret;exact⟨au b.o.symm,j.o⟩
    ·have b:Xr (R=0):=(by show _=_;rw[l.o];simp[q,r,C]);go_wp2;go_ret;exact⟨au b.o.symm,j.o⟩
   ·by_cases O:1<p
    ·have V:(1:Int)<(p:Int):=(by omega);have b:Xr (R=16):=ci (by rw[l.o];simp[q,r,C,O]);go_wp2;go_ret;exact⟨au b.o.symm,j.o⟩
    ·have V:¬(1:Int)<(p:Int):=(by omega);cases v
     ·have b:Xr (R=18):=(by show _=_;rw[l.o];simp[q,r,C,O]);go_wp2;go_ret;exact⟨au b.o.symm,j.o⟩
     ·by_cases d:0<=F
      ·have D:0<=F:=d;have b:Xr (R=20):=ci (by rw[l.o];simp[q,r,C,O,d]);go_wp2;go_ret;exact⟨au b.o.symm,j.o⟩
      ·have D:¬0<=F:=d;have b:Xr (R=0):=ci (by rw[l.o];simp[q,r,C,O,d]);go_wp2;go_ret;exact⟨au b.o.symm,j.o⟩
 ·cases v
  ·have b:Xr (R=18):=(by show _=_;rw[l.o];simp[q]);go_wp2;go_ret;exact⟨au b.o.symm,j.o⟩
  ·cases ag
   ·have b:Xr (R=0):=(by show _=_;rw[l.o];simp[q]);go_wp2;go_ret;exact⟨au b.o.symm,j.o⟩
   ·have b:Xr (R=19):=(by show _=_;rw[l.o];simp[q]);go_wp2;go_ret;exact⟨au b.o.symm,j.o⟩
def Gs(s:Sm):List Value:=[int i64 s.a,int i64 s.z,int i64 s.h,string s.k]
def RN(L:List Sm):List Value:=L.flatMap Gs
def uu(L:List Sm):eR:=⟨145,4,L.length,RN L⟩
theorem Rz(L:List Sm)(j:Nat)(t:Sm)(h:L[j]?=some t)(c:Nat)(d:c<4):(RN L)[j*4+c]?=(Gs t)[c]?:=by
 induction L generalizing j with
 | nil=>cases h
 | cons a L b =>
  have e:RN (a :: L)=Gs a++RN L:=rfl;cases j with
  | zero =>
   simp at h;subst h;rw[e,TQ (by simp[Gs];omega)];simp
  | succ j =>
   rw[e,TJ (by simp[Gs];omega),show(j+1)*4+c-(Gs a).length=j*4+c by simp[Gs];omega];exact b j (by simpa using h)
theorem La:(⟨(uu b).e,(uu b).size,(uu b).n+1,(uu b).xs++Gs s⟩:eR)=uu (b++[s]):=by
 simp[uu,RN]
theorem aB.srcS(o:aB m c (uu i)):Cy m c.ao c.cap i:=by
 refine⟨?_,fun k t f=>?_⟩
 ·rcases o.XP with ⟨e,d,_⟩ | ⟨g,j,r,s,l,-⟩
  ·have d:i.length=0:=d;omega
  ·exact l
 ·have v:=(TA.1 f).1;obtain⟨g,b,p,-⟩:=rD o (show 0<i.length by omega);have e:∀a,a<4->∀u,(Gs t)[a]?=some u->m.cell? ⟨g,k*4+a,none⟩=some u:=fun a n u q=>o.cell b (k*4+a) u (by show(RN i)[k*4+a]?=some u;rw[Rz i k t f a n];exact q);exact⟨g,b,p,e 0 (by omega) _ rfl,e 1 (by omega) _ rfl,e 2 (by omega) _ rfl,e 3 (by omega) _ rfl⟩
theorem Ra:(prog.info? 145).map (fun i=>(i.zero,i.size,i.bytes))=some (some (agg #[int i64 0,int i64 0,int i64 0,string ⟨#[]⟩]),4,40):=by kernel_rfl
theorem vI{g:Array Oper}{b:List Oper}{o:Oper}{i:Act}{Q:Exit->Act->World->Prop}(A:o.guard=none)(s x:Operand)(m:o.op=Op.call { callee:=Callee.builtin Builtin.append,args:=#[s,x],argTypes:=#[139,139] })(h:Hd)(L:List Sm)(t:Sm)(E:i.eval s=slice h.ao L.length h.cap)(e:aB a h (uu L))(I:L.length<=1000000)(F:i.eval x=slice (some ⟨a.heap.size,0,none⟩) 1 1)(z:∀k r,aB r k (uu (L++[t]))->bq a r h k->wpList prog g Q b (i.put o.dst (slice k.ao (L.length+1) k.cap)) r) :
  wpList prog g Q (o :: b) i (a.alloc (.cells (Gs t).toArray 145)):=by
 obtain⟨G,B,n,p,q⟩:=TZ Ra;have w:ae [] a (a.alloc (.cells (Gs t).toArray 145)):=bR.alloc _;have D:(a.alloc (.cells (Gs t).toArray 145)).heap[a.heap.size]?=some (.cells (Gs t).toArray 145):=Tu _ _;refine aL _ A s x 139 m G (agg #[int i64 0,int i64 0,int i64 0,string ⟨#[]⟩]) 40 h (uu L) underlying139 B n p q rfl (show 0<4 by omega) E (e.XE w) ⟨a.heap.size,0,none⟩ 1 1 (Gs t) F rfl ?_ ?_ TR (by simp only[uu];unfold maxLen;omega) (by simp only[uu];omega) ?_
 ·intro j u C;rw[bY,ah D];simpa using C
 ·intro u v;simp only[Gs,List.mem_cons,List.not_mem_nil,or_false]at v;rcases v with rfl | rfl | rfl | rfl <;> rfl
 ·intro y c H f d l;rw[La]at f;exact z ⟨some ⟨y,0,none⟩,c⟩ H f ((bq.XE w).trans (bq.made d l))
def fF(T:List Tk):Nat->List Sm×Nat
 | 0=>([],0)
 | i+1=>if ce (tS T i)=true then((fF T i).1++[⟨(fF T i).2,i+1,(eu T (fF T i).2).2,(eu T (fF T i).2).1⟩],i+1) else fF T i
def aa(T:List Tk):List Sm:=(fF T T.length).1
theorem Nq(i:Nat):(fF w i).2<=i:=by
 induction i with
 | zero=>exact Tq _
 | succ i a =>
  rw[fF];split
  ·exact Tq _
  ·omega
theorem pK(i:Nat):(fF w i).1.length<=i:=by
 induction i with
 | zero=>exact Tq _
 | succ i a =>
  rw[fF];split
  ·simp;omega
  ·omega
structure R2(w wr:World)(T:List Tk)(aoT:Xu)(cT:Nat)(S:List Sm)(h:Hd):Prop where
 d:wr.heap[w.heap.size]?=some (.cells #[slice aoT T.length cT,slice h.ao S.length h.cap] 141)
 X9:aB wr h (uu S)
 far:∀k,h.XS=some k->w.heap.size<k
 XR:ae [] w wr
theorem R2.add{wr n:World}{p:Xu}{r:List Sm}{f:Hd}(a:R2 m wr o p N i c)(s:aB n f (uu r))(g:bq wr n c f):R2 m (n.setCell ⟨m.heap.size,1,none⟩ (slice f.ao r.length f.cap)) o p N r f:=by
 have w:=aj a.d;have t:=g.XR.get a.d (fun j=>by have:=a.far _ (aQ j);omega);have b:∀k,f.XS=some k->m.heap.size<k:=fun k l=>by
  rcases g.XS with e | ⟨q,e,j⟩
  ·exact a.far k (by rw[<-e];exact l)
  ·rw[e]at l;cases l;omega
 have v:ae [m.heap.size] n (n.setCell ⟨m.heap.size,1,none⟩ (slice f.ao r.length f.cap)):=(ae.refl _ _).sl1 _;have u:ae [] m n:=⟨g.XR.os.trans a.XR.os,g.XR.tape.trans a.XR.tape,g.XR.output.trans a.XR.output,TF a.XR.size g.XR.size,fun k l _=>by rw[g.XR.block k (Tw l a.XR.size) (fun j=>by have:=a.far _ (aQ j);omega),a.XR.block k l (by simp)]⟩;exact⟨by rw[ab t];rfl,s.XJ (fun q j=>v.block q (s.lt j) (by simp;have:=b q j;omega)),b,u.sr1 (by simp) _⟩
theorem Np(L:lQ a M d w)(hl:w.length<=100000)(hs:∀i,(tS w i).size<=1073741824) :
  Calls prog 56 #[slice M w.length d] a fun e G=>e=returned (pointer (some ⟨a.heap.size,0,none⟩))/\∃r T,gy G a.heap.size w M d (aa w) r T/\ae [] a G/\∀g,r=some ⟨g,0,none⟩->a.heap.size<=g/\g<G.heap.size:=by
 have R:Xr (R2 a (a.alloc (.cells #[slice M w.length d,slice none 0 0] 141)) w M d [] ⟨none,0⟩):=⟨Tu _ _,Ty _ _ _ _,(by intro k N;cases N),bR.alloc _⟩;have J:Xr _:=L;clear L;go_enter func56,ntmps56;go_wp2
 go_loopg [4,5] w.length (fun g f i wr=>∃(k j:Nat) (S:List Sm) (h:Hd),k<=w.length/\g=w.length-k/\f=int i64 j/\i=int i64 k/\(j<=k/\S.length<=k)/\Xr (fF w k=(S,j))/\Xr (R2 a wr w M d S h))
 ·exact⟨0,0,[],⟨none,0⟩,by omega,rfl,rfl,rfl,⟨by omega,by simp⟩,rfl,R⟩
 obtain⟨k,j,S,h,N,hg,rfl,rfl,⟨hf,X⟩,I,c⟩:=hrel;by_cases C:k<w.length
 ·have q:Xr _:=lQ.XE J.o c.o.XR;obtain⟨z,rfl,Y,F,-⟩:=q.o.2 k _ (jd w k C);replace F:wr.cell? ⟨z,k*5,none⟩=some (string (tS w k)):=F;have Z:(k:Int)<w.length:=by omega
  have n:Xr (fF w (k+1)=if ce (tS w k)=true then(S++[⟨j,k+1,(eu w j).2,(eu w j).1⟩],k+1) else(S,j)):=ci (by rw[fF,I.o]);obtain⟨x,Q⟩:=bn (tS w k);rw[Q.o]at F n;have u:Xr (gy wr a.heap.size w (some ⟨z,0,none⟩) d S h.ao h.cap):=⟨c.o.d,q.o,c.o.X9.srcS⟩;have p:Xr _:=(Ix a.heap.size j w (some ⟨z,0,none⟩) d S h.ao h.cap wr u.o (by omega) hl hs);obtain⟨kw,y⟩:=bn (eu w j);rw[y.o]at p n;obtain⟨E,D⟩:=kw;have c1:wr.cell? ⟨a.heap.size,1,none⟩=some (slice h.ao S.length h.cap):=by rw[ah c.o.d];rfl
  have A:=c.o.X9;obtain⟨V,l⟩:=bn (ce x);rw[l.o]at n;cases V
  ·have v:Xr (fF w (k+1)=(S,j)):=(by show _=_;rw[n.o,Tp (by simp)]);go_wp2_with (go_at_call 85;refine(uX x _).mono ?_;rintro e O ⟨rfl,b⟩;rw[b,l.o];clear b);go_roundg (w.length-(k+1))
   ·exact⟨k+1,j,S,h,by omega,rfl,rfl,by go_num,⟨by omega,by omega⟩,v,c⟩
   omega
  ·have v:Xr (fF w (k+1)=(S++[⟨j,k+1,D,E⟩],k+1)):=(by show _=_;rw[n.o,Tr rfl]);have B:((k+1:Nat):Int)=(k:Int)+1:=(by omega);(go_upto_region 9 with (first | (go_at_call 85;refine(uX x _).mono ?_;rintro e O ⟨rfl,b⟩;rw[b,l.o];clear b) | (go_at_call 86;refine Ts p.o ?_;rintro e O ⟨rfl,b⟩;rw[b];clear b)));go_wp2_with (at_builtin;rw[<-B];refine vI _ rfl (.tmp 35) (.tmp 42) rfl h S ⟨j,k+1,D,E⟩ rfl A (by omega) rfl ?_;intro W w5 s m;have H:Xr _:=c.o.add s m;have t:=m.XR.get c.o.d (fun hq=>by have:=c.o.far _ (aQ hq);omega);have f5:=am t 1;have e5:w5.cell? ⟨a.heap.size,1,none⟩=some (slice h.ao S.length h.cap):=(by rw[ah t];rfl);have z5:=aj t;clear s m t);rw[Tv]at H;go_roundg (w.length-(k+1))
   ·exact⟨k+1,k+1,S++[⟨j,k+1,D,E⟩],W,by omega,rfl,by go_num,by go_num,⟨by omega,by simp;omega⟩,v,H⟩
   omega
 ·have e:k=w.length:=by omega
  subst e;have P:Xr (aa w=S):=ci (by unfold aa;rw[I.o]);go_wp2;go_ret;exact⟨rfl,h.ao,h.cap,by rw[P.o];exact⟨c.o.d,lQ.XE J.o c.o.XR,c.o.X9.srcS⟩,c.o.XR,fun g U=>have K:h.XS=some g:=(by unfold Hd.XS;rw[U];rfl);⟨UB (c.o.far g K),c.o.X9.lt K⟩⟩
def oA(i:Nat):List Sm->Nat
 | []=>0
 | s :: r=>if s.z<=i then oA i r+1 else 0
def jE(S:List Sm)(i:Nat):Nat:=oA i S
def ld(S:List Sm)(n:Nat):Nat:=if 0<n then(aq S (n-1)).z else 0
def eG(T:List Tk)(h i:Nat):Xt:=((T.drop h).take (i-h)).map (·.s)
theorem CF(f:I<=d)(b:d<w.length):eG w I (d+1)=eG w I d++[tS w d]:=by
 unfold eG;have e:d+1-I=(d-I)+1:=by omega
 have c:d-I<(w.drop I).length:=by rw[Ux];omega
 rw[e,Up c,Uh];have a:(w.drop I)[d-I]=w[d]:=by rw[Wa];congr 1;omega
 rw[a];unfold tS;rw[To,Tn b];rfl
theorem QX(S:List Sm):oA d S<=S.length:=by
 induction S with
 | nil=>exact Tq _
 | cons s r a=>rw[oA];split <;> simp;omega
theorem CP(S:List Sm)(j:Nat)(h:j<oA d S):∃s,S[j]?=some s/\s.z<=d:=by
 induction S generalizing j with
 | nil=>simp[oA]at h
 | cons s r a =>
  rw[oA]at h;split at h
  ·cases j with
   | zero=>exact⟨s,rfl,by assumption⟩
   | succ j=>exact a j (by omega)
  ·omega
theorem Mt:ld b (jE b d)<=d:=by
 unfold ld;split
 ·next h =>
  obtain⟨s,a,c⟩:=CP d b (jE b d-1) (by unfold jE at h ⊢;omega);unfold aq;rw[To,a];exact c
 ·omega
def mI(T:List Tk)(S:List Sm)(key x:Xs)(n:Nat)(before:Xt):Int :=
 if(x.toList == [36,46])=true then ja key before
 else if((x.toList == [36,61])&&((key.toList == [36,112]) && !(aK before ⟨#[36,61]⟩)))=true then(if before.length=0 then 15 else 0)
 else if ij x ⟨#[36]⟩=true then 8
 else if aK before ⟨#[36,61]⟩=true then 0
 else if((key.toList == [36,99])||(key.toList == [36,118]))=true then j7 T S x n (key.toList == [36,99]) before
 else im T S key x n before
def aY(T:List Tk)(S:List Sm)(i:Nat):Int :=
 if i=ld S (jE S i) then dE T S (tS T i) (jE S i)
 else if i<(eu T (ld S (jE S i))).2 then(if(aA (tS T i)||aH (tS T i))=true then 0 else 14)
 else mI T S (eu T (ld S (jE S i))).1 (tS T i) (jE S i) (eG T (eu T (ld S (jE S i))).2 i)
theorem CI(W:gy a n w g I b M d)(hi:y<w.length)(S:iZ w b (jE b y))(hf:mU w b (jE b y))(hs:∀y,(tS w y).size<=1073741824) :
  Calls prog 87 #[pointer (some ⟨n,0,none⟩),int i64 y] a fun e w'=>e=returned (int i64 (aY w b y))/\ae [] a w':=by
 have HD:Xr _:=W;have hT:=S.t;have b1:=S.s;obtain⟨c0,c1,hb⟩:=W.cells;obtain⟨V,rfl,b6,t0,-⟩:=W.t.2 y _ (jd w y hi);replace t0:a.cell? ⟨V,y*5,none⟩=some (string (tS w y)):=t0;have cb:(y:Int)<w.length:=by omega
 have D:Xr _:=Fj n (jE b y) (tS w y) w (some ⟨V,0,none⟩) I b M d a W S (hs y);have af:=Mt b y;have p:Xr _:=Ix n (ld b (jE b y)) w (some ⟨V,0,none⟩) I b M d a W (by omega) hT hs
 have f:Xr (aY w b y=if y=ld b (jE b y) then dE w b (tS w y) (jE b y)
  else if y<(eu w (ld b (jE b y))).2 then(if(aA (tS w y)||aH (tS w y))=true then 0 else 14)
  else mI w b (eu w (ld b (jE b y))).1 (tS w y) (jE b y) (eG w (eu w (ld b (jE b y))).2 y)):=rfl
 have bp:=hs y;have HB:Xr (ld b (jE b y)=if 0<jE b y then(aq b (jE b y-1)).z else 0):=rfl;obtain⟨x,Hx⟩:=bn (tS w y);rw[Hx.o]at t0 D f bp;obtain⟨X,Hn⟩:=bn (jE b y);have aT:Xr (X=oA y b):=Hn.o.symm;rw[Hn.o]at D p f HB af S hf;obtain⟨U,a5⟩:=bn (ld b X);rw[a5.o]at p f HB af;obtain⟨kw,a6⟩:=bn (eu w U);rw[a6.o]at p f;obtain⟨l,F⟩:=kw;simp only at p f;have ch:X<=b.length:=S.m;clear W;go_enter func87,ntmps87;go_wp2
 go_loopg [5] b.length (fun be o wr=>∃k:Nat,k<=b.length/\be=b.length-k/\o=int i64 k/\Xr (k+oA y (b.drop k)=X)/\wr=a)
 ·exact⟨0,by omega,rfl,rfl,by show _=_;rw[We,Vr];exact aT.o.symm,rfl⟩
 obtain⟨k,hk,hg,rfl,HC,rfl⟩:=hrel;obtain⟨u,Z,a3,ac⟩:∃u:Bool,Xr (∀h:k<b.length,b[k].z<=y->u=true)/\Xr (u=true->k<b.length/\k+1+oA y (b.drop (k+1))=X)/\Xr ((∀h:k<b.length,¬b[k].z<=y)->u=false):=by
  by_cases i:k<b.length
  ·have v:=HC.o;rw[TV i,oA]at v;refine⟨decide (b[k].z<=y),fun h Q=>by simpa using Q,fun h=>⟨i,?_⟩,fun h=>by simpa using h i⟩;rw[Tr (by simpa using h)]at v;omega
  ·exact⟨false,(fun h=>absurd h i),(fun h=>by cases h),(fun _=>rfl)⟩
 have a4:Xr (u=false->k=X):=fun h=>by
  have v:=HC.o;by_cases i:k<b.length
  ·rw[TV i,oA]at v;by_cases Q:b[k].z<=y
   ·have:=Z.o i Q;rw[h]at this;cases this
   ·rw[Tp Q]at v;omega
  ·rw[VJ (by omega),oA]at v;omega
 go_upto_region 2 with fail
 go_cut [34] from 16 to 34 (fun bs wd=>bs=bool u/\wd=wr)
 case first =>
  by_cases i:k<b.length
  ·obtain⟨gs,rfl,bj,-,q1,-⟩:=HD.o.s.2 k b[k] (Tn i);have ar:(k:Int)<b.length:=(by omega);by_cases Q:b[k].z<=y
   ·have br:(b[k].z:Int)<=(y:Int):=(by omega);have HV:Xr _:=Z.o i Q;go_wp2_with fail;go_meet
    case rel=>exact⟨by rw[HV.o],rfl⟩
   ·have br:¬(b[k].z:Int)<=(y:Int):=(by omega);have HV:Xr _:=(ac.o (fun _=>Q));go_wp2_with fail;go_meet
    case rel=>exact⟨by rw[HV.o],rfl⟩
  ·have ar:¬(k:Int)<b.length:=(by omega);have HV:Xr _:=(ac.o (fun h=>absurd h i));go_wp2_with fail;go_meet
   case rel=>exact⟨by rw[HV.o],rfl⟩
 case rest =>
  obtain⟨rfl,C⟩:=hcut;subst C;cases u
  ·have bk:=a4.o rfl;subst bk;go_upto_if 38 with fail
   go_cut [6] from 37 to 47 (fun s6 wd=>s6=int i64 U/\wd=wc)
   case first =>
    by_cases an:0<k
    ·have ap:k-1<b.length:=(by omega);obtain⟨gs,rfl,bj,-,q1,-⟩:=HD.o.s.2 (k-1) b[k-1] (Tn ap);have K:Xr (b[k-1].z=U):=ci (by rw[HB.o,Tr an,bW b (k-1) ap]);rw[K.o]at q1;have ck:IntKind.i64.wrap ((k:Int)-1)=(k:Int)-1:=(by rw[UX];omega);have cj:((k:Int)-1).toNat=k-1:=(by omega);have b2:(k:Int)-1<b.length:=(by omega);have b3:(1:Int)<=(k:Int):=(by omega);go_wp2_with fail;go_meet
     case rel=>exact⟨rfl,rfl⟩
    ·have K:Xr (U=0):=(by show _=_;rw[HB.o,Tp an]);go_wp2_with fail;go_meet
     case rel=>exact⟨by rw[K.o];rfl,rfl⟩
   case rest =>
    obtain⟨rfl,C⟩:=hcut;subst C;by_cases P:y=U
    ·have j:Xr (aY w b y=dE w b x k):=(by show _=_;rw[f.o,Tr P]);subst P;clear p;go_wp2_with (go_at_call 122;refine Ts D.o ?_;rintro e G ⟨rfl,R⟩);go_ret;exact⟨au j.o.symm,R⟩
    ·rw[Tp P]at f;have bv:((y:Int)==(U:Int))=false:=(by simp;omega);(go_upto_region 11 with (go_at_call 86;refine Ts p.o ?_;rintro e G ⟨rfl,c⟩;rw[c];clear c));by_cases ai:y<F
     ·rw[Tr ai]at f;have al:(y:Int)<(F:Int):=(by omega);(go_upto_region 14 with (first | (go_at_call 123;refine(gZ x _).mono ?_;rintro e G ⟨rfl,c⟩;rw[c];clear c) | (go_at_call 124;refine(mo x _).mono ?_;rintro e G ⟨rfl,c⟩;rw[c];clear c)));obtain⟨ya,ba⟩:=bn (aA x);obtain⟨yu,bc⟩:=bn (aH x);rw[ba.o,bc.o]at f ⊢;cases ya
      ·cases yu
       ·have j:Xr (aY w b y=14):=(by show _=_;rw[f.o];rfl);go_wp2;go_ret;exact⟨au j.o.symm,ae.refl _ _⟩
       ·have j:Xr (aY w b y=0):=(by show _=_;rw[f.o];rfl);go_wp2;go_ret;exact⟨au j.o.symm,ae.refl _ _⟩
      ·have j:Xr (aY w b y=0):=(by show _=_;rw[f.o];rfl);go_wp2;go_ret;exact⟨au j.o.symm,ae.refl _ _⟩
     ·rw[Tp ai]at f;have al:¬(y:Int)<(F:Int):=(by omega);have HX:Xr _:=zD.nil wc;clear D p c1;go_wp2
      go_loopg [12,13] (y-F) (fun be o q wr=>∃(m:Nat) (r:Hd) (O:Xt),(F<=m/\m<=y)/\be=y-m/\o=slice r.ao O.length r.cap/\q=int i64 m/\O.length<=m/\Xr (O=eG w F m)/\Xr (zD wc wr r O))
      ·exact⟨F,⟨none,0⟩,[],⟨by omega,by omega⟩,rfl,rfl,rfl,by simp,by show _=_;unfold eG;rw[Uz];rfl,HX⟩
      obtain⟨m,r,O,⟨bl,cc⟩,b5,rfl,rfl,b0,HO,T⟩:=hrel;have A:Xr _:=gy.XE HD.o T.o.XR;obtain⟨d0,-,b4⟩:=A.o.cells;by_cases cf:m<y
      ·have av:m<w.length:=(by omega);obtain⟨bT,e5,ca,q0,-⟩:=A.o.t.2 m _ (jd w m av);cases e5
       replace q0:wr.cell? ⟨V,m*5,none⟩=some (string (tS w m)):=q0;have bw:(m:Int)<(y:Int):=(by omega);have bx:(m:Int)<w.length:=(by omega);have a1:Xr (O++[tS w m]=eG w F (m+1)):=ci (by rw[CF w F m bl av,HO.o]);generalize tS w m=bz at *;have bf:=T.o.X9;go_wp2_with (at_builtin;refine qm _ rfl (.tmp 86) (.tmp 95) rfl r O bz rfl bf (by omega) rfl ?_;intro h5 w5 ax ag;have a0:Xr _:=T.o.XO ag ax;clear ax ag);go_roundg (y-(m+1))
       ·exact⟨m+1,h5,O++[bz],⟨by omega,by omega⟩,rfl,by simp,by go_num,by simp;omega,a1,a0⟩
       omega
      ·have bd:m=y:=(by omega);subst bd;rw[<-HO.o]at f;have B:=T.o.X9.srcX;have H:Xr _:=T.o.XR;have J:Xr _:=(kO O r.ao r.cap ⟨#[36,61]⟩ wr B (by omega));have aS:Xr _:=(CO l O r.ao r.cap wr B (by omega));have Y:Xr (∀E,Calls prog 126 #[pointer (some ⟨n,0,none⟩),string x,int i64 k,bool E,slice r.ao O.length r.cap] wr fun e w'=>e=returned (int i64 (j7 w b x k E O))/\ae [] wr w'):=fun E=>Ki n k x E O r.ao r.cap w (some ⟨V,0,none⟩) I b M d wr A.o S B (by omega);have a2:Xr _:=(Gz n k l x O r.ao r.cap w (some ⟨V,0,none⟩) I b M d wr A.o S hf B (by omega));unfold mI at f;obtain⟨pf,a7⟩:=bn (aK O ⟨#[36,61]⟩);obtain⟨dl,ad⟩:=bn (ij x ⟨#[36]⟩);rw[a7.o]at J f;rw[ad.o]at f;(go_upto_region 24 with (first | (go_at_call 94;refine Ts J.o ?_;rintro e G ⟨rfl,c⟩;rw[c];clear c) | (go_at_call 121;refine(go x _ _ (by omega) (by show 1<=_;omega)).mono ?_;rintro e G ⟨rfl,c⟩;rw[c];clear c)));rw[ad.o];clear J B HX d0 T A;generalize O.length=ol at *;cases h1:(x.toList == [36,46])
       ·rw[Tp (by rw[h1];simp)]at f;obtain⟨tb,N⟩:=bn (((x.toList == [36,61])&&((l.toList == [36,112]) && !pf)));rw[N.o]at f;go_upto_region 26 with fail
        go_cut [107] from 108 to 117 (fun az wd=>az=bool tb/\wd=wr)
        case first =>
         cases h2:(x.toList == [36,61])
         ·go_wp2_with fail;go_meet
          case rel=>exact⟨by rw[<-N.o,h2];rfl,rfl⟩
         ·cases h3:(l.toList == [36,112])
          all_goals
           go_wp2_with fail;go_meet
           case rel=>exact⟨by rw[<-N.o,h2,h3];rfl,rfl⟩
        case rest =>
         obtain⟨rfl,C⟩:=hcut;subst C;cases tb
         ·cases dl
          ·cases pf
           ·cases h4:(l.toList == [36,99])
            ·cases h5:(l.toList == [36,118])
             ·have j:Xr (aY w b m=im w b l x k O):=(by show _=_;rw[f.o,h4,h5];rfl);go_wp2_with (go_at_call 127;refine Ts a2.o ?_;rintro e G ⟨rfl,R⟩);go_ret;exact⟨au j.o.symm,H.o.trans R⟩
             ·have j:Xr (aY w b m=j7 w b x k false O):=(by show _=_;rw[f.o,h4,h5];rfl);have L:Xr _:=Y.o false;go_wp2_with (go_at_call 126;refine Ts L.o ?_;rintro e G ⟨rfl,R⟩);go_ret;exact⟨au j.o.symm,H.o.trans R⟩
            ·have j:Xr (aY w b m=j7 w b x k true O):=(by show _=_;rw[f.o,h4];rfl);have L:Xr _:=Y.o true;go_wp2_with (go_at_call 126;refine Ts L.o ?_;rintro e G ⟨rfl,R⟩);go_ret;exact⟨au j.o.symm,H.o.trans R⟩
           ·have j:Xr (aY w b m=0):=(by show _=_;rw[f.o];rfl);go_wp2;go_ret;exact⟨au j.o.symm,H.o⟩
          ·have j:Xr (aY w b m=8):=(by show _=_;rw[f.o];rfl);go_wp2;go_ret;exact⟨au j.o.symm,H.o⟩
         ·rw[Tr rfl]at f;by_cases ho:ol=0
          ·have j:Xr (aY w b m=15):=(by show _=_;rw[f.o,Tr ho]);have bo:((ol:Int)==0)=true:=(by simpa using ho);go_wp2;go_ret;exact⟨au j.o.symm,H.o⟩
          ·have j:Xr (aY w b m=0):=(by show _=_;rw[f.o,Tp ho]);have bo:((ol:Int)==0)=false:=(by simpa using ho);go_wp2;go_ret;exact⟨au j.o.symm,H.o⟩
       ·have j:Xr (aY w b m=ja l O):=(by show _=_;rw[f.o,Tr h1]);go_wp2_with (go_at_call 125;refine Ts aS.o ?_;rintro e G ⟨rfl,c⟩;rw[c];clear c);go_ret;exact⟨au j.o.symm,H.o⟩
  ·obtain⟨i,hm⟩:=a3.o rfl;have HM:Xr _:=hm;clear hm;go_wp2;go_roundg (b.length-(k+1))
   ·exact⟨k+1,by omega,rfl,by go_num,HM,rfl⟩
   omega
def RM(T:List Tk)(S:List Sm)(i:Nat):Bool:=!(aY T S i==0)
def zO(T:List Tk)(S:List Sm):Tk:=match (List.range T.length).find? (RM T S) with
 | some i=>⟨⟨#[]⟩,aY T S i,(T.getD i gU).XZ,(T.getD i gU).X0,(T.getD i gU).X3⟩
 | none=>gU
theorem ML{T:List Tk}{S:List Sm}{k:Nat}(c:k<T.length)(h:(aY T S k==0)=false)(a:∀j,j<k->aY T S j=0):zO T S=⟨⟨#[]⟩,aY T S k,(T.getD k gU).XZ,(T.getD k gU).X0,(T.getD k gU).X3⟩:=by
 have e:(List.range T.length).find? (RM T S)=some k:=by
  rw[UT];exact⟨by unfold RM;rw[h];rfl,TG.2 c,fun j b=>by unfold RM;rw[a j b];rfl⟩
 unfold zO;rw[e]
theorem QF(a:∀j,j<o.length->aY o i j=0):zO o i=gU:=by
 have e:(List.range o.length).find? (RM o i)=none:=by
  rw[UE];intro j b;unfold RM;rw[a j (TG.1 b)];simp
 unfold zO;rw[e]
def RU(T:List Tk)(S:List Sm):Prop:=∀i,i<T.length->(∀j,j<i->aY T S j=0)->iZ T S (jE S i)/\mU T S (jE S i)
theorem xF(P:gy a y w g I b M d)(hT:w.length<=100000)(hO:RU w b)(hs:∀i,(tS w i).size<=1073741824) :
  Calls prog 57 #[pointer (some ⟨y,0,none⟩)] a fun e w'=>e=returned (agg #[int i64 (zO w b).X6,string (zO w b).XZ,int i64 (zO w b).X0,int i64 (zO w b).X3])/\ae [] a w':=by
 have N:Xr _:=P;obtain⟨W,E⟩:=bn (a.alloc (.cells #[int i64 0,string ⟨#[]⟩,int i64 0,int i64 0] 87));have Z:=f9 E.o;have D:Xr _:=fI E.o;clear P;go_enter func57,ntmps57;go_upto_region 1 with fail
 rw[E.o];go_wp2
 go_loopg [3] w.length (fun ac i wr=>∃k:Nat,k<=w.length/\ac=w.length-k/\i=int i64 k/\Xr (∀j,j<k->aY w b j=0)/\Xr (ae [] W wr))
 ·exact⟨0,by omega,rfl,rfl,(fun j S=>by omega),ae.refl _ _⟩
 obtain⟨k,hk,hg,rfl,x,B⟩:=hrel;have m:Xr _:=D.o.trans B.o;have q:Xr _:=gy.XE N.o m.o;obtain⟨O,-,Q⟩:=q.o.cells;have f:=B.o.get Z (by simp);by_cases c:k<w.length
 ·obtain⟨U,R⟩:=hO k c x.o;have F:(k:Int)<w.length:=by omega
  have l:Xr _:=CI y k w g I b M d wr q.o c U R hs;obtain⟨r,z⟩:=bn (aY w b k);rw[z.o]at l;clear U R;cases T:(r==0)
  ·have u:Xr (zO w b=⟨⟨#[]⟩,r,(w.getD k gU).XZ,(w.getD k gU).X0,(w.getD k gU).X3⟩):=(by show _=_;rw[ML c (by rw[z.o];exact T) x.o,z.o]);(go_upto_region 5 with (go_at_call 87;refine Ts l.o ?_;rintro e w2 ⟨rfl,A⟩));have s:Xr _:=m.o.trans A;have p:Xr _:=gy.XE N.o s.o;have n:=A.get f (by simp);clear O Q;obtain⟨O,-,Q⟩:=p.o.cells;obtain⟨gT,rfl,ad,-,-,t2,t3,t4⟩:=p.o.t.2 k _ (jd w k c);generalize w.getD k gU=t at *;obtain⟨ts,tr,X,Y,V⟩:=t;simp only at t2 t3 t4 u;have f0:=am n 0;have f1:=am n 1;have f2:=am n 2;have f3:=am n 3;obtain⟨g0,g1,g2,g3⟩:=CK n;go_wp2;obtain⟨H,J,K,L⟩:=tY n (int i64 r) (string X) (int i64 Y) (int i64 V);exact Tz (v:=agg #[int i64 r,string X,int i64 Y,int i64 V]) (by simp[results,results57,go_sem,H,J,K,L]) rfl ⟨by rw[u.o],(((s.o.sr1 (by simp) _).sr1 (by simp) _).sr1 (by simp) _).sr1 (by simp) _⟩
  ·have G:r=0:=(by simpa using T);subst G;have HM:Xr (∀j,j<k+1->aY w b j=0):=fun j S=>by
    by_cases e:j=k
    ·rw[e];exact z.o
    ·exact x.o j (by omega)
   go_wp2_with (go_at_call 87;refine Ts l.o ?_;rintro e w2 ⟨rfl,A⟩;have C:Xr _:=B.o.trans A);go_roundg (w.length-(k+1))
   ·exact⟨k+1,by omega,rfl,by go_num,HM,C⟩
   omega
 ·have u:Xr (zO w b=gU):=QF (fun j S=>x.o j (by omega));have f0:=am f 0;have f1:=am f 1;have f2:=am f 2;have f3:=am f 3;obtain⟨g0,g1,g2,g3⟩:=CK f;have F:¬(k:Int)<w.length:=by omega
  go_wp2;obtain⟨H,J,K,L⟩:=tY f (int i64 0) (string ⟨#[]⟩) (int i64 0) (int i64 0);exact Tz (v:=agg #[int i64 0,string ⟨#[]⟩,int i64 0,int i64 0]) (by simp[results,results57,go_sem,H,J,K,L]) rfl ⟨by rw[u.o];rfl,(((m.o.sr1 (by simp) _).sr1 (by simp) _).sr1 (by simp) _).sr1 (by simp) _⟩
theorem At(h:d<b.length):aq (b++[s]) d=aq b d:=by
 unfold aq;rw[To,To,TQ h]
theorem vA:aq (b++[s]) b.length=s:=by
 unfold aq;rw[To,TJ (Tq _),Uz];rfl
theorem CH(h:d<=b.length):ld (b++[s]) d=ld b d:=by
 unfold ld;split
 ·rw[At b s (d-1) (by omega)]
 ·rfl
structure SQ(T:List Tk)(S:List Sm)(j:Nat)(s:Sm):Prop where
 a:s.a=ld S j
 lt:s.a<s.z
 e:ce (tS T (s.z-1))=true
 n:∀q,s.a<=q->q<s.z-1->ce (tS T q)=false
 k:(s.k,s.h)=eu T s.a
structure Cw(T:List Tk)(i:Nat)(S:List Sm)(f:Nat):Prop where
 s:∀j,j<S.length->SQ T S j (aq S j)/\(aq S j).z<=i
 fr:f=ld S S.length
 n:∀q,f<=q->q<i->ce (tS T q)=false
 le:f<=i
theorem Km(i:Nat):Cw w i (fF w i).1 (fF w i).2:=by
 induction i with
 | zero=>exact⟨fun j d=>by simp[fF]at d,rfl,fun q _ h=>by omega,Tq _⟩
 | succ i b =>
  rw[fF];split
  ·next l =>
   generalize (fF w i).1=S at *;generalize (fF w i).2=f at *;refine⟨fun j d=>?_,?_,fun q c g=>by simp only at c;omega,Tq _⟩
   ·simp only[List.length_append,List.length_cons,List.length_nil]at d;by_cases e:j<S.length
    ·obtain⟨p,m⟩:=b.s j e;rw[At S _ j e];exact⟨⟨by rw[CH S _ j (by omega)];exact p.a,p.lt,p.e,p.n,p.k⟩,by omega⟩
    ·have e:j=S.length:=(by omega);subst e;rw[vA];have:=b.le;exact⟨⟨by rw[CH S _ _ (Tq _)];exact b.fr,by show f<i+1;omega,l,fun q c g=>b.n q c (by simp only at g;omega),rfl⟩,Tq _⟩
   ·simp only[List.length_append,List.length_cons,List.length_nil];unfold ld;rw[Tr (by omega),UM,vA]
  ·next l =>
   refine⟨fun j d=>?_,b.fr,fun q c g=>?_,by have:=b.le;omega⟩
   ·obtain⟨p,m⟩:=b.s j d;exact⟨p,by omega⟩
   ·by_cases e:q=i
    ·rw[e];simpa using l
    ·exact b.n q c (by omega)
theorem dO:Cw w w.length (aa w) (fF w w.length).2:=Km w w.length
theorem MC(S:List Sm)(j:Nat)(a:∀q,q<j->∃s,S[q]?=some s/\s.z<=d)(b:∀s,S[j]?=some s->¬s.z<=d):oA d S=j:=by
 induction S generalizing j with
 | nil =>
  cases j with
  | zero=>rfl
  | succ j=>obtain⟨s,h,-⟩:=a 0 (by omega);cases h
 | cons s r g =>
  cases j with
  | zero=>rw[oA,Tp (b s rfl)]
  | succ j =>
   obtain⟨k,e,f⟩:=a 0 (by omega);simp at e;subst e;rw[oA,Tr f,g j (fun q i=>by simpa using a (q+1) (by omega)) (fun t c=>b t (by simpa using c))]
section
variable {T:List Tk} {i0 f:Nat} {S:List Sm}
theorem IV(S:List Sm)(j:Nat)(h:j<S.length):S[j]?=some (aq S j):=by
 unfold aq;rw[To,Tn h];rfl
theorem Cw.step(p:Cw T i0 S f)(j:Nat)(h:j+1<S.length):(aq S j).z<(aq S (j+1)).z:=by
 have q:=(p.s (j+1) h).1;have:=q.lt;rw[q.a]at this;unfold ld at this;rw[Tr (by omega),UM]at this;exact this
theorem Cw.mono(p:Cw T i0 S f)(j k:Nat)(h:j<=k)(a:k<S.length):(aq S j).z<=(aq S k).z:=by
 induction k with
 | zero =>
  have:j=0:=by omega
  rw[this];exact Tq _
 | succ k b =>
  by_cases e:j=k+1
  ·rw[e];exact Tq _
  ·have:=b (by omega) (by omega);have:=p.step k a;omega
theorem Cw.cnt(p:Cw T i0 S f)(j:Nat)(h:j<S.length)(i:Nat)(c:(aq S j).a<=i)(d:i<(aq S j).z):jE S i=j:=by
 refine MC i S j (fun q g=>⟨aq S q,IV S q (by omega),?_⟩) (fun s b=>?_)
 ·have e:=(p.s j h).1.a;unfold ld at e;rw[Tr (by omega)]at e;have:=p.mono q (j-1) (by omega) (by omega);omega
 ·rw[IV S j h]at b;cases b;omega
theorem Cw.beg(p:Cw T i0 S f)(j:Nat)(h:j<S.length)(i:Nat)(b:(aq S j).a<=i)(c:i<(aq S j).z):ld S (jE S i)=(aq S j).a:=by
 rw[p.cnt j h i b c];exact((p.s j h).1.a).symm
end
theorem qI{x:Xs}{l:List UInt8}(h:(x.toList==l)=true):x=⟨l.toArray⟩:=by
 have a:x.toList=l:=by simpa using h
 apply Xh;apply Wg.1;rw[<-Uo,a]
theorem lz(h:ce D=true):ij D ⟨#[36]⟩=true/\(D.toList == [36,99])=false/\(D.toList == [36,118])=false/\(D.toList == [36,102])=false:=by
 unfold ce at h;rcases Ul _ _ ▸ h with h | h
 ·rcases Ul _ _ ▸ h with h | h <;> (rw[qI h];decide +kernel)
 ·rw[qI h];decide +kernel
theorem Co(p:Cw o N i t)(j:Nat)(h:j<i.length)(q:Nat)(b:(aq i j).a<=q)(c:q<(aq i j).z):aY o i q =
  if q=(aq i j).a then dE o i (tS o q) j
  else if q<(aq i j).h then(if(aA (tS o q)||aH (tS o q))=true then 0 else 14)
  else mI o i (aq i j).k (tS o q) j (eG o (aq i j).h q):=by
 unfold aY;rw[p.beg j h q b c,p.cnt j h q b c,<-(p.s j h).1.k]
theorem yq{x:Xs}{B:Xt}(a:ce x=true)(h:mI o i D x N B=0):(x.toList == [36,46])=true/\ja D B=0:=by
 unfold mI at h;cases b:(x.toList == [36,46])
 ·rw[Tp (by rw[b];simp)]at h;have d:=(lz a).1;have c:(x.toList == [36,61])=false:=by
   unfold ce at a;rw[b,UN]at a;rcases Ul _ _ ▸ a with e | e <;> (rw[qI e];decide +kernel)
  rw[c,Vs,Tp (by simp),Tr d]at h;cases h
 ·rw[Tr b]at h;exact⟨rfl,h⟩
theorem uE(h:(D.toList == [36,46])=true):nW D=true:=by unfold nW;rw[h];simp
theorem Pb(h:(D.toList == [36,102])=true):dE o i D N=11:=by
 have e:=qI h;have d:((D.toList == [36,123])||((D.toList == [36,118])||(D.toList == [36,100])))=false/\(D.toList == [36,125])=false/\(D.toList == [36,99])=false/\(aA D||aH D)=true:=by rw[e];decide +kernel
 obtain⟨a,b,c,f⟩:=d;unfold dE;rw[a,b,c,f];simp
theorem Nh(h:(aA D||aH D)=true):(D.toList == [36,99])=false/\(D.toList == [36,118])=false/\ce D=false:=by
 unfold aA aH at h;rcases Ul _ _ ▸ h with h | h
 all_goals
  rcases Ul _ _ ▸ h with h | h <;> (rw[qI h];decide +kernel)
theorem EH(p:Cw o o.length i N)(j:Nat)(h:j<i.length)(A:∀q,(aq i j).a<=q->q<(aq i j).z->aY o i q=0) :
  (((aq i j).k.toList == [36,99])=true->dV o (aq i j).h)/\(((aq i j).k.toList == [36,118])=true->dV o (aq i j).h)/\(((aq i j).k.toList == [36,102])=true->(aq i j).h+1<o.length):=by
 have w:=Co p j h;obtain⟨P,E⟩:=p.s j h;generalize aq i j=s at *;obtain⟨a,z,J,k⟩:=s;obtain⟨-,C,l,-,n⟩:=P;simp only at *;have g:=A (z-1) (by omega) (by omega);rw[w (z-1) (by omega) (by omega)]at g;have u:=A a (Tq _) C;rw[w a (Tq _) C,Tr rfl]at u;unfold eu at n;have b:=lz l;by_cases r:(ij (tS o a) ⟨#[36]⟩||decide (o.length<=a+1))=true
 ·rw[Tr r]at n;cases n
  have d:¬(z-1=a)->dV o (a+1):=fun f=>by
   rw[Tp f,Tp (by omega)]at g;have:=yq l g;exact⟨z-1,by omega,by omega,uE this.1⟩
  refine⟨fun c=>d (fun e=>?_),fun c=>d (fun e=>?_),fun c=>?_⟩
  ·rw[e,c]at b;exact absurd b.2.1 (by simp)
  ·rw[e,c]at b;exact absurd b.2.2.1 (by simp)
  ·rw[Pb c]at u;cases u
 ·rw[Tp r]at n;cases n
  have y:ij (tS o a) ⟨#[36]⟩=false:=by
   cases e:ij (tS o a) ⟨#[36]⟩
   ·rfl
   ·rw[e]at r;exact absurd rfl r
  have f:¬(z-1=a):=fun e=>by
   rw[e,y]at b;exact absurd b.1 (by simp)
  have v:=A (a+1) (by omega) (by omega);rw[w (a+1) (by omega) (by omega),Tp (by omega),Tr (by omega)]at v;have x:(aA (tS o (a+1))||aH (tS o (a+1)))=true:=by
   cases e:(aA (tS o (a+1))||aH (tS o (a+1)))
   ·rw[e]at v;cases v
   ·rfl
  obtain⟨F,G,H⟩:=Nh x;refine⟨fun c=>absurd c (by rw[F];simp),fun c=>absurd c (by rw[G];simp),fun c=>?_⟩;have B:¬(z-1=a+1):=fun e=>by rw[e,H]at l;cases l
  rw[Tp f,Tp (by omega)]at g;have m:=(yq l g).2;unfold ja at m;split at m
  ·cases m
  ·split at m
   ·cases m
   ·next I D =>
    have t:¬(eG o (a+2) (z-1)).length<2:=fun t=>D (by rw[c];simp[t]);unfold eG at t;rw[TT,UJ,Ux]at t;omega
theorem QG(g:w.length<=100000):RU w (aa w):=by
 intro i l b;have p:=dO w;have m:(aa w).length<=w.length:=pK w w.length;have k:jE (aa w) i<=(aa w).length:=QX i (aa w);generalize aa w=S at *;have f:∀j,j<jE S i->(aq S j).z<=i:=fun j a=>by
  obtain⟨s,d,e⟩:=CP i S j a;rw[IV S j (by omega)]at d;cases d;exact e
 have c:=fun j (a:j<jE S i)=>EH p j (by omega) (fun q _ e=>b q (by have:=f j a;omega));refine⟨⟨k,by omega,g,fun j a=>(c j a).1,fun j a=>(c j a).2.1,fun j a=>?_⟩,fun j a=>(c j a).2.2⟩;have:=(p.s j (by omega)).1.lt;have:=f j a;omega
end Go.Proofs.YtnbhnocdhbcbcaaGreat
