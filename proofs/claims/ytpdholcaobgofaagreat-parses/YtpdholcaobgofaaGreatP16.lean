import Derived.Deep.CutRange
import Derived.Test.YtpdholcaobgofaaGreatP15
namespace Go.Proofs.YtpdholcaobgofaaGreat
open Go.RowKit Tryz
open Value IntKind Ending
set_option maxHeartbeats 0
variable{o:List Tk}{i:List Sm}{D:Xr}{N t:Nat}{m:World}{c:Hd}(L n:Nat)(H:Xr)(y:Nat)(w:List Tk)(g:Xt)(I:Nat)(b:List Sm)(M:Xt)(s:Sm)(d:Nat)(a:World)
structure jF(T:List Tk)(S:List Sm)(n:Nat):Prop where
 m:n<=S.length
 s:S.length<=100000
 t:T.length<=100000
 c:zi T S n [36,99]
 v:zi T S n [36,118]
 a:∀j,j<n->(ay S j).a<T.length
def li(T:List Tk)(S:List Sm)(x:Xr)(n:Nat):Bool:=decide (0<=bU T S x n)||(fG T S x n||kR T S ⟨#[36,118]⟩ x n false)
set_option maxRecDepth 100000
theorem Bw(q:gM a L w g I b M d)(f:jF w b n) :
  Calls prog 169 #[pointer (some ⟨L,0,none⟩),string H,int i64 n] a fun e p=>e=returned (bool (li w b H n))/\aa [] a p:=by
 have C:Xq _:=rA L n H w g I b M d a q f.m f.s f.a;have r:Xq (∀i,aa [] a i->Calls prog 171 #[pointer (some ⟨L,0,none⟩),string H,int i64 n] i fun e p=>e=returned (bool (fG w b H n))/\aa [] i p):=fun i k=>xn L n H w g I b M d i (q.Zbj k) f.m f.s f.t f.c;have u:Xq (∀i,aa [] a i->Calls prog 211 #[pointer (some ⟨L,0,none⟩),string ⟨#[36,118]⟩,string H,int i64 n,bool false] i fun e p=>e=returned (bool (kR w b ⟨#[36,118]⟩ H n false))/\aa [] i p):=fun i k=>rj L n ⟨#[36,118]⟩ H false w g I b M d i (q.Zbj k) f.m f.s f.t (by rw[qH.2];exact f.v);have y:Xq (li w b H n=(decide (0<=bU w b H n)||(fG w b H n||kR w b ⟨#[36,118]⟩ H n false))):=rfl;generalize li w b H n=R at *;generalize bU w b H n=l at *;generalize fG w b H n=c at *;generalize kR w b ⟨#[36,118]⟩ H n false=v at *;clear q;go_enter func169,ntmps169;go_upto_region 2 with (go_at_call 170;refine Xx C.o ?_;rintro e E ⟨rfl,z⟩)
 have r:Xq _:=r.o E z;go_upto_region 3 with (go_at_call 171;refine Xx r.o ?_;rintro e F ⟨rfl,B⟩)
 have u:Xq _:=u.o F (z.trans B);go_upto_region 4 with (go_at_call 211;refine Xx u.o ?_;rintro e G ⟨rfl,D⟩)
 have x:Xq _:=(z.trans B).trans D;by_cases A:0<=l
 ·have j:Xq (R=true):=by show _=_;rw[y.o];simp[A]
  go_wp2;go_ret;exact⟨aH j.o.symm,x.o⟩
 ·cases c
  ·have j:Xq (R=v):=(by show _=_;rw[y.o];simp[A]);go_wp2;go_ret;exact⟨aH j.o.symm,x.o⟩
  ·have j:Xq (R=true):=(by show _=_;rw[y.o];simp);go_wp2;go_ret;exact⟨aH j.o.symm,x.o⟩
def lJ(T:List Tk)(S:List Sm)(x:Xr)(n:Nat)(con:Bool)(before:Xs):Int :=
 if aN before x=true then 13 else if(con&&li T S x n)=true then 13 else if(!con&&(decide (0<=bU T S x n)||(fG T S x n||mH T S x n)))=true then 13 else 0
theorem OC(f:Bool)(b:Xs)(u:Xt)(M:Nat)(T:List Tk)(p:Xt)(z:Nat)(S:List Sm)(j:Xt)(y:Nat)(w:World)(A:gM w L T p z S j y)(i:jF T S n)(Q:iB w u b)(U:b.length<=1000000) :
  Calls prog 124 #[pointer (some ⟨L,0,none⟩),string H,int i64 n,bool f,slice u b.length M] w fun e x=>e=returned (int i64 (lJ T S H n f b))/\aa [] w x:=by
 have J:Xq _:=(kH b u M H w Q (by omega));have K:Xq _:=Bw L n H T p z S j y w A i;have D:Xq (∀d,aa [] w d->Calls prog 170 #[pointer (some ⟨L,0,none⟩),string H,int i64 n] d fun e x=>e=returned (int i64 (bU T S H n))/\aa [] d x):=fun d k=>rA L n H T p z S j y d (A.Zbj k) i.m i.s i.a;have E:Xq (∀d,aa [] w d->Calls prog 171 #[pointer (some ⟨L,0,none⟩),string H,int i64 n] d fun e x=>e=returned (bool (fG T S H n))/\aa [] d x):=fun d k=>xn L n H T p z S j y d (A.Zbj k) i.m i.s i.t i.c;have F:Xq (∀d,aa [] w d->Calls prog 172 #[pointer (some ⟨L,0,none⟩),string H,int i64 n] d fun e x=>e=returned (bool (mH T S H n))/\aa [] d x):=fun d k=>Fj L n H T p z S j y d (A.Zbj k) i.m i.s i.t i.v;have r:Xq (lJ T S H n f b=if aN b H=true then 13 else if(f&&li T S H n)=true then 13 else if(!f&&(decide (0<=bU T S H n)||(fG T S H n||mH T S H n)))=true then 13 else 0):=rfl;generalize lJ T S H n f b=R at *;generalize aN b H=P at *;generalize li T S H n=V at *;generalize bU T S H n=l at *;generalize fG T S H n=c at *;generalize mH T S H n=v at *;clear A;go_enter func124,ntmps124;go_upto_region 2 with (go_at_call 92;refine Xx J.o ?_;rintro e w9 ⟨rfl,B⟩;rw[B];clear B)
 go_upto_region 3 with (go_at_call 169;refine Xx K.o ?_;rintro e W ⟨rfl,C⟩)
 have D:Xq _:=D.o W C;go_upto_region 4 with (go_at_call 170;refine Xx D.o ?_;rintro e X ⟨rfl,G⟩)
 have E:Xq _:=E.o X (C.trans G);go_upto_region 5 with (go_at_call 171;refine Xx E.o ?_;rintro e Y ⟨rfl,I⟩)
 have F:Xq _:=F.o Y ((C.trans G).trans I);go_upto_region 6 with (go_at_call 172;refine Xx F.o ?_;rintro e Z ⟨rfl,O⟩)
 have q:Xq _:=((C.trans G).trans I).trans O;clear J K D E F C G I O;cases P
 ·cases f
  ·by_cases N:0<=l
   ·have g:Xq (R=13):=(by show _=_;rw[r.o];simp[N]);go_wp2;go_ret;exact⟨au g.o.symm,q.o⟩
   ·cases c
    ·cases v
     ·have g:Xq (R=0):=(by show _=_;rw[r.o];simp[N]);go_wp2;go_ret;exact⟨au g.o.symm,q.o⟩
     ·have g:Xq (R=13):=(by show _=_;rw[r.o];simp);go_wp2;go_ret;exact⟨au g.o.symm,q.o⟩
    ·have g:Xq (R=13):=(by show _=_;rw[r.o];simp);go_wp2;go_ret;exact⟨au g.o.symm,q.o⟩
  ·cases V
   ·have g:Xq (R=0):=(by show _=_;rw[r.o];simp);go_wp2;go_ret;exact⟨au g.o.symm,q.o⟩
   ·have g:Xq (R=13):=(by show _=_;rw[r.o];simp);go_wp2;go_ret;exact⟨au g.o.symm,q.o⟩
 ·have g:Xq (R=13):=by show _=_;rw[r.o];simp
  go_wp2;go_ret;exact⟨au g.o.symm,q.o⟩
def jJ(key:Xr)(before:Xs):Int :=
 if before.length=0 then 15 else if(((key.toList == [36,100])||(key.toList == [36,102]))&&decide (before.length<2))=true then 15 else if((key.toList == [36,112]) && !(aN before ⟨#[36,61]⟩))=true then 23 else 0
theorem F0(a:Xs)(c:Xt)(p:Nat)(w:World)(q:iB w c a)(t:a.length<=1000000) :
  Calls prog 123 #[string H,slice c a.length p] w fun e v=>e=returned (int i64 (jJ H a))/\v=w:=by
 have m:Xq _:=(kH a c p ⟨#[36,61]⟩ w q (by omega));have d:Xq (jJ H a=if a.length=0 then 15 else if(((H.toList == [36,100])||(H.toList == [36,102]))&&decide (a.length<2))=true then 15 else if((H.toList == [36,112]) && !(aN a ⟨#[36,61]⟩))=true then 23 else 0):=rfl;generalize jJ H a=R at *;generalize aN a ⟨#[36,61]⟩=r at *;generalize a.length=n at *;clear q;by_cases f:n=0
 ·have s:Xq (R=15):=by show _=_;rw[d.o,XA f]
  subst f;go_enter func123,ntmps123;go_wp2_with (go_at_call 92;refine Xx m.o ?_;rintro e x ⟨rfl,b⟩;rw[b];clear b);go_ret;exact⟨au s.o.symm,rfl⟩
 ·rw[Xz f]at d;have u:((n:Int)==0)=false:=by simpa using f
  go_enter func123,ntmps123;go_upto_region 3 with (go_at_call 92;refine Xx m.o ?_;rintro e x ⟨rfl,b⟩;rw[b];clear b)
  rcases kn n 2 with ⟨g,i⟩ | ⟨g,i⟩
  ·cases j:(H.toList == [36,100]) <;> cases k:(H.toList == [36,102]) <;> cases l:(H.toList == [36,112]) <;> cases r
   all_goals
    go_wp2;go_ret;exact⟨au (by rw[d.o];simp[g,j,k,l]),rfl⟩
  ·cases j:(H.toList == [36,100]) <;> cases k:(H.toList == [36,102]) <;> cases l:(H.toList == [36,112]) <;> cases r
   all_goals
    go_wp2;go_ret;exact⟨au (by rw[d.o];simp[g,j,k,l]),rfl⟩
theorem EG(O:H.size<=1073741824) :
  Calls prog 168 #[string H] a fun e L=>e=returned (bool (ja H))/\L=a:=by
 go_enter func168,ntmps168;go_wp2
 go_loopg [3] H.size (fun g i wr=>∃k:Nat,k<=H.size/\g=H.size-k/\i=int i64 k/\Xq (∀i,i<k->ld (aL H i)=true)/\wr=a)
 ·exact⟨0,by omega,by omega,rfl,fun i h=>by omega,rfl⟩
 obtain⟨k,N,M,rfl,d,rfl⟩:=hrel;by_cases n:k<H.size
 ·have q:Xq (ld (H[k].toNat:Int)=false->ja H=false):=fun v=>JC k n (by rw[cw H k n];exact v);have r:Xq (ld (H[k].toNat:Int)=true->∀i,i<k+1->ld (aL H i)=true):=fun v i E=>by
   by_cases e:i=k
   ·subst e;rw[cw H i n];exact v
   ·exact d.o i (by omega)
  have F:(k:Int)<(H.size:Int):=by omega
  go_upto_region 5 with fail
  obtain⟨c,B⟩:∃c:Int,(H[k].toNat:Int)=c:=⟨_,rfl⟩
  have D:Xq _:=B;clear B;rw[D.o]at q r ⊢
  go_cut [5] from 18 to 23 (fun G p=>G=bool (decide (97<=c)&&decide (c<=122))/\p=wr)
  case first =>
   by_cases s:97<=c
   ·by_cases t:c<=122
    all_goals
     go_wp2_with fail;go_meet
     case rel=>exact⟨by simp;omega,rfl⟩
   ·go_wp2_with fail;go_meet
    case rel=>exact⟨by simp;omega,rfl⟩
  case rest =>
   obtain⟨rfl,b⟩:=hcut;subst b;obtain⟨x,f⟩:=aP ((decide (97<=c)&&decide (c<=122)));rw[f.o];go_upto_region 6 with fail
   go_cut [6] from 24 to 29 (fun I p=>I=bool (decide (65<=c)&&decide (c<=90))/\p=wc)
   case first =>
    by_cases s:65<=c
    ·by_cases t:c<=90
     all_goals
      go_wp2_with fail;go_meet
      case rel=>exact⟨by simp;omega,rfl⟩
    ·go_wp2_with fail;go_meet
     case rel=>exact⟨by simp;omega,rfl⟩
   case rest =>
    obtain⟨rfl,b⟩:=hcut;subst b;obtain⟨y,j⟩:=aP ((decide (65<=c)&&decide (c<=90)));rw[j.o];go_upto_region 7 with fail
    go_cut [7] from 30 to 35 (fun J p=>J=bool (decide (48<=c)&&decide (c<=57))/\p=wc)
    case first =>
     by_cases s:48<=c
     ·by_cases t:c<=57
      all_goals
       go_wp2_with fail;go_meet
       case rel=>exact⟨by simp;omega,rfl⟩
     ·go_wp2_with fail;go_meet
      case rel=>exact⟨by simp;omega,rfl⟩
    case rest =>
     obtain⟨rfl,b⟩:=hcut;subst b;obtain⟨z,l⟩:=aP ((decide (48<=c)&&decide (c<=57)));rw[l.o];go_upto_region 8 with fail
     go_cut [8] from 36 to 45 (fun K p=>K=bool ((c==45)||(c==95)||(c==46))/\p=wc)
     case first =>
      cases s:(c==45)
      ·cases t:(c==95)
       all_goals
        go_wp2_with fail;go_meet
        case rel=>exact⟨by rw[s,t];simp,rfl⟩
      ·go_wp2_with fail;go_meet
       case rel=>exact⟨by rw[s];simp,rfl⟩
     case rest =>
      obtain⟨rfl,b⟩:=hcut;subst b;obtain⟨A,m⟩:=aP (((c==45)||(c==95)||(c==46)));rw[m.o];have w:Xq (ld c=(x||(y||(z||A)))):=cm (by rw[<-f.o,<-j.o,<-l.o,<-m.o];unfold ld;simp only[Bool.or_assoc]);clear f j l m;cases x <;> cases y <;> cases z <;> cases A
      ·have u:Xq _:=q.o (by rw[w.o];rfl);go_wp2;go_ret;exact⟨aH u.o.symm,rfl⟩
      all_goals
       have u:Xq _:=(r.o (by rw[w.o];rfl));go_wp2;go_roundg (H.size-(k+1))
       ·exact⟨k+1,by omega,rfl,by go_num,u,rfl⟩
       omega
 ·have C:Xq (ja H=true):=DW (fun i E=>d.o i (by omega));go_wp2;go_ret;exact⟨aH C.o.symm,rfl⟩
def eu(T:List Tk)(S:List Sm)(x:Xr)(n:Nat):Int :=
 if((x.toList == [36,123])||((x.toList == [36,118])||(x.toList == [36,100])))=true then 0
 else if((x.toList == [36,125])&&(bD S n==0))=true then 9
 else if(x.toList == [36,125])=true then 0
 else if((x.toList == [36,99])&&decide (0<bD S n))=true then 10
 else if(x.toList == [36,99])=true then 0
 else if(aG x||aK x)=true then 11
 else if jC x ⟨#[36]⟩=true then 8
 else if ja x=false then 12
 else if li T S x n=true then 13 else 0
theorem JX(u:gM a L w g I b M d)(v:jF w b n)(D:H.size<=1073741824) :
  Calls prog 120 #[pointer (some ⟨L,0,none⟩),string H,int i64 n] a fun e F=>e=returned (int i64 (eu w b H n))/\aa [] a F:=by
 have x:Xq _:=JQ L n w g I b M d a u v.m v.s;have y:Xq _:=Bw L n H w g I b M d a u v
 have j:Xq (eu w b H n=if((H.toList == [36,123])||((H.toList == [36,118])||(H.toList == [36,100])))=true then 0
  else if((H.toList == [36,125])&&(bD b n==0))=true then 9
  else if(H.toList == [36,125])=true then 0
  else if((H.toList == [36,99])&&decide (0<bD b n))=true then 10
  else if(H.toList == [36,99])=true then 0
  else if(aG H||aK H)=true then 11
  else if jC H ⟨#[36]⟩=true then 8
  else if ja H=false then 12
  else if li w b H n=true then 13 else 0):=rfl
 generalize eu w b H n=R at *;generalize bD b n=z at *;generalize li w b H n=E at *;clear u;go_enter func120,ntmps120;go_upto_region 5 with (first | (go_at_call 167;refine Xx x.o ?_;rintro e t ⟨rfl,c⟩;rw[c];clear c) | (go_at_call 119;refine(gQ H _ _ (by omega) (by show 1<=_;omega)).mono ?_;rintro e t ⟨rfl,c⟩;rw[c];clear c) | (go_at_call 168;refine(EG H _ D).mono ?_;rintro e t ⟨rfl,c⟩;rw[c];clear c) | (go_at_call 169;refine Xx y.o ?_;rintro e O ⟨rfl,C⟩))
 go_upto_region 7 with (first | (go_at_call 121;refine(im H _).mono ?_;rintro e t ⟨rfl,c⟩;rw[c];clear c) | (go_at_call 122;refine(nI H _).mono ?_;rintro e t ⟨rfl,c⟩;rw[c];clear c))
 have i:Xq _:=C;generalize aG H=G at *;generalize aK H=N at *;generalize jC H ⟨#[36]⟩=J at *;generalize ja H=K at *;clear x y C;cases k:(H.toList == [36,123])
 ·cases l:(H.toList == [36,118])
  ·cases p:(H.toList == [36,100])
   ·cases q:(H.toList == [36,125])
    ·cases r:(H.toList == [36,99])
     ·cases G
      ·cases N
       ·cases J
        ·cases K
         ·have f:Xq (R=12):=(by show _=_;rw[j.o];simp[k,l,p,q,r]);go_wp2;go_ret;exact⟨au f.o.symm,i.o⟩
         ·cases E
          ·have f:Xq (R=0):=(by show _=_;rw[j.o];simp[k,l,p,q,r]);go_wp2;go_ret;exact⟨au f.o.symm,i.o⟩
          ·have f:Xq (R=13):=(by show _=_;rw[j.o];simp[k,l,p,q,r]);go_wp2;go_ret;exact⟨au f.o.symm,i.o⟩
        ·have f:Xq (R=8):=(by show _=_;rw[j.o];simp[k,l,p,q,r]);go_wp2;go_ret;exact⟨au f.o.symm,i.o⟩
       ·have f:Xq (R=11):=(by show _=_;rw[j.o];simp[k,l,p,q,r]);go_wp2;go_ret;exact⟨au f.o.symm,i.o⟩
      ·have f:Xq (R=11):=(by show _=_;rw[j.o];simp[k,l,p,q,r]);go_wp2;go_ret;exact⟨au f.o.symm,i.o⟩
     ·by_cases A:0<z
      ·have f:Xq (R=10):=(by show _=_;rw[j.o];simp[k,l,p,q,r,A]);go_wp2;go_ret;exact⟨au f.o.symm,i.o⟩
      ·have f:Xq (R=0):=(by show _=_;rw[j.o];simp[k,l,p,q,r,A]);go_wp2;go_ret;exact⟨au f.o.symm,i.o⟩
    ·cases B:(z==0)
     ·have f:Xq (R=0):=(by show _=_;rw[j.o];simp[k,l,p,q,B]);go_wp2;go_ret;exact⟨au f.o.symm,i.o⟩
     ·have f:Xq (R=9):=(by show _=_;rw[j.o];simp[k,l,p,q,B]);go_wp2;go_ret;exact⟨au f.o.symm,i.o⟩
   ·have f:Xq (R=0):=(by show _=_;rw[j.o];simp[k,l,p]);go_wp2;go_ret;exact⟨au f.o.symm,i.o⟩
  ·have f:Xq (R=0):=(by show _=_;rw[j.o];simp[k,l]);go_wp2;go_ret;exact⟨au f.o.symm,i.o⟩
 ·have f:Xq (R=0):=by show _=_;rw[j.o];simp[k]
  go_wp2;go_ret;exact⟨au f.o.symm,i.o⟩
def xy(T:List Tk)(S:List Sm)(v:Xr)(n j:Nat):Bool:=((ay S j).k.toList == [36,102])&&(((tS T ((ay S j).h+1)).toList==v.toList)&&bn S j n)
def iD(T:List Tk)(S:List Sm)(v:Xr)(n:Nat):Int:=match (List.range n).find? (xy T S v n) with
 | some j=>j
 | none=>-1
theorem N4(c:t<N)(h:xy o i D N t=true)(a:∀j,j<t->xy o i D N j=false):iD o i D N=t:=by
 have e:(List.range N).find? (xy o i D N)=some t:=by
  rw[Y3];exact⟨h,XI.2 c,fun j b=>by rw[a j b];rfl⟩
 unfold iD;rw[e]
theorem Rq(a:∀j,j<N->xy o i D N j=false):iD o i D N=-1:=by
 have e:(List.range N).find? (xy o i D N)=none:=by
  rw[YD];intro j b;rw[a j (XI.1 b)];simp
 unfold iD;rw[e]
theorem N1(Q:gM a L w g I b M d)(J:jF w b n)(X:∀j,j<n->((ay b j).k.toList == [36,102])=true->(ay b j).h+1<w.length) :
  Calls prog 173 #[pointer (some ⟨L,0,none⟩),string H,int i64 n] a fun e N=>e=returned (int i64 (iD w b H n))/\aa [] a N:=by
 have O:Xq _:=Q;have hn:=J.m;have W:=J.s;have hT:=J.t;clear Q;go_enter func173,ntmps173;go_wp2
 go_loopg [7] n (fun U i wr=>∃k:Nat,k<=n/\U=n-k/\i=int i64 k/\Xq (∀j,j<k->xy w b H n j=false)/\Xq (aa [] a wr))
 ·exact⟨0,by omega,rfl,rfl,(fun j hj=>by omega),aa.refl _ _⟩
 obtain⟨k,hk,hg,rfl,A,z⟩:=hrel;by_cases C:k<n
 ·have u:k<b.length:=by omega
  have q:Xq _:=gM.Zbj O.o z.o;obtain⟨c0,c1,hb⟩:=q.o.cells;obtain⟨gs,rfl,Z,-,-,q2,q3⟩:=q.o.s.2 k b[k] (Xv u);have ad:(k:Int)<(n:Int):=by omega
  have R:(k:Int)<b.length:=by omega
  have r:Xq (xy w b H n k=((b[k].k.toList == [36,102])&&(((tS w (b[k].h+1)).toList==H.toList)&&bn b k n))):=cm (by unfold xy;rw[bA b k u]);have P:Xq ((b[k].k.toList == [36,102])=true->b[k].h+1<w.length):=by have:=X k C;rw[<-bA b k u]at this;exact this
  have x:Xq (∀D,aa [] a D->Calls prog 91 #[pointer (some ⟨L,0,none⟩),int i64 k,int i64 n] D fun e N=>e=returned (bool (bn b k n))/\N=D):=fun D kx=>mR L k n w g I b _ d D (gM.Zbj O.o kx) (by omega) hn W;generalize b[k]=s at *;obtain⟨sa,sz,l,sk⟩:=s;simp only at q2 q3 r P;obtain⟨T,E⟩:=aP (bn b k n);rw[E.o]at r x;cases B:(sk.toList == [36,102])
  ·have p:Xq _:=fm A.o (by rw[r.o,B];rfl);(go_upto_region 4 with fail);go_region
   all_goals
    have c:Xq _:=z.o.drew;go_wp2;go_roundg (n-(k+1))
    ·exact⟨k+1,by omega,rfl,by go_num,p,c⟩
    omega
  ·have G:=P.o B;obtain⟨V,rfl,Y,K,-⟩:=q.o.t.2 (l+1) _ (jN w (l+1) G);replace K:wr.cell? ⟨V,(l+1)*5,none⟩=some (string (tS w (l+1))):=K;obtain⟨y,S⟩:=aP (tS w (l+1));rw[S.o]at K r;have ag:(l:Int)+1<w.length:=(by omega);have al:IntKind.i64.wrap ((l:Int)+1)=(l:Int)+1:=(by rw[YS];omega);have ai:((l:Int)+1).toNat=l+1:=(by omega);have af:(0:Int)<=(l:Int)+1:=(by omega);cases F:(y.toList==H.toList)
   ·have p:Xq _:=fm A.o (by rw[r.o,B,F];rfl);(go_upto_region 4 with fail);go_region
    all_goals
     have c:Xq _:=z.o.drew;go_wp2;go_roundg (n-(k+1))
     ·exact⟨k+1,by omega,rfl,by go_num,p,c⟩
     omega
   ·(go_upto_region 4 with fail);go_region
    all_goals
     have c:Xq _:=z.o.drew;have v:Xq _:=x.o wr.drew c.o
    cases T
    ·have p:Xq _:=fm A.o (by rw[r.o,B,F];rfl);go_wp2_with (go_at_call 91;refine Xx v.o ?_;rintro e w9 ⟨rfl,f⟩;rw[f];clear f);go_roundg (n-(k+1))
     ·exact⟨k+1,by omega,rfl,by go_num,p,c⟩
     omega
    ·have p:Xq (iD w b H n=k):=N4 C (by rw[r.o,B,F];rfl) A.o;go_wp2_with (go_at_call 91;refine Xx v.o ?_;rintro e w9 ⟨rfl,f⟩;rw[f];clear f);go_ret;exact⟨au p.o.symm,c.o⟩
 ·have p:Xq (iD w b H n=-1):=Rq (fun j hj=>A.o j (by omega));go_wp2;go_ret;exact⟨au p.o.symm,z.o⟩
def oi(T:List Tk)(S:List Sm)(n:Nat):Prop:=∀j,j<n->((ay S j).k.toList == [36,102])=true->(ay S j).h+1<T.length
def kO(T:List Tk)(S:List Sm)(key x:Xr)(n:Nat)(before:Xs):Int :=
 if(key.toList == [36,100])=true then(if mH T S x n=false then 18 else if aN before x=true then 19 else 0)
 else if(before.length==0)=true then(if fG T S x n=false then 17 else 0)
 else if(key.toList == [36,102])=true then(if 1<before.length then 16 else if mH T S x n=false then 18 else if 0<=iD T S x n then 20 else 0)
 else if fG T S x n=true then 0 else if mH T S x n=false then 21 else if iD T S x n<0 then 22 else 0
theorem Lq(x:Xr)(a:Xs)(u:Xt)(U:Nat)(T:List Tk)(A:Xt)(N:Nat)(S:List Sm)(z:Xt)(M:Nat)(w:World)(P:gM w L T A N S z M)(B:jF T S n)(hf:oi T S n)(Z:iB w u a)(ac:a.length<=1000000) :
  Calls prog 125 #[pointer (some ⟨L,0,none⟩),string H,string x,int i64 n,slice u a.length U] w fun e E=>e=returned (int i64 (kO T S H x n a))/\aa [] w E:=by
 have Y:Xq _:=xn L n x T A N S z M w P B.m B.s B.t B.c;have I:Xq (∀f,aa [] w f->Calls prog 172 #[pointer (some ⟨L,0,none⟩),string x,int i64 n] f fun e E=>e=returned (bool (mH T S x n))/\aa [] f E):=fun f k=>Fj L n x T A N S z M f (P.Zbj k) B.m B.s B.t B.v;have J:Xq (∀f,aa [] w f->Calls prog 173 #[pointer (some ⟨L,0,none⟩),string x,int i64 n] f fun e E=>e=returned (int i64 (iD T S x n))/\aa [] f E):=fun f k=>N1 L n x T A N S z M f (P.Zbj k) B hf
 have K:Xq (∀f,aa [] w f->Calls prog 92 #[slice u a.length U,string x] f fun e E=>e=returned (bool (aN a x))/\E=f):=fun f k=>kH a u U x f (fun i y hy=>by
  obtain⟨g,e,hg,c⟩:=Z i y hy;exact⟨g,e,XB hg k.size,by rw[XJ (k.block g hg (by simp))];exact c⟩) (by omega)
 have l:Xq (kO T S H x n a=if(H.toList == [36,100])=true then(if mH T S x n=false then 18 else if aN a x=true then 19 else 0)
  else if(a.length==0)=true then(if fG T S x n=false then 17 else 0)
  else if(H.toList == [36,102])=true then(if 1<a.length then 16 else if mH T S x n=false then 18 else if 0<=iD T S x n then 20 else 0)
  else if fG T S x n=true then 0 else if mH T S x n=false then 21 else if iD T S x n<0 then 22 else 0):=rfl
 generalize kO T S H x n a=R at *;generalize aN a x=ag at *;generalize iD T S x n=F at *;generalize fG T S x n=c at *;generalize mH T S x n=v at *;generalize a.length=p at *;clear P Z;go_enter func125,ntmps125;go_upto_region 3 with (go_at_call 171;refine Xx Y.o ?_;rintro e w3 ⟨rfl,Q⟩)
 have I:Xq _:=I.o w3 Q;go_upto_region 4 with (go_at_call 172;refine Xx I.o ?_;rintro e w4 ⟨rfl,X⟩)
 have J:Xq _:=J.o w4 (Q.trans X);go_upto_region 5 with (go_at_call 173;refine Xx J.o ?_;rintro e w5 ⟨rfl,k5⟩)
 have j:Xq _:=(Q.trans X).trans k5;have K:Xq _:=K.o w5 j.o;go_upto_region 6 with (go_at_call 92;refine Xx K.o ?_;rintro e w9 ⟨rfl,G⟩;rw[G];clear G)
 clear Y I J K Q X k5;cases q:(H.toList == [36,100])
 ·by_cases r:p=0
  ·have W:((p:Int)==0)=true:=(by simpa using r);cases c
   ·have b:Xq (R=17):=(by show _=_;rw[l.o];simp[q,r]);go_wp2;go_ret;exact⟨au b.o.symm,j.o⟩
   ·have b:Xq (R=0):=(by show _=_;rw[l.o];simp[q,r]);go_wp2;go_ret;exact⟨au b.o.symm,j.o⟩
  ·have W:((p:Int)==0)=false:=(by simpa using r);cases C:(H.toList == [36,102])
   ·cases c
    ·cases v
     ·have b:Xq (R=21):=(by show _=_;rw[l.o];simp[q,r,C]);go_wp2;go_ret;exact⟨au b.o.symm,j.o⟩
     ·by_cases d:F<0
      ·have D:F<0:=d;have b:Xq (R=22):=cm (by rw[l.o];simp[q,r,C,d]);go_wp2;go_ret;exact⟨au b.o.symm,j.o⟩
      ·have D:¬F<0:=d;have b:Xq (R=0):=cm (by rw[l.o];simp[q,r,C,d]);go_wp2;go_ret;exact⟨au b.o.symm,j.o⟩
    ·have b:Xq (R=0):=(by show _=_;rw[l.o];simp[q,r,C]);go_wp2;go_ret;exact⟨au b.o.symm,j.o⟩
   ·by_cases O:1<p
    ·have V:(1:Int)<(p:Int):=(by omega);have b:Xq (R=16):=cm (by rw[l.o];simp[q,r,C,O]);go_wp2;go_ret;exact⟨au b.o.symm,j.o⟩
    ·have V:¬(1:Int)<(p:Int):=(by omega);cases v
     ·have b:Xq (R=18):=(by show _=_;rw[l.o];simp[q,r,C,O]);go_wp2;go_ret;exact⟨au b.o.symm,j.o⟩
     ·by_cases d:0<=F
      ·have D:0<=F:=d;have b:Xq (R=20):=cm (by rw[l.o];simp[q,r,C,O,d]);go_wp2;go_ret;exact⟨au b.o.symm,j.o⟩
      ·have D:¬0<=F:=d;have b:Xq (R=0):=cm (by rw[l.o];simp[q,r,C,O,d]);go_wp2;go_ret;exact⟨au b.o.symm,j.o⟩
 ·cases v
  ·have b:Xq (R=18):=(by show _=_;rw[l.o];simp[q]);go_wp2;go_ret;exact⟨au b.o.symm,j.o⟩
  ·cases ag
   ·have b:Xq (R=0):=(by show _=_;rw[l.o];simp[q]);go_wp2;go_ret;exact⟨au b.o.symm,j.o⟩
   ·have b:Xq (R=19):=(by show _=_;rw[l.o];simp[q]);go_wp2;go_ret;exact⟨au b.o.symm,j.o⟩
def Lh(s:Sm):List Value:=[int i64 s.a,int i64 s.z,int i64 s.h,string s.k]
def smC(L:List Sm):List Value:=L.flatMap Lh
def wO(L:List Sm):eD:=⟨145,4,L.length,smC L⟩
theorem zbd(L:List Sm)(j:Nat)(t:Sm)(h:L[j]?=some t)(c:Nat)(d:c<4):(smC L)[j*4+c]?=(Lh t)[c]?:=by
 induction L generalizing j with
 | nil=>cases h
 | cons a L b =>
  have e:smC (a :: L)=Lh a++smC L:=rfl;cases j with
  | zero =>
   simp at h;subst h;rw[e,XP (by simp[Lh];omega)];simp
  | succ j =>
   rw[e,XO (by simp[Lh];omega),show(j+1)*4+c-(Lh a).length=j*4+c by simp[Lh];omega];exact b j (by simpa using h)
theorem Pm:(⟨(wO b).e,(wO b).size,(wO b).n+1,(wO b).xs++Lh s⟩:eD)=wO (b++[s]):=by
 simp[wO,smC]
theorem aD.srcS(o:aD m c (wO i)):FH m c.ao c.cap i:=by
 refine⟨?_,fun k t f=>?_⟩
 ·rcases o.Zbu with ⟨e,d,_⟩ | ⟨g,j,r,s,l,-⟩
  ·have d:i.length=0:=d;omega
  ·exact l
 ·have v:=(XL.1 f).1;obtain⟨g,b,p,-⟩:=t9 o (show 0<i.length by omega);have e:∀a,a<4->∀u,(Lh t)[a]?=some u->m.cell? ⟨g,k*4+a,none⟩=some u:=fun a n u q=>o.cell b (k*4+a) u (by show(smC i)[k*4+a]?=some u;rw[zbd i k t f a n];exact q);exact⟨g,b,p,e 0 (by omega) _ rfl,e 1 (by omega) _ rfl,e 2 (by omega) _ rfl,e 3 (by omega) _ rfl⟩
theorem zaF:(prog.info? 145).map (fun i=>(i.zero,i.size,i.bytes))=some (some (agg #[int i64 0,int i64 0,int i64 0,string ⟨#[]⟩]),4,40):=by kernel_rfl
theorem yi{g:Array Oper}{b:List Oper}{o:Oper}{i:Act}{Q:Exit->Act->World->Prop}(A:o.guard=none)(s x:Operand)(m:o.op=Op.call { callee:=Callee.builtin Builtin.append,args:=#[s,x],argTypes:=#[139,139] })(h:Hd)(L:List Sm)(t:Sm)(E:i.eval s=slice h.ao L.length h.cap)(e:aD a h (wO L))(I:L.length<=1000000)(F:i.eval x=slice (some ⟨a.heap.size,0,none⟩) 1 1)(z:∀k r,aD r k (wO (L++[t]))->bL a r h k->wpList prog g Q b (i.put o.dst (slice k.ao (L.length+1) k.cap)) r) :
  wpList prog g Q (o :: b) i (a.alloc (.cells (Lh t).toArray 145)):=by
 obtain⟨G,B,n,p,q⟩:=XV zaF;have w:aa [] a (a.alloc (.cells (Lh t).toArray 145)):=bH.alloc _;have D:(a.alloc (.cells (Lh t).toArray 145)).heap[a.heap.size]?=some (.cells (Lh t).toArray 145):=XD _ _;refine aR _ A s x 139 m G (agg #[int i64 0,int i64 0,int i64 0,string ⟨#[]⟩]) 40 h (wO L) underlying139 B n p q rfl (show 0<4 by omega) E (e.Zbj w) ⟨a.heap.size,0,none⟩ 1 1 (Lh t) F rfl ?_ ?_ XR (by simp only[wO];unfold maxLen;omega) (by simp only[wO];omega) ?_
 ·intro j u C;rw[bE,ab D];simpa using C
 ·intro u v;simp only[Lh,List.mem_cons,List.not_mem_nil,or_false]at v;rcases v with rfl | rfl | rfl | rfl <;> rfl
 ·intro y c H f d l;rw[Pm]at f;exact z ⟨some ⟨y,0,none⟩,c⟩ H f ((bL.Zbj w).trans (bL.made d l))
def fR(T:List Tk):Nat->List Sm×Nat
 | 0=>([],0)
 | i+1=>if cD (tS T i)=true then((fR T i).1++[⟨(fR T i).2,i+1,(eQ T (fR T i).2).2,(eQ T (fR T i).2).1⟩],i+1) else fR T i
def aj(T:List Tk):List Sm:=(fR T T.length).1
theorem So(i:Nat):(fR w i).2<=i:=by
 induction i with
 | zero=>exact Xy _
 | succ i a =>
  rw[fR];split
  ·exact Xy _
  ·omega
theorem t8(i:Nat):(fR w i).1.length<=i:=by
 induction i with
 | zero=>exact Xy _
 | succ i a =>
  rw[fR];split
  ·simp;omega
  ·omega
structure NwW(w wr:World)(T:List Tk)(aoT:Xt)(cT:Nat)(S:List Sm)(h:Hd):Prop where
 d:wr.heap[w.heap.size]?=some (.cells #[slice aoT T.length cT,slice h.ao S.length h.cap] 141)
 ZbH:aD wr h (wO S)
 far:∀k,h.Zbx=some k->w.heap.size<k
 Zbw:aa [] w wr
theorem NwW.add{wr n:World}{p:Xt}{r:List Sm}{f:Hd}(a:NwW m wr o p N i c)(s:aD n f (wO r))(g:bL wr n c f):NwW m (n.setCell ⟨m.heap.size,1,none⟩ (slice f.ao r.length f.cap)) o p N r f:=by
 have w:=ah a.d;have t:=g.Zbw.get a.d (fun j=>by have:=a.far _ (aX j);omega);have b:∀k,f.Zbx=some k->m.heap.size<k:=fun k l=>by
  rcases g.Zbx with e | ⟨q,e,j⟩
  ·exact a.far k (by rw[<-e];exact l)
  ·rw[e]at l;cases l;omega
 have v:aa [m.heap.size] n (n.setCell ⟨m.heap.size,1,none⟩ (slice f.ao r.length f.cap)):=(aa.refl _ _).sl1 _;have u:aa [] m n:=⟨g.Zbw.os.trans a.Zbw.os,g.Zbw.tape.trans a.Zbw.tape,g.Zbw.output.trans a.Zbw.output,XF a.Zbw.size g.Zbw.size,fun k l _=>by rw[g.Zbw.block k (XB l a.Zbw.size) (fun j=>by have:=a.far _ (aX j);omega),a.Zbw.block k l (by simp)]⟩;exact⟨by rw[ae t];rfl,s.Zbo (fun q j=>v.block q (s.lt j) (by simp;have:=b q j;omega)),b,u.sr1 (by simp) _⟩
theorem Sn(L:mQ a M d w)(hl:w.length<=100000)(hs:∀i,(tS w i).size<=1073741824) :
  Calls prog 54 #[slice M w.length d] a fun e G=>e=returned (pointer (some ⟨a.heap.size,0,none⟩))/\∃r T,gM G a.heap.size w M d (aj w) r T/\aa [] a G/\∀g,r=some ⟨g,0,none⟩->a.heap.size<=g/\g<G.heap.size:=by
 have R:Xq (NwW a (a.alloc (.cells #[slice M w.length d,slice none 0 0] 141)) w M d [] ⟨none,0⟩):=⟨XD _ _,XE _ _ _ _,(by intro k N;cases N),bH.alloc _⟩;have J:Xq _:=L;clear L;go_enter func54,ntmps54;go_wp2
 go_loopg [4,5] w.length (fun g f i wr=>∃(k j:Nat) (S:List Sm) (h:Hd),k<=w.length/\g=w.length-k/\f=int i64 j/\i=int i64 k/\(j<=k/\S.length<=k)/\Xq (fR w k=(S,j))/\Xq (NwW a wr w M d S h))
 ·exact⟨0,0,[],⟨none,0⟩,by omega,rfl,rfl,rfl,⟨by omega,by simp⟩,rfl,R⟩
 obtain⟨k,j,S,h,N,hg,rfl,rfl,⟨hf,X⟩,I,c⟩:=hrel;by_cases C:k<w.length
 ·have q:Xq _:=mQ.Zbj J.o c.o.Zbw;obtain⟨z,rfl,Y,F,-⟩:=q.o.2 k _ (jN w k C);replace F:wr.cell? ⟨z,k*5,none⟩=some (string (tS w k)):=F;have Z:(k:Int)<w.length:=by omega
  have n:Xq (fR w (k+1)=if cD (tS w k)=true then(S++[⟨j,k+1,(eQ w j).2,(eQ w j).1⟩],k+1) else(S,j)):=cm (by rw[fR,I.o]);obtain⟨x,Q⟩:=aP (tS w k);rw[Q.o]at F n;have u:Xq (gM wr a.heap.size w (some ⟨z,0,none⟩) d S h.ao h.cap):=⟨c.o.d,q.o,c.o.ZbH.srcS⟩;have p:Xq _:=(Mz a.heap.size j w (some ⟨z,0,none⟩) d S h.ao h.cap wr u.o (by omega) hl hs);obtain⟨kw,y⟩:=aP (eQ w j);rw[y.o]at p n;obtain⟨E,D⟩:=kw;have c1:wr.cell? ⟨a.heap.size,1,none⟩=some (slice h.ao S.length h.cap):=by rw[ab c.o.d];rfl
  have A:=c.o.ZbH;obtain⟨V,l⟩:=aP (cD x);rw[l.o]at n;cases V
  ·have v:Xq (fR w (k+1)=(S,j)):=(by show _=_;rw[n.o,Xz (by simp)]);go_wp2_with (go_at_call 83;refine(xt x _).mono ?_;rintro e O ⟨rfl,b⟩;rw[b,l.o];clear b);go_roundg (w.length-(k+1))
   ·exact⟨k+1,j,S,h,by omega,rfl,rfl,by go_num,⟨by omega,by omega⟩,v,c⟩
   omega
  ·have v:Xq (fR w (k+1)=(S++[⟨j,k+1,D,E⟩],k+1)):=(by show _=_;rw[n.o,XA rfl]);have B:((k+1:Nat):Int)=(k:Int)+1:=(by omega);(go_upto_region 9 with (first | (go_at_call 83;refine(xt x _).mono ?_;rintro e O ⟨rfl,b⟩;rw[b,l.o];clear b) | (go_at_call 84;refine Xx p.o ?_;rintro e O ⟨rfl,b⟩;rw[b];clear b)));go_wp2_with (at_builtin;rw[<-B];refine yi _ rfl (.tmp 35) (.tmp 42) rfl h S ⟨j,k+1,D,E⟩ rfl A (by omega) rfl ?_;intro W w5 s m;have H:Xq _:=c.o.add s m;have t:=m.Zbw.get c.o.d (fun hq=>by have:=c.o.far _ (aX hq);omega);have f5:=zcW t 1;have e5:w5.cell? ⟨a.heap.size,1,none⟩=some (slice h.ao S.length h.cap):=(by rw[ab t];rfl);have z5:=ah t;clear s m t);rw[XC]at H;go_roundg (w.length-(k+1))
   ·exact⟨k+1,k+1,S++[⟨j,k+1,D,E⟩],W,by omega,rfl,by go_num,by go_num,⟨by omega,by simp;omega⟩,v,H⟩
   omega
 ·have e:k=w.length:=by omega
  subst e;have P:Xq (aj w=S):=cm (by unfold aj;rw[I.o]);go_wp2;go_ret;exact⟨rfl,h.ao,h.cap,by rw[P.o];exact⟨c.o.d,mQ.Zbj J.o c.o.Zbw,c.o.ZbH.srcS⟩,c.o.Zbw,fun g U=>have K:h.Zbx=some g:=(by unfold Hd.Zbx;rw[U];rfl);⟨Ys (c.o.far g K),c.o.ZbH.lt K⟩⟩
def qd(i:Nat):List Sm->Nat
 | []=>0
 | s :: r=>if s.z<=i then qd i r+1 else 0
def km(S:List Sm)(i:Nat):Nat:=qd i S
def lX(S:List Sm)(n:Nat):Nat:=if 0<n then(ay S (n-1)).z else 0
def fM(T:List Tk)(h i:Nat):Xs:=((T.drop h).take (i-h)).map (·.s)
theorem FO(f:I<=d)(b:d<w.length):fM w I (d+1)=fM w I d++[tS w d]:=by
 unfold fM;have e:d+1-I=(d-I)+1:=by omega
 have c:d-I<(w.drop I).length:=by rw[Ym];omega
 rw[e,Yc c,Yj];have a:(w.drop I)[d-I]=w[d]:=by rw[Z8];congr 1;omega
 rw[a];unfold tS;rw[Xw,Xv b];rfl
theorem zao(S:List Sm):qd d S<=S.length:=by
 induction S with
 | nil=>exact Xy _
 | cons s r a=>rw[qd];split <;> simp;omega
theorem F3(S:List Sm)(j:Nat)(h:j<qd d S):∃s,S[j]?=some s/\s.z<=d:=by
 induction S generalizing j with
 | nil=>simp[qd]at h
 | cons s r a =>
  rw[qd]at h;split at h
  ·cases j with
   | zero=>exact⟨s,rfl,by assumption⟩
   | succ j=>exact a j (by omega)
  ·omega
theorem QV:lX b (km b d)<=d:=by
 unfold lX;split
 ·next h =>
  obtain⟨s,a,c⟩:=F3 d b (km b d-1) (by unfold km at h ⊢;omega);unfold ay;rw[Xw,a];exact c
 ·omega
def nV(T:List Tk)(S:List Sm)(key x:Xr)(n:Nat)(before:Xs):Int :=
 if(x.toList == [36,46])=true then jJ key before
 else if((x.toList == [36,61])&&((key.toList == [36,112]) && !(aN before ⟨#[36,61]⟩)))=true then(if before.length=0 then 15 else 0)
 else if jC x ⟨#[36]⟩=true then 8
 else if aN before ⟨#[36,61]⟩=true then 0
 else if((key.toList == [36,99])||(key.toList == [36,118]))=true then lJ T S x n (key.toList == [36,99]) before
 else kO T S key x n before
def bG(T:List Tk)(S:List Sm)(i:Nat):Int :=
 if i=lX S (km S i) then eu T S (tS T i) (km S i)
 else if i<(eQ T (lX S (km S i))).2 then(if(aG (tS T i)||aK (tS T i))=true then 0 else 14)
 else nV T S (eQ T (lX S (km S i))).1 (tS T i) (km S i) (fM T (eQ T (lX S (km S i))).2 i)
theorem FV(W:gM a n w g I b M d)(hi:y<w.length)(S:jF w b (km b y))(hf:oi w b (km b y))(hs:∀y,(tS w y).size<=1073741824) :
  Calls prog 85 #[pointer (some ⟨n,0,none⟩),int i64 y] a fun e w'=>e=returned (int i64 (bG w b y))/\aa [] a w':=by
 have HD:Xq _:=W;have hT:=S.t;have bx:=S.s;obtain⟨c0,c1,hb⟩:=W.cells;obtain⟨V,rfl,b0,t0,-⟩:=W.t.2 y _ (jN w y hi);replace t0:a.cell? ⟨V,y*5,none⟩=some (string (tS w y)):=t0;have b4:(y:Int)<w.length:=by omega
 have D:Xq _:=JX n (km b y) (tS w y) w (some ⟨V,0,none⟩) I b M d a W S (hs y);have af:=QV b y;have p:Xq _:=Mz n (lX b (km b y)) w (some ⟨V,0,none⟩) I b M d a W (by omega) hT hs
 have f:Xq (bG w b y=if y=lX b (km b y) then eu w b (tS w y) (km b y)
  else if y<(eQ w (lX b (km b y))).2 then(if(aG (tS w y)||aK (tS w y))=true then 0 else 14)
  else nV w b (eQ w (lX b (km b y))).1 (tS w y) (km b y) (fM w (eQ w (lX b (km b y))).2 y)):=rfl
 have bl:=hs y;have HB:Xq (lX b (km b y)=if 0<km b y then(ay b (km b y-1)).z else 0):=rfl;obtain⟨x,Hx⟩:=aP (tS w y);rw[Hx.o]at t0 D f bl;obtain⟨X,Hn⟩:=aP (km b y);have az:Xq (X=qd y b):=Hn.o.symm;rw[Hn.o]at D p f HB af S hf;obtain⟨U,a3⟩:=aP (lX b X);rw[a3.o]at p f HB af;obtain⟨kw,a4⟩:=aP (eQ w U);rw[a4.o]at p f;obtain⟨l,F⟩:=kw;simp only at p f;have b7:X<=b.length:=S.m;clear W;go_enter func85,ntmps85;go_wp2
 go_loopg [5] b.length (fun bc o wr=>∃k:Nat,k<=b.length/\bc=b.length-k/\o=int i64 k/\Xq (k+qd y (b.drop k)=X)/\wr=a)
 ·exact⟨0,by omega,rfl,rfl,by show _=_;rw[ZaJ,Zf];exact az.o.symm,rfl⟩
 obtain⟨k,hk,hg,rfl,HC,rfl⟩:=hrel;obtain⟨u,Z,a1,ac⟩:∃u:Bool,Xq (∀h:k<b.length,b[k].z<=y->u=true)/\Xq (u=true->k<b.length/\k+1+qd y (b.drop (k+1))=X)/\Xq ((∀h:k<b.length,¬b[k].z<=y)->u=false):=by
  by_cases i:k<b.length
  ·have v:=HC.o;rw[X0 i,qd]at v;refine⟨decide (b[k].z<=y),fun h Q=>by simpa using Q,fun h=>⟨i,?_⟩,fun h=>by simpa using h i⟩;rw[XA (by simpa using h)]at v;omega
  ·exact⟨false,(fun h=>absurd h i),(fun h=>by cases h),(fun _=>rfl)⟩
 have a2:Xq (u=false->k=X):=fun h=>by
  have v:=HC.o;by_cases i:k<b.length
  ·rw[X0 i,qd]at v;by_cases Q:b[k].z<=y
   ·have:=Z.o i Q;rw[h]at this;cases this
   ·rw[Xz Q]at v;omega
  ·rw[ZY (by omega),qd]at v;omega
 go_upto_region 2 with fail
 go_cut [34] from 16 to 34 (fun bo wd=>bo=bool u/\wd=wr)
 case first =>
  by_cases i:k<b.length
  ·obtain⟨gs,rfl,be,-,q1,-⟩:=HD.o.s.2 k b[k] (Xv i);have ap:(k:Int)<b.length:=(by omega);by_cases Q:b[k].z<=y
   ·have bm:(b[k].z:Int)<=(y:Int):=(by omega);have HV:Xq _:=Z.o i Q;go_wp2_with fail;go_meet
    case rel=>exact⟨by rw[HV.o],rfl⟩
   ·have bm:¬(b[k].z:Int)<=(y:Int):=(by omega);have HV:Xq _:=(ac.o (fun _=>Q));go_wp2_with fail;go_meet
    case rel=>exact⟨by rw[HV.o],rfl⟩
  ·have ap:¬(k:Int)<b.length:=(by omega);have HV:Xq _:=(ac.o (fun h=>absurd h i));go_wp2_with fail;go_meet
   case rel=>exact⟨by rw[HV.o],rfl⟩
 case rest =>
  obtain⟨rfl,C⟩:=hcut;subst C;cases u
  ·have bf:=a2.o rfl;subst bf;go_upto_if 38 with fail
   go_cut [6] from 37 to 47 (fun s6 wd=>s6=int i64 U/\wd=wc)
   case first =>
    by_cases am:0<k
    ·have an:k-1<b.length:=(by omega);obtain⟨gs,rfl,be,-,q1,-⟩:=HD.o.s.2 (k-1) b[k-1] (Xv an);have K:Xq (b[k-1].z=U):=cm (by rw[HB.o,XA am,bA b (k-1) an]);rw[K.o]at q1;have ca:IntKind.i64.wrap ((k:Int)-1)=(k:Int)-1:=(by rw[YS];omega);have b8:((k:Int)-1).toNat=k-1:=(by omega);have b2:(k:Int)-1<b.length:=(by omega);have b3:(1:Int)<=(k:Int):=(by omega);go_wp2_with fail;go_meet
     case rel=>exact⟨rfl,rfl⟩
    ·have K:Xq (U=0):=(by show _=_;rw[HB.o,Xz am]);go_wp2_with fail;go_meet
     case rel=>exact⟨by rw[K.o];rfl,rfl⟩
   case rest =>
    obtain⟨rfl,C⟩:=hcut;subst C;by_cases P:y=U
    ·have j:Xq (bG w b y=eu w b x k):=(by show _=_;rw[f.o,XA P]);subst P;clear p;go_wp2_with (go_at_call 120;refine Xx D.o ?_;rintro e G ⟨rfl,R⟩);go_ret;exact⟨au j.o.symm,R⟩
    ·rw[Xz P]at f;have bp:((y:Int)==(U:Int))=false:=(by simp;omega);(go_upto_region 11 with (go_at_call 84;refine Xx p.o ?_;rintro e G ⟨rfl,c⟩;rw[c];clear c));by_cases ai:y<F
     ·rw[XA ai]at f;have al:(y:Int)<(F:Int):=(by omega);(go_upto_region 14 with (first | (go_at_call 121;refine(im x _).mono ?_;rintro e G ⟨rfl,c⟩;rw[c];clear c) | (go_at_call 122;refine(nI x _).mono ?_;rintro e G ⟨rfl,c⟩;rw[c];clear c)));obtain⟨ya,a6⟩:=aP (aG x);obtain⟨yu,a7⟩:=aP (aK x);rw[a6.o,a7.o]at f ⊢;cases ya
      ·cases yu
       ·have j:Xq (bG w b y=14):=(by show _=_;rw[f.o];rfl);go_wp2;go_ret;exact⟨au j.o.symm,aa.refl _ _⟩
       ·have j:Xq (bG w b y=0):=(by show _=_;rw[f.o];rfl);go_wp2;go_ret;exact⟨au j.o.symm,aa.refl _ _⟩
      ·have j:Xq (bG w b y=0):=(by show _=_;rw[f.o];rfl);go_wp2;go_ret;exact⟨au j.o.symm,aa.refl _ _⟩
     ·rw[Xz ai]at f;have al:¬(y:Int)<(F:Int):=(by omega);have HX:Xq _:=xf.nil wc;clear D p c1;go_wp2
      go_loopg [12,13] (y-F) (fun bc o q wr=>∃(m:Nat) (r:Hd) (O:Xs),(F<=m/\m<=y)/\bc=y-m/\o=slice r.ao O.length r.cap/\q=int i64 m/\O.length<=m/\Xq (O=fM w F m)/\Xq (xf wc wr r O))
      ·exact⟨F,⟨none,0⟩,[],⟨by omega,by omega⟩,rfl,rfl,rfl,by simp,by show _=_;unfold fM;rw[YA];rfl,HX⟩
      obtain⟨m,r,O,⟨bj,b5⟩,bT,rfl,rfl,bw,HO,T⟩:=hrel;have A:Xq _:=gM.Zbj HD.o T.o.Zbw;obtain⟨d0,-,bz⟩:=A.o.cells;by_cases b6:m<y
      ·have aq:m<w.length:=(by omega);obtain⟨bv,e5,b1,q0,-⟩:=A.o.t.2 m _ (jN w m aq);cases e5
       replace q0:wr.cell? ⟨V,m*5,none⟩=some (string (tS w m)):=q0;have bq:(m:Int)<(y:Int):=(by omega);have br:(m:Int)<w.length:=(by omega);have aT:Xq (O++[tS w m]=fM w F (m+1)):=cm (by rw[FO w F m bj aq,HO.o]);generalize tS w m=bs at *;have bd:=T.o.ZbH;go_wp2_with (at_builtin;refine so _ rfl (.tmp 86) (.tmp 95) rfl r O bs rfl bd (by omega) rfl ?_;intro h5 w5 ar ag;have aS:Xq _:=T.o.Zbt ag ar;clear ar ag);go_roundg (y-(m+1))
       ·exact⟨m+1,h5,O++[bs],⟨by omega,by omega⟩,rfl,by simp,by go_num,by simp;omega,aT,aS⟩
       omega
      ·have ba:m=y:=(by omega);subst ba;rw[<-HO.o]at f;have B:=T.o.ZbH.srcX;have H:Xq _:=T.o.Zbw;have J:Xq _:=(kH O r.ao r.cap ⟨#[36,61]⟩ wr B (by omega));have ax:Xq _:=(F0 l O r.ao r.cap wr B (by omega));have Y:Xq (∀E,Calls prog 124 #[pointer (some ⟨n,0,none⟩),string x,int i64 k,bool E,slice r.ao O.length r.cap] wr fun e w'=>e=returned (int i64 (lJ w b x k E O))/\aa [] wr w'):=fun E=>OC n k x E O r.ao r.cap w (some ⟨V,0,none⟩) I b M d wr A.o S B (by omega);have a0:Xq _:=(Lq n k l x O r.ao r.cap w (some ⟨V,0,none⟩) I b M d wr A.o S hf B (by omega));unfold nV at f;obtain⟨pf,a5⟩:=aP (aN O ⟨#[36,61]⟩);obtain⟨dl,ad⟩:=aP (jC x ⟨#[36]⟩);rw[a5.o]at J f;rw[ad.o]at f;(go_upto_region 24 with (first | (go_at_call 92;refine Xx J.o ?_;rintro e G ⟨rfl,c⟩;rw[c];clear c) | (go_at_call 119;refine(gQ x _ _ (by omega) (by show 1<=_;omega)).mono ?_;rintro e G ⟨rfl,c⟩;rw[c];clear c)));rw[ad.o];clear J B HX d0 T A;generalize O.length=ol at *;cases h1:(x.toList == [36,46])
       ·rw[Xz (by rw[h1];simp)]at f;obtain⟨tb,N⟩:=aP (((x.toList == [36,61])&&((l.toList == [36,112]) && !pf)));rw[N.o]at f;go_upto_region 26 with fail
        go_cut [107] from 108 to 117 (fun av wd=>av=bool tb/\wd=wr)
        case first =>
         cases h2:(x.toList == [36,61])
         ·go_wp2_with fail;go_meet
          case rel=>exact⟨by rw[<-N.o,h2];rfl,rfl⟩
         ·cases h3:(l.toList == [36,112])
          all_goals
           go_wp2_with fail;go_meet
           case rel=>exact⟨by rw[<-N.o,h2,h3];rfl,rfl⟩
        case rest =>
         obtain⟨rfl,C⟩:=hcut;subst C;cases tb
         ·cases dl
          ·cases pf
           ·cases h4:(l.toList == [36,99])
            ·cases h5:(l.toList == [36,118])
             ·have j:Xq (bG w b m=kO w b l x k O):=(by show _=_;rw[f.o,h4,h5];rfl);go_wp2_with (go_at_call 125;refine Xx a0.o ?_;rintro e G ⟨rfl,R⟩);go_ret;exact⟨au j.o.symm,H.o.trans R⟩
             ·have j:Xq (bG w b m=lJ w b x k false O):=(by show _=_;rw[f.o,h4,h5];rfl);have L:Xq _:=Y.o false;go_wp2_with (go_at_call 124;refine Xx L.o ?_;rintro e G ⟨rfl,R⟩);go_ret;exact⟨au j.o.symm,H.o.trans R⟩
            ·have j:Xq (bG w b m=lJ w b x k true O):=(by show _=_;rw[f.o,h4];rfl);have L:Xq _:=Y.o true;go_wp2_with (go_at_call 124;refine Xx L.o ?_;rintro e G ⟨rfl,R⟩);go_ret;exact⟨au j.o.symm,H.o.trans R⟩
           ·have j:Xq (bG w b m=0):=(by show _=_;rw[f.o];rfl);go_wp2;go_ret;exact⟨au j.o.symm,H.o⟩
          ·have j:Xq (bG w b m=8):=(by show _=_;rw[f.o];rfl);go_wp2;go_ret;exact⟨au j.o.symm,H.o⟩
         ·rw[XA rfl]at f;by_cases ho:ol=0
          ·have j:Xq (bG w b m=15):=(by show _=_;rw[f.o,XA ho]);have bk:((ol:Int)==0)=true:=(by simpa using ho);go_wp2;go_ret;exact⟨au j.o.symm,H.o⟩
          ·have j:Xq (bG w b m=0):=(by show _=_;rw[f.o,Xz ho]);have bk:((ol:Int)==0)=false:=(by simpa using ho);go_wp2;go_ret;exact⟨au j.o.symm,H.o⟩
       ·have j:Xq (bG w b m=jJ l O):=(by show _=_;rw[f.o,XA h1]);go_wp2_with (go_at_call 123;refine Xx ax.o ?_;rintro e G ⟨rfl,c⟩;rw[c];clear c);go_ret;exact⟨au j.o.symm,H.o⟩
  ·obtain⟨i,hm⟩:=a1.o rfl;have HM:Xq _:=hm;clear hm;go_wp2;go_roundg (b.length-(k+1))
   ·exact⟨k+1,by omega,rfl,by go_num,HM,rfl⟩
   omega
def ffP(T:List Tk)(S:List Sm)(i:Nat):Bool:=!(bG T S i==0)
def CQ(T:List Tk)(S:List Sm):Tk:=match (List.range T.length).find? (ffP T S) with
 | some i=>⟨⟨#[]⟩,bG T S i,(T.getD i kg).ZbD,(T.getD i kg).ZbE,(T.getD i kg).ZbF⟩
 | none=>kg
theorem Ri{T:List Tk}{S:List Sm}{k:Nat}(c:k<T.length)(h:(bG T S k==0)=false)(a:∀j,j<k->bG T S j=0):CQ T S=⟨⟨#[]⟩,bG T S k,(T.getD k kg).ZbD,(T.getD k kg).ZbE,(T.getD k kg).ZbF⟩:=by
 have e:(List.range T.length).find? (ffP T S)=some k:=by
  rw[Y3];exact⟨by unfold ffP;rw[h];rfl,XI.2 c,fun j b=>by unfold ffP;rw[a j b];rfl⟩
 unfold CQ;rw[e]
theorem WX(a:∀j,j<o.length->bG o i j=0):CQ o i=kg:=by
 have e:(List.range o.length).find? (ffP o i)=none:=by
  rw[YD];intro j b;unfold ffP;rw[a j (XI.1 b)];simp
 unfold CQ;rw[e]
def zbJ(T:List Tk)(S:List Sm):Prop:=∀i,i<T.length->(∀j,j<i->bG T S j=0)->jF T S (km S i)/\oi T S (km S i)
theorem Aj(P:gM a y w g I b M d)(hT:w.length<=100000)(hO:zbJ w b)(hs:∀i,(tS w i).size<=1073741824) :
  Calls prog 55 #[pointer (some ⟨y,0,none⟩)] a fun e w'=>e=returned (agg #[int i64 (CQ w b).ZbG,string (CQ w b).ZbD,int i64 (CQ w b).ZbE,int i64 (CQ w b).ZbF])/\aa [] a w':=by
 have N:Xq _:=P;obtain⟨W,E⟩:=aP (a.alloc (.cells #[int i64 0,string ⟨#[]⟩,int i64 0,int i64 0] 87));have Z:=dC E.o;have D:Xq _:=dx E.o;clear P;go_enter func55,ntmps55;go_upto_region 1 with fail
 rw[E.o];go_wp2
 go_loopg [3] w.length (fun ac i wr=>∃k:Nat,k<=w.length/\ac=w.length-k/\i=int i64 k/\Xq (∀j,j<k->bG w b j=0)/\Xq (aa [] W wr))
 ·exact⟨0,by omega,rfl,rfl,(fun j S=>by omega),aa.refl _ _⟩
 obtain⟨k,hk,hg,rfl,x,B⟩:=hrel;have m:Xq _:=D.o.trans B.o;have q:Xq _:=gM.Zbj N.o m.o;obtain⟨O,-,Q⟩:=q.o.cells;have f:=B.o.get Z (by simp);by_cases c:k<w.length
 ·obtain⟨U,R⟩:=hO k c x.o;have F:(k:Int)<w.length:=by omega
  have l:Xq _:=FV y k w g I b M d wr q.o c U R hs;obtain⟨r,z⟩:=aP (bG w b k);rw[z.o]at l;clear U R;cases T:(r==0)
  ·have u:Xq (CQ w b=⟨⟨#[]⟩,r,(w.getD k kg).ZbD,(w.getD k kg).ZbE,(w.getD k kg).ZbF⟩):=(by show _=_;rw[Ri c (by rw[z.o];exact T) x.o,z.o]);(go_upto_region 5 with (go_at_call 85;refine Xx l.o ?_;rintro e w2 ⟨rfl,A⟩));have s:Xq _:=m.o.trans A;have p:Xq _:=gM.Zbj N.o s.o;have n:=A.get f (by simp);clear O Q;obtain⟨O,-,Q⟩:=p.o.cells;obtain⟨gT,rfl,ad,-,-,t2,t3,t4⟩:=p.o.t.2 k _ (jN w k c);generalize w.getD k kg=t at *;obtain⟨ts,tr,X,Y,V⟩:=t;simp only at t2 t3 t4 u;have f0:=zcW n 0;have f1:=zcW n 1;have f2:=zcW n 2;have f3:=zcW n 3;obtain⟨g0,g1,g2,g3⟩:=zU n;go_wp2;obtain⟨H,J,K,L⟩:=wn n (int i64 r) (string X) (int i64 Y) (int i64 V);exact XG (v:=agg #[int i64 r,string X,int i64 Y,int i64 V]) (by simp[results,results55,go_sem,H,J,K,L]) rfl ⟨by rw[u.o],(((s.o.sr1 (by simp) _).sr1 (by simp) _).sr1 (by simp) _).sr1 (by simp) _⟩
  ·have G:r=0:=(by simpa using T);subst G;have HM:Xq (∀j,j<k+1->bG w b j=0):=fun j S=>by
    by_cases e:j=k
    ·rw[e];exact z.o
    ·exact x.o j (by omega)
   go_wp2_with (go_at_call 85;refine Xx l.o ?_;rintro e w2 ⟨rfl,A⟩;have C:Xq _:=B.o.trans A);go_roundg (w.length-(k+1))
   ·exact⟨k+1,by omega,rfl,by go_num,HM,C⟩
   omega
 ·have u:Xq (CQ w b=kg):=WX (fun j S=>x.o j (by omega));have f0:=zcW f 0;have f1:=zcW f 1;have f2:=zcW f 2;have f3:=zcW f 3;obtain⟨g0,g1,g2,g3⟩:=zU f;have F:¬(k:Int)<w.length:=by omega
  go_wp2;obtain⟨H,J,K,L⟩:=wn f (int i64 0) (string ⟨#[]⟩) (int i64 0) (int i64 0);exact XG (v:=agg #[int i64 0,string ⟨#[]⟩,int i64 0,int i64 0]) (by simp[results,results55,go_sem,H,J,K,L]) rfl ⟨by rw[u.o];rfl,(((m.o.sr1 (by simp) _).sr1 (by simp) _).sr1 (by simp) _).sr1 (by simp) _⟩
theorem Dw(h:d<b.length):ay (b++[s]) d=ay b d:=by
 unfold ay;rw[Xw,Xw,XP h]
theorem xV:ay (b++[s]) b.length=s:=by
 unfold ay;rw[Xw,XO (Xy _),YA];rfl
theorem FQ(h:d<=b.length):lX (b++[s]) d=lX b d:=by
 unfold lX;split
 ·rw[Dw b s (d-1) (by omega)]
 ·rfl
structure SmP(T:List Tk)(S:List Sm)(j:Nat)(s:Sm):Prop where
 a:s.a=lX S j
 lt:s.a<s.z
 e:cD (tS T (s.z-1))=true
 n:∀q,s.a<=q->q<s.z-1->cD (tS T q)=false
 k:(s.k,s.h)=eQ T s.a
structure Jl(T:List Tk)(i:Nat)(S:List Sm)(f:Nat):Prop where
 s:∀j,j<S.length->SmP T S j (ay S j)/\(ay S j).z<=i
 fr:f=lX S S.length
 n:∀q,f<=q->q<i->cD (tS T q)=false
 le:f<=i
theorem OG(i:Nat):Jl w i (fR w i).1 (fR w i).2:=by
 induction i with
 | zero=>exact⟨fun j d=>by simp[fR]at d,rfl,fun q _ h=>by omega,Xy _⟩
 | succ i b =>
  rw[fR];split
  ·next l =>
   generalize (fR w i).1=S at *;generalize (fR w i).2=f at *;refine⟨fun j d=>?_,?_,fun q c g=>by simp only at c;omega,Xy _⟩
   ·simp only[List.length_append,List.length_cons,List.length_nil]at d;by_cases e:j<S.length
    ·obtain⟨p,m⟩:=b.s j e;rw[Dw S _ j e];exact⟨⟨by rw[FQ S _ j (by omega)];exact p.a,p.lt,p.e,p.n,p.k⟩,by omega⟩
    ·have e:j=S.length:=(by omega);subst e;rw[xV];have:=b.le;exact⟨⟨by rw[FQ S _ _ (Xy _)];exact b.fr,by show f<i+1;omega,l,fun q c g=>b.n q c (by simp only at g;omega),rfl⟩,Xy _⟩
   ·simp only[List.length_append,List.length_cons,List.length_nil];unfold lX;rw[XA (by omega),Za,xV]
  ·next l =>
   refine⟨fun j d=>?_,b.fr,fun q c g=>?_,by have:=b.le;omega⟩
   ·obtain⟨p,m⟩:=b.s j d;exact⟨p,by omega⟩
   ·by_cases e:q=i
    ·rw[e];simpa using l
    ·exact b.n q c (by omega)
theorem fJ:Jl w w.length (aj w) (fR w w.length).2:=OG w w.length
theorem Q6(S:List Sm)(j:Nat)(a:∀q,q<j->∃s,S[q]?=some s/\s.z<=d)(b:∀s,S[j]?=some s->¬s.z<=d):qd d S=j:=by
 induction S generalizing j with
 | nil =>
  cases j with
  | zero=>rfl
  | succ j=>obtain⟨s,h,-⟩:=a 0 (by omega);cases h
 | cons s r g =>
  cases j with
  | zero=>rw[qd,Xz (b s rfl)]
  | succ j =>
   obtain⟨k,e,f⟩:=a 0 (by omega);simp at e;subst e;rw[qd,XA f,g j (fun q i=>by simpa using a (q+1) (by omega)) (fun t c=>b t (by simpa using c))]
section
variable {T:List Tk} {i0 f:Nat} {S:List Sm}
theorem Nb(S:List Sm)(j:Nat)(h:j<S.length):S[j]?=some (ay S j):=by
 unfold ay;rw[Xw,Xv h];rfl
theorem Jl.step(p:Jl T i0 S f)(j:Nat)(h:j+1<S.length):(ay S j).z<(ay S (j+1)).z:=by
 have q:=(p.s (j+1) h).1;have:=q.lt;rw[q.a]at this;unfold lX at this;rw[XA (by omega),Za]at this;exact this
theorem Jl.mono(p:Jl T i0 S f)(j k:Nat)(h:j<=k)(a:k<S.length):(ay S j).z<=(ay S k).z:=by
 induction k with
 | zero =>
  have:j=0:=by omega
  rw[this];exact Xy _
 | succ k b =>
  by_cases e:j=k+1
  ·rw[e];exact Xy _
  ·have:=b (by omega) (by omega);have:=p.step k a;omega
theorem Jl.cnt(p:Jl T i0 S f)(j:Nat)(h:j<S.length)(i:Nat)(c:(ay S j).a<=i)(d:i<(ay S j).z):km S i=j:=by
 refine Q6 i S j (fun q g=>⟨ay S q,Nb S q (by omega),?_⟩) (fun s b=>?_)
 ·have e:=(p.s j h).1.a;unfold lX at e;rw[XA (by omega)]at e;have:=p.mono q (j-1) (by omega) (by omega);omega
 ·rw[Nb S j h]at b;cases b;omega
theorem Jl.beg(p:Jl T i0 S f)(j:Nat)(h:j<S.length)(i:Nat)(b:(ay S j).a<=i)(c:i<(ay S j).z):lX S (km S i)=(ay S j).a:=by
 rw[p.cnt j h i b c];exact((p.s j h).1.a).symm
end
theorem sY{x:Xr}{l:List UInt8}(h:(x.toList==l)=true):x=⟨l.toArray⟩:=by
 have a:x.toList=l:=by simpa using h
 apply Zbc;apply Zaw.1;rw[<-YK,a]
theorem mx(h:cD D=true):jC D ⟨#[36]⟩=true/\(D.toList == [36,99])=false/\(D.toList == [36,118])=false/\(D.toList == [36,102])=false:=by
 unfold cD at h;rcases Yo _ _ ▸ h with h | h
 ·rcases Yo _ _ ▸ h with h | h <;> (rw[sY h];decide +kernel)
 ·rw[sY h];decide +kernel
theorem Nl(p:Jl o N i t)(j:Nat)(h:j<i.length)(q:Nat)(b:(ay i j).a<=q)(c:q<(ay i j).z):bG o i q =
  if q=(ay i j).a then eu o i (tS o q) j
  else if q<(ay i j).h then(if(aG (tS o q)||aK (tS o q))=true then 0 else 14)
  else nV o i (ay i j).k (tS o q) j (fM o (ay i j).h q):=by
 unfold bG;rw[p.beg j h q b c,p.cnt j h q b c,<-(p.s j h).1.k]
theorem A7{x:Xr}{B:Xs}(a:cD x=true)(h:nV o i D x N B=0):(x.toList == [36,46])=true/\jJ D B=0:=by
 unfold nV at h;cases b:(x.toList == [36,46])
 ·rw[Xz (by rw[b];simp)]at h;have d:=(mx a).1;have c:(x.toList == [36,61])=false:=by
   unfold cD at a;rw[b,Y7]at a;rcases Yo _ _ ▸ a with e | e <;> (rw[sY e];decide +kernel)
  rw[c,Zz,Xz (by simp),XA d]at h;cases h
 ·rw[XA b]at h;exact⟨rfl,h⟩
theorem wW(h:(D.toList == [36,46])=true):pq D=true:=by unfold pq;rw[h];simp
theorem Vb(h:(D.toList == [36,102])=true):eu o i D N=11:=by
 have e:=sY h;have d:((D.toList == [36,123])||((D.toList == [36,118])||(D.toList == [36,100])))=false/\(D.toList == [36,125])=false/\(D.toList == [36,99])=false/\(aG D||aK D)=true:=by rw[e];decide +kernel
 obtain⟨a,b,c,f⟩:=d;unfold eu;rw[a,b,c,f];simp
theorem R9(h:(aG D||aK D)=true):(D.toList == [36,99])=false/\(D.toList == [36,118])=false/\cD D=false:=by
 unfold aG aK at h;rcases Yo _ _ ▸ h with h | h
 all_goals
  rcases Yo _ _ ▸ h with h | h <;> (rw[sY h];decide +kernel)
theorem Jh(p:Jl o o.length i N)(j:Nat)(h:j<i.length)(A:∀q,(ay i j).a<=q->q<(ay i j).z->bG o i q=0) :
  (((ay i j).k.toList == [36,99])=true->dA o (ay i j).h)/\(((ay i j).k.toList == [36,118])=true->dA o (ay i j).h)/\(((ay i j).k.toList == [36,102])=true->(ay i j).h+1<o.length):=by
 have w:=Nl p j h;obtain⟨P,E⟩:=p.s j h;generalize ay i j=s at *;obtain⟨a,z,J,k⟩:=s;obtain⟨-,C,l,-,n⟩:=P;simp only at *;have g:=A (z-1) (by omega) (by omega);rw[w (z-1) (by omega) (by omega)]at g;have u:=A a (Xy _) C;rw[w a (Xy _) C,XA rfl]at u;unfold eQ at n;have b:=mx l;by_cases r:(jC (tS o a) ⟨#[36]⟩||decide (o.length<=a+1))=true
 ·rw[XA r]at n;cases n
  have d:¬(z-1=a)->dA o (a+1):=fun f=>by
   rw[Xz f,Xz (by omega)]at g;have:=A7 l g;exact⟨z-1,by omega,by omega,wW this.1⟩
  refine⟨fun c=>d (fun e=>?_),fun c=>d (fun e=>?_),fun c=>?_⟩
  ·rw[e,c]at b;exact absurd b.2.1 (by simp)
  ·rw[e,c]at b;exact absurd b.2.2.1 (by simp)
  ·rw[Vb c]at u;cases u
 ·rw[Xz r]at n;cases n
  have y:jC (tS o a) ⟨#[36]⟩=false:=by
   cases e:jC (tS o a) ⟨#[36]⟩
   ·rfl
   ·rw[e]at r;exact absurd rfl r
  have f:¬(z-1=a):=fun e=>by
   rw[e,y]at b;exact absurd b.1 (by simp)
  have v:=A (a+1) (by omega) (by omega);rw[w (a+1) (by omega) (by omega),Xz (by omega),XA (by omega)]at v;have x:(aG (tS o (a+1))||aK (tS o (a+1)))=true:=by
   cases e:(aG (tS o (a+1))||aK (tS o (a+1)))
   ·rw[e]at v;cases v
   ·rfl
  obtain⟨F,G,H⟩:=R9 x;refine⟨fun c=>absurd c (by rw[F];simp),fun c=>absurd c (by rw[G];simp),fun c=>?_⟩;have B:¬(z-1=a+1):=fun e=>by rw[e,H]at l;cases l
  rw[Xz f,Xz (by omega)]at g;have m:=(A7 l g).2;unfold jJ at m;split at m
  ·cases m
  ·split at m
   ·cases m
   ·next I D =>
    have t:¬(fM o (a+2) (z-1)).length<2:=fun t=>D (by rw[c];simp[t]);unfold fM at t;rw[XZ,YL,Ym]at t;omega
theorem WY(g:w.length<=100000):zbJ w (aj w):=by
 intro i l b;have p:=fJ w;have m:(aj w).length<=w.length:=t8 w w.length;have k:km (aj w) i<=(aj w).length:=zao i (aj w);generalize aj w=S at *;have f:∀j,j<km S i->(ay S j).z<=i:=fun j a=>by
  obtain⟨s,d,e⟩:=F3 i S j a;rw[Nb S j (by omega)]at d;cases d;exact e
 have c:=fun j (a:j<km S i)=>Jh p j (by omega) (fun q _ e=>b q (by have:=f j a;omega));refine⟨⟨k,by omega,g,fun j a=>(c j a).1,fun j a=>(c j a).2.1,fun j a=>?_⟩,fun j a=>(c j a).2.2⟩;have:=(p.s j (by omega)).1.lt;have:=f j a;omega
end Go.Proofs.YtpdholcaobgofaaGreat
