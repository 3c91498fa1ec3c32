import Derived.Test.YtnbalopedcgpcaaGreatG41
namespace Go.Proofs.YtnbalopedcgpcaaGreat
open Go.RowKit Tryz
open Value renaming int->Xx,string->Xy,slice->Xz,pointer->XA,agg->XB,bool->XC,tuple->XD
open Obj renaming cells->XE
open IntKind renaming i64->XF
open Ending renaming returned->XH
open World renaming cell?->XI
open Option renaming none->XJ,some->XK
open Bool renaming true->XL,false->XM
open Go.RowKit renaming Hid->XN
open Go renaming Calls->XO,World->XP,Value->XQ
set_option maxHeartbeats 0
variable{d t:XP}{k N:Nat}{S I:List ByteArray}{y5:Option Addr}{y3:Nat->Prop}{g:iX}{y4:cY}(D:XP)(x:Nat)(m T:List ByteArray)(s:List cY)(y:List iX)(a:Nat->Hd)(f:St)(o v:Hd)(b:List ByteArray)(n:ByteArray)(M:List ByteArray)(l:XP)(y2:Nat)(c:List iX)(y6:iX)
theorem Iz(B:cE l v b)(I:b.length<=1073741824) :
  XO prog 125 #[Xz v.ao b.length v.cap,Xy n] l fun e C=>e=XH (Xx XF (eS (aZ b n)))/\C=l:=by
 obtain⟨m,d⟩:∃m,XN (v.ao=m):=⟨_,rfl⟩
 rw[d.out];go_enter func125,ntmps125;go_wp2
 go_loopg [5] b.length (fun g i wr=>∃k:Nat,k<=b.length/\g=b.length-k/\i=Xx XF k/\XN (∀i,i<k->((b.getD i ⟨#[]⟩).toList==n.toList)=XM)/\wr=l)
 case atStart=>exact⟨0,by omega,by omega,rfl,fun i s=>by omega,rfl⟩
 case round =>
  obtain⟨k,H,G,rfl,a,rfl⟩:=hrel;by_cases c:k<b.length
  ·rcases B with z | ⟨g,f,w,t,x,p,q,E,F⟩
   ·rw[z]at c;simp at c
   ·have D:XI wr ⟨g,f+k,XJ⟩=XK (Xy b[k]):=(by rw[ab p];exact q k b[k] (Px c));obtain rfl:m=XK ⟨g,f,XJ⟩:=d.out.symm.trans x;have j:XN _:=i7 b k c;have A:=ae p;generalize b[k]=y at *;clear p q;cases r:(y.toList==n.toList)
    ·have u:XN (∀i,i<k+1->((b.getD i ⟨#[]⟩).toList==n.toList)=XM):=by
      intro i s;by_cases e:i=k
      ·subst e;rw[j.out];exact r
      ·exact a.out i (by omega)
     clear j;go_wp2;go_roundg (b.length-(k+1))
     case measure=>omega
     case rel=>exact⟨k+1,by omega,rfl,by go_num,u,rfl⟩
    ·have o:XN (aZ b n=XK k):=dN c (by rw[j.out];exact r) a.out;clear j;go_wp2;go_ret;exact⟨ay (by rw[o.out];rfl),rfl⟩
  ·have o:XN (aZ b n=XJ):=eI (fun i s=>a.out i (by omega));go_wp2;go_ret;exact⟨ay (by rw[o.out];rfl),rfl⟩
theorem I1(a:y2<b.length):jN (b.take (y2+1)) n=jN (b.take y2) n+(if(b[y2].toList==n.toList)=XL then 1 else 0):=by
 unfold jN;rw[Qu a,List.countP_append];congr 1;rw[List.countP_singleton]
theorem Nw:jN b n<=b.length:=List.countP_le_length
theorem Iy(C:cE l v b)(J:b.length<=1073741824) :
  XO prog 124 #[Xz v.ao b.length v.cap,Xy n] l fun e D=>e=XH (Xx XF (jN b n))/\D=l:=by
 obtain⟨o,f⟩:∃o,XN (v.ao=o):=⟨_,rfl⟩
 rw[f.out];go_enter func124,ntmps124;go_wp2
 go_loopg [5,6] b.length (fun g w i wr=>∃k d:Nat,k<=b.length/\g=b.length-k/\w=Xx XF d/\i=Xx XF k/\d<=k/\XN (jN (b.take k) n=d)/\wr=l)
 case atStart=>exact⟨0,0,by omega,by omega,rfl,rfl,by omega,rfl,rfl⟩
 case round =>
  obtain⟨k,d,I,H,rfl,rfl,B,c,rfl⟩:=hrel;by_cases a:k<b.length
  ·rcases C with z | ⟨g,m,u,t,x,p,q,F,G⟩
   ·rw[z]at a;simp at a
   ·have E:XI wr ⟨g,m+k,XJ⟩=XK (Xy b[k]):=(by rw[ab p];exact q k b[k] (Px a));obtain rfl:o=XK ⟨g,m,XJ⟩:=f.out.symm.trans x;have j:XN _:=I1 b n k a;have A:=ae p;rw[c.out]at j;generalize b[k]=y at *;clear p q;cases r:(y.toList==n.toList)
    ·rw[r,PG (by simp),QJ]at j;go_wp2;go_roundg (b.length-(k+1))
     case measure=>omega
     case rel=>exact⟨k+1,d,by omega,rfl,rfl,by go_num,by omega,j,rfl⟩
    ·rw[r,PJ rfl]at j;go_wp2;go_roundg (b.length-(k+1))
     case measure=>omega
     case rel=>exact⟨k+1,d+1,by omega,rfl,by go_num,by go_num,by omega,j,rfl⟩
  ·have s:XN (jN b n=d):=by
    have:=c.out;rw[R4 (by omega)]at this;exact this
   go_wp2;go_ret;exact⟨ay (by rw[s.out]),rfl⟩
theorem vP(I:cE l o f.Ub)(K:f.Ub.length<=1073741824) :
  XO prog 52 #[bW f o v] l fun e A=>∃n:Hd,e=XH (Xz n.ao (f.Ub.drop 1).length n.cap)/\cE A n (f.Ub.drop 1)/\aa [] l A:=by
 unfold bW;by_cases d:f.Ub.length=0
 ·have y:f.Ub=[]:=Qb d;have p:((f.Ub.length:Int)==0)=XL:=by rw[d];rfl
  go_enter func52,ntmps52;go_wp2;go_ret;exact⟨⟨XJ,0⟩,by rw[y];rfl,PI (by rw[y];rfl),(aa.refl _ _).alloc _⟩
 ·have p:((f.Ub.length:Int)==0)=XM:=P7.2 (by omega);obtain⟨J,a⟩:=o;rcases I with C | ⟨g,b,i,t,u,k,w,D,E⟩
  ·rw[C]at d;simp at d
  ·simp only at u D E;subst u;have H:=ae k;have c:XN ((f.Ub.drop 1).length=f.Ub.length-1):=by show _=_;simp
   have s:XN (∀r,aa [] l r->cE r ⟨XK ⟨g,b+1,XJ⟩,a-1⟩ (f.Ub.drop 1)):=fun r q=>PK ⟨g,b+1,i,t,rfl,q.get k (by simp),fun j x z=>by
    rw[R7]at z;rw[show b+1+j=b+(1+j) by omega];exact w (1+j) x z,by have:=c.out;show(f.Ub.drop 1).length<=a-1;omega,by show a-1<=_;omega⟩
   obtain⟨R,B⟩:∃R,XN (f.Ub.drop 1=R):=⟨_,rfl⟩
   rw[B.out]at c s ⊢;rw[c.out];clear w k;by_cases m:a=1
   ·have F:R=[]:=Qb (by have:=c.out;omega);subst m;go_enter func52,ntmps52;go_wp2
    all_goals go_ret
    all_goals exact⟨⟨XK ⟨g,b,XJ⟩,0⟩,by rw[show f.Ub.length-1=0 by omega];rfl,PI F,(aa.refl _ _).alloc _⟩
   ·have G:¬a-1=0:=(by omega);go_enter func52,ntmps52;go_wp2
    all_goals go_ret
    all_goals exact⟨⟨XK ⟨g,b+1,XJ⟩,a-1⟩,rfl,s.out _ ((aa.refl _ _).alloc _),(aa.refl _ _).alloc _⟩
theorem IJ:(prog.info? 161).map (fun i=>(i.zero,i.size,i.bytes))=XK (XK (XB #[Xy ⟨#[]⟩,Xx XF 0]),2,24):=by kernel_rfl
def A6(w:XP)(a:Nat)(vs L:List ByteArray)(k:Nat):Prop:=∃cur:Array XQ,w.heap[a]?=XK (XE cur 161)/\cur.size=L.length*2/\(∀i,i<L.length*2->∃u,cur[i]?=XK u)/\∀i x,i<k->L[i]?=XK x->cur[i*2]?=XK (Xy x)/\cur[i*2+1]?=XK (Xx XF (eS (aZ vs x)))
theorem A6.Ug(h:A6 d k S I N)(q:aa [] d t):A6 t k S I N:=by
 obtain⟨a,b,c⟩:=h;exact⟨a,q.get b (by simp),c⟩
theorem A6.free(h:A6 d k S I N)(i:Nat):d.frozen? ⟨k,i,XJ⟩=XM:=by
 obtain⟨a,b,-⟩:=h;exact aw b i
theorem A6.old(h:A6 d k S I N){i:Nat}(e:i<I.length*2):(∃u,XI d ⟨k,i,XJ⟩=XK u)/\k<d.heap.size:=by
 obtain⟨b,a,g,c,j⟩:=h;obtain⟨u,f⟩:=c i e;exact⟨⟨u,by rw[ab a];exact f⟩,ae a⟩
theorem A6.set(h:A6 d k S I N)(o:N<I.length):A6 ((d.setCell ⟨k,N*2,XJ⟩ (Xy I[N])).setCell ⟨k,N*2+1,XJ⟩ (Xx XF (eS (aZ S I[N])))) k S I (N+1):=by
 obtain⟨j,l,a,m,n⟩:=h;refine⟨_,af (af l _ _) _ _,by simp[a],fun i g=>?_,fun i x g b=>?_⟩
 ·rw[Qq,Qq];obtain⟨u,p⟩:=m i g;by_cases c:N*2+1=i
  ·rw[PJ c,PJ (by simp[a];omega)];exact⟨_,rfl⟩
  ·rw[PG c];by_cases f:N*2=i
   ·rw[PJ f,PJ (by rw[a];omega)];exact⟨_,rfl⟩
   ·rw[PG f];exact⟨u,p⟩
 ·rw[Qq,Qq,Qq,Qq];by_cases e:i=N
  ·subst e;rw[Px o]at b;cases b
   simp[a];omega
  ·rw[PG (by omega),PG (by omega),PG (by omega),PG (by omega)];exact n i x (by omega) b
theorem A6.src(h:A6 d k S I I.length):or d (XK ⟨k,0,XJ⟩) 2 (N6 S) I:=by
 obtain⟨f,b,m,n,g⟩:=h;intro i x e;obtain⟨j,l⟩:=g i x (PT.1 e).1 e;refine⟨k,rfl,ae b,fun c u a=>?_⟩;rw[ab b]
 match c,a with
 | 0,a=>cases a;exact j
 | 1,a=>cases a;exact l
 | c+2,a=>cases a
set_option maxRecDepth 100000
theorem zO(W:cE l o b)(X:cE l v M)(hl:b.length<=100000)(ap:M.length<=100000) :
  XO prog 102 #[Xz o.ao b.length o.cap,Xz v.ao M.length v.cap] l fun e p=>∃a,e=XH (Xz (XK ⟨a,0,XJ⟩) b.length b.length)/\or p (XK ⟨a,0,XJ⟩) 2 (N6 M) b/\l.heap.size<=a/\a<p.heap.size/\aa [] l p:=by
 obtain⟨i0,K,O,Q,R⟩:=Qg IJ;have m2:=fun l=>bR (P:=prog) l 159 161 i0 _ underlying159 K O b.length 2 Q (by rw[R];omega) (by omega);obtain⟨r,z⟩:∃r,XN (madeCells (XB #[Xy ⟨#[]⟩,Xx XF 0]).cells (b.length*2)=r):=⟨_,rfl⟩
 have u:XN (r.size=b.length*2):=by rw[<-z.out];exact QL _ _
 rw[z.out]at m2;have E:XN (A6 (l.alloc (XE r 161)) l.heap.size M b 0):=⟨r,Pz _ _,u.out,fun i V=>⟨r[i]'(by rw[u.out];exact V),Rd _⟩,fun i x V=>by omega⟩;have H:XN _:=W;have F:XN (∀x c,aa [] l c->XO prog 125 #[Xz v.ao M.length v.cap,Xy x] c fun e p=>e=XH (Xx XF (eS (aZ M x)))/\p=c):=fun x c q=>Iz v M x c (X.Ug q) (by omega);clear W X;obtain⟨D,s⟩:∃D,XN (o.ao=D):=⟨_,rfl⟩
 rw[s.out];go_enter func102,ntmps102;go_wp2
 go_loopg [6] b.length (fun g i wr=>∃k:Nat,k<=b.length/\g=b.length-k/\i=Xx XF k/\XN (A6 wr l.heap.size M b k)/\XN (aa [] l wr))
 case atStart=>exact⟨0,by omega,by omega,rfl,E,(aa.refl _ _).alloc _⟩
 case round =>
  obtain⟨k,hk,hg,rfl,C,B⟩:=hrel;by_cases f:k<b.length
  ·have ah:(k:Int)<b.length:=(by omega);rcases H.out with h0 | ⟨g,j,I,t,e1,n,T,e4,e5⟩
   ·rw[h0]at f;simp at f
   ·have ad:=ae n;have m:g≠l.heap.size:=(by omega);have J:=B.out.get n (by simp);clear n;have Z:XI wr ⟨g,j+k,XJ⟩=XK (Xy b[k]):=(by rw[ab J];exact T k b[k] (Px f));obtain rfl:D=XK ⟨g,j,XJ⟩:=s.out.symm.trans e1;have ag:=ae J;have G:XN _:=(fun c (q:aa [] wr c)=>F.out b[k] c (B.out.trans q));have d:=C.out;obtain⟨⟨u0,t0⟩,ac⟩:=d.old (i:=k*2) (by omega);obtain⟨⟨u1,t1⟩,-⟩:=d.old (i:=k*2+1) (by omega);have f0:=d.free (k*2);have f1:=d.free (k*2+1);have w:XN (∀c,aa [] wr c->A6 ((c.setCell ⟨l.heap.size,k*2,XJ⟩ (Xy b[k])).setCell ⟨l.heap.size,k*2+1,XJ⟩ (Xx XF (eS (aZ M b[k])))) l.heap.size M b (k+1)/\aa [] l ((c.setCell ⟨l.heap.size,k*2,XJ⟩ (Xy b[k])).setCell ⟨l.heap.size,k*2+1,XJ⟩ (Xx XF (eS (aZ M b[k]))))):=fun c q=>⟨(C.out.Ug q).set f,((B.out.trans q).setCell (PK (PB _)) _).setCell (PK (PB _)) _⟩
    generalize b[k]=y at *;generalize eS (aZ M y)=S at *;have am:((wr.setCell ⟨l.heap.size,k*2,XJ⟩ (Xy y)).setCell ⟨l.heap.size,k*2+1,XJ⟩ (Xx XF S)).drew.cell? ⟨g,j+k,XJ⟩=XK (Xy y):=by
     have hb:((wr.setCell ⟨l.heap.size,k*2,XJ⟩ (Xy y)).setCell ⟨l.heap.size,k*2+1,XJ⟩ (Xx XF S)).drew.heap[g]?=wr.heap[g]?:=by
      show((wr.setCell ⟨l.heap.size,k*2,XJ⟩ (Xy y)).setCell ⟨l.heap.size,k*2+1,XJ⟩ (Xx XF S)).heap[g]?=_
      rw[PM _ _ _ _ m,PM _ _ _ _ m]
     rw[Qn hb];exact Z
    clear J T d;(go_upto_region 5 with fail);go_region_held3 (fun p=>XI p ⟨g,j+k,XJ⟩=XK (Xy y)) (go_keep) ((go_at_call 125;refine PE (G.out _ (by exact(aa.refl [] _).drew)) ?_;rintro e6 w6 ⟨rfl,A⟩;rw[A];clear A));go_wp2;go_roundg (b.length-(k+1))
    case measure=>omega
    case rel=>exact⟨k+1,by omega,rfl,by go_num,(w.out wr (aa.refl _ _)).1.Ug (aa.refl [] _).drew,(w.out wr (aa.refl _ _)).2.drew⟩
  ·have ai:¬(k:Int)<b.length:=(by omega);have Y:XN (or wr (XK ⟨l.heap.size,0,XJ⟩) 2 (N6 M) b):=by
    have L:k=b.length:=(by omega);have U:=C.out;rw[L]at U;exact U.src
   have N:l.heap.size<wr.heap.size:=(by obtain⟨I,h1,-⟩:=C.out;exact ae h1);go_wp2;go_ret;exact⟨l.heap.size,rfl,Y.out,PB _,N,B.out⟩
theorem cK.viewN{l:List St}{H:Nat->Hd}(h:cK d k N l H)(n:Nat)(a:n<l.length):cE d (H (10+2*n)) l[n].Ub:=(h.Us.syms n l[n] (Px a)).view
def kg(l:List St)(L:List ByteArray)(h:Nat):Bool:=((bL l h).kind==2)&&(jN L (ak (bL l h))==1)
theorem wB(l:List St)(H:Nat->Hd)(G z:Hd)(a:List Nat)(L:List ByteArray)(w:XP)(h:cK w x y2 l H)(T:pU w G.ao a)(U:cE w z L)(hl:L.length<=100000)(ai:a.length<=100000)(c:∀A∈a,A<l.length)(V:∀s∈l,s.Ub.length<=100000) :
  XO prog 101 #[XA (XK ⟨x,y2,XJ⟩),Xz G.ao a.length G.cap,Xz z.ao L.length z.cap] w fun e y=>e=XH (XC (a.all (kg l L)))/\aa [] w y:=by
 have N:XN (∀n (o:n<l.length) b,aa [] w b->XO prog 51 #[XA (XK ⟨x,y2,XJ⟩),Xx XF n] b fun e y=>e=XH (bW l[n] (H (10+2*n)) (H (11+2*n)))/\aa [] b y):=fun n o b q=>aQ x y2 n l H b (h.Ug q) o;have O:XN (∀n (o:n<l.length) b,aa [] w b->XO prog 97 #[bW l[n] (H (10+2*n)) (H (11+2*n))] b fun e y=>e=XH (Xy (ak l[n]))/\aa [] b y):=fun n o b q=>fj l[n] _ _ b ((h.Ug q).viewN n o) (by have:=V _ (PD o);omega);have M:XN (∀A b,aa [] w b->XO prog 124 #[Xz z.ao L.length z.cap,Xy A] b fun e y=>e=XH (Xx XF (jN L A))/\y=b):=fun A b q=>Iy z L A b (U.Ug q) (by omega);have X:XN _:=T;have K:XN _:=c;clear h T U c V;obtain⟨J,B⟩:∃J,XN (G.ao=J):=⟨_,rfl⟩
 rw[B.out];go_enter func101,ntmps101;go_wp2
 go_loopg [7] a.length (fun g i wr=>∃k:Nat,k<=a.length/\g=a.length-k/\i=Xx XF k/\XN ((a.take k).all (kg l L)=XL)/\XN (aa [] w wr))
 case atStart=>exact⟨0,by omega,by omega,rfl,rfl,aa.refl _ _⟩
 case round =>
  obtain⟨k,hk,hg,rfl,u,j⟩:=hrel;by_cases c:k<a.length
  ·have ad:(k:Int)<a.length:=(by omega);obtain⟨g,Y,ac,c2⟩:=(pU.Ug X.out j.out) k a[k] (Px c);obtain rfl:J=XK ⟨g,0,XJ⟩:=B.out.symm.trans Y;have o:=K.out _ (PD c);have D:XN ((a.take (k+1)).all (kg l L)=((a.take k).all (kg l L)&&kg l L a[k])):=by
    show _=_;rw[Qu c,List.all_append];simp
   have d:XN (kg l L a[k]=XM->a.all (kg l L)=XM):=fun q=>by
    rw[Ts];exact⟨a[k],PD c,by rw[q];simp⟩
   have R:XN (kg l L a[k]=((l[a[k]].kind==2)&&(jN L (ak l[a[k]])==1))):=(by show _=_;unfold kg;rw[dO o]);have p:XN _:=N.out _ o wr j.out;have v:XN _:=O.out _ o;have ah:=Nw L (ak l[a[k]]);rw[R.out]at D d;rw[u.out,SN]at D;unfold bW at p v;generalize a[k]=m at *;generalize l[m]=s at *;clear R;cases r:(s.kind==2)
   ·have P:(s.kind != 2)=XL:=(by simp[bne,r]);rw[r,Tm]at d;have C:XN _:=d.out rfl;go_wp2_with (go_at_call 51;refine PE p.out ?_;rintro S W ⟨rfl,t⟩);go_ret;exact⟨aH C.out.symm,(j.out.trans t).alloc _⟩
   ·have P:(s.kind != 2)=XM:=(by simp[bne,r]);rw[r,SN]at D d;have E:XN _:=M.out (ak s);cases I:(jN L (ak s)==1)
    ·rw[I]at d;have C:XN _:=d.out rfl;have Q:((jN L (ak s):Int) != 1)=XL:=by
      have:jN L (ak s)≠1:=(by simpa using I);simp;omega
     generalize jN L (ak s)=oc at *;go_wp2_with (first | (go_at_call 51;refine PE p.out ?_;rintro S W ⟨rfl,t⟩) | (go_at_call 97;refine PE (v.out _ (by exact(j.out.trans t).alloc _)) ?_;rintro Z w3 ⟨rfl,F⟩) | (go_at_call 124;refine PE (E.out _ (by exact((j.out.trans t).alloc _).trans F)) ?_;rintro e4 w4 ⟨rfl,f⟩;rw[f];clear f));go_ret;exact⟨aH C.out.symm,((j.out.trans t).alloc _).trans F⟩
    ·rw[I]at D;have Q:((jN L (ak s):Int) != 1)=XM:=by
      have:jN L (ak s)=1:=(by simpa using I);rw[this];rfl
     generalize jN L (ak s)=oc at *;go_wp2_with (first | (go_at_call 51;refine PE p.out ?_;rintro S W ⟨rfl,t⟩) | (go_at_call 97;refine PE (v.out _ (by exact(j.out.trans t).alloc _)) ?_;rintro Z w3 ⟨rfl,F⟩) | (go_at_call 124;refine PE (E.out _ (by exact((j.out.trans t).alloc _).trans F)) ?_;rintro e4 w4 ⟨rfl,f⟩;rw[f];clear f));go_roundg (a.length-(k+1))
     case measure=>omega
     case rel=>exact⟨k+1,by omega,rfl,by go_num,D,((j.out.trans t).alloc _).trans F⟩
  ·have ag:¬(k:Int)<a.length:=(by omega);have C:XN (a.all (kg l L)=XL):=by
    have:=u.out;rw[R4 (by omega)]at this;exact this
   go_wp2;go_ret;exact⟨aH C.out.symm,j.out⟩
def E3(codes:List ByteArray)(L:List iX)(H:Nat->Hd):List XQ:=[Xz (H 0).ao codes.length (H 0).cap,Xz (H 1).ao L.length (H 1).cap]
def lp(L:List iX):fd:=xr 163 4 MS L
def E4(codes:List ByteArray)(L:List iX):Nat->fd
 | 0=>au codes
 | 1=>lp L
 | _+2=>au []
theorem E5:∀j,j≠0->E4 M c j=E4 b c j:=by
 intro j a
 match j,a with
 | 0,a=>exact absurd rfl a
 | 1,_=>rfl
 | j+2,_=>rfl
theorem yZ:∀j,j≠1->E4 T c j=E4 T y j:=by
 intro j a
 match j,a with
 | 0,_=>rfl
 | 1,a=>exact absurd rfl a
 | j+2,_=>rfl
theorem or.keptQ{α:Type}{f:α->List XQ}{L:List α}(h:or d y5 k f L)(b:dA y3 d t)(l:∀g,y5=XK ⟨g,0,XJ⟩->¬y3 g):or t y5 k f L:=by
 intro j x n;obtain⟨g,e,a,i⟩:=h j x n;have m:=b.block g a (l g e);exact⟨g,e,PH a b.size,fun c u o=>by rw[Qn m];exact i c u o⟩
theorem pU.keptQ{L:List Nat}(h:pU d y5 L)(k:dA y3 d t)(c:∀g,y5=XK ⟨g,0,XJ⟩->¬y3 g):pU t y5 L:=by
 intro j x i;obtain⟨g,e,a,b⟩:=h j x i;have f:=k.block g a (c g e);exact⟨g,e,PH a k.size,by rw[Qn f];exact b⟩
theorem jK.keptQ(h:jK d S g y4)(k:dA y3 d t)(b:¬y3 g.ap)(c:∀a,g.ag=XK ⟨a,0,XJ⟩->¬y3 a):jK t S g y4 :=
 ⟨h.lab,h.cod,h.np,h.parts.keptQ k (fun a e=>by cases e;exact b),h.ng,h.len,h.gaps.keptQ k c,h.typ⟩
theorem xl{p:Nat->Bool}{n:Nat}(h:(List.range n).find? p=XK k):∀i,i<k->p i=XM:=by
 induction n with
 | zero=>simp at h
 | succ n b =>
  intro i a;rw[QB,Tu]at h;cases e:(List.range n).find? p with
  | some z=>rw[e]at h;cases h;exact b e i a
  | none =>
   rw[e]at h;have c:k=n:=by
    simp only[Option.none_or,List.find?_cons,List.find?_nil]at h;split at h
    ·cases h;rfl
    ·cases h
   have:=Q1.1 e i (PV.2 (by omega));simpa using this
def Kv(codes c2:List ByteArray):Prop:=∀c k,aZ codes c=XK k->aZ c2 c=XK k
theorem Kv.refl:Kv M M:=fun _ _ h=>h
theorem za:Kv b (b++[n]):=fun c k h=>by
 unfold aZ at h ⊢;have d:=PV.1 (Qc h);have e:=Rf h;refine dN (by rw[PQ];omega) ?_ (fun i a=>?_)
 ·rw[Py,PC d,<-Py];exact e
 ·rw[Py,PC (by omega),<-Py];exact xl h i a
theorem Ji(h:aZ b n=XJ):aZ (b++[n]) n=XK b.length:=by
 refine dN (by simp) ?_ (fun i a=>?_)
 ·rw[Py,PR (PB _),Rb];simp
 ·rw[Py,PC a,<-Py];have:=Q1.1 h i (PV.2 a);simpa using this
theorem jK.grow(h:jK d S g y4)(a:Kv S I):jK d I g y4:=⟨h.lab,a _ _ h.cod,h.np,h.parts,h.ng,h.len,h.gaps,fun v b=>a _ _ (h.typ v b)⟩
structure jJ(w0 w:XP)(gm:Nat)(tcs codes:List ByteArray)(Ps:List cY)(L:List iX)(H:Nat->Hd):Prop where
 bag:aB w gm 134 (E3 codes L H) (E4 codes L) H
 kp:aa [] w0 w
 lo:w0.heap.size<=gm
 hi:∀k,cD H k->w0.heap.size<=k
 len:L.length=Ps.length
 each:∀(n:Nat) (p:iX) (P:cY),L[n]?=XK p->Ps[n]?=XK P->jK w codes p P
 far:∀p∈L,(p.ap≠gm/\¬cD H p.ap/\p.ap<w.heap.size)/\∀g,p.ag=XK ⟨g,0,XJ⟩->g≠gm/\¬cD H g/\g<w.heap.size
 dist:ug codes
 sub:∀c∈codes,c∈tcs
section
variable {w0 w w':XP} {gm:Nat} {tcs codes:List ByteArray} {Ps:List cY} {L:List iX} {H H':Nat->Hd}
theorem jJ.Ug(h:jJ w0 w gm tcs codes Ps L H)(k:aa [] w w'):jJ w0 w' gm tcs codes Ps L H :=
 ⟨h.bag.Ug k,h.kp.trans k,h.lo,h.hi,h.len,fun n p P b c=>(h.each n p P b c).Ug k,fun p a=>⟨⟨(h.far p a).1.1,(h.far p a).1.2.1,PH (h.far p a).1.2.2 k.size⟩,fun g e=>⟨((h.far p a).2 g e).1,((h.far p a).2 g e).2.1,PH ((h.far p a).2 g e).2.2 k.size⟩⟩,h.dist,h.sub⟩
theorem jJ.turned(h:jJ w0 w gm tcs codes Ps L H)(t:aj gm w H w' H')(g:aB w' gm 134 (E3 S L H') (E4 S L) H')(d:Kv codes S)(j:ug S)(m:∀c∈S,c∈tcs):jJ w0 w' gm tcs S Ps L H':=by
 refine⟨g,aa.ofP h.kp t.1 (fun k a=>?_),h.lo,fun k a=>?_,h.len,fun n p P b i=>?_,fun p l=>?_,j,m⟩
 ·rcases a with rfl | a
  ·exact h.lo
  ·exact h.hi k a
 ·rcases t.2 k a with q | q
  ·exact h.hi k q
  ·exact Qa h.kp.size q
 ·have f:=h.far p (Qf b);refine((h.each n p P b i).keptQ t.1 (fun q=>?_) (fun g e q=>?_)).grow d
  ·rcases q with q | q
   ·exact f.1.1 q
   ·exact f.1.2.1 q
  ·rcases q with q | q
   ·exact(f.2 g e).1 q
   ·exact(f.2 g e).2.1 q
 ·have f:=h.far p l;exact⟨⟨f.1.1,t.fresh _ f.1.2.2 f.1.2.1,PH f.1.2.2 t.1.size⟩,fun g e=>⟨(f.2 g e).1,t.fresh _ (f.2 g e).2.2 (f.2 g e).2.1,PH (f.2 g e).2.2 t.1.size⟩⟩
end
theorem Kd{t:ByteArray}(h:ug S)(c:aZ S t=XJ):ug (S++[t]):=by
 intro i j a b;rw[PQ]at b;replace b:j<S.length+1:=b;rw[Py,PC (by omega),<-Py];by_cases e:j<S.length
 ·rw[Py (l:=S++[t]),PC e,<-Py];exact h i j a e
 ·rw[Py (l:=S++[t]),PR (by omega),show j-S.length=0 by omega];have:=Q1.1 c i (PV.2 (by omega));simpa using this
def rW(w0:XP)(gm:Nat)(tcs codes:List ByteArray)(Ps:List cY)(L:List iX)(H:Nat->Hd)(t:ByteArray)(w:XP)(e:Ending)(w':XP):Prop:=∃c2 H' k,e=XH (Xx XF ((k:Nat):Int))/\aZ c2 t=XK k/\jJ w0 w' gm tcs c2 Ps L H'/\aj gm w H w' H'/\Kv codes c2
theorem p6(h:jJ D l x m T s y a)(X:n∈m)(hl:T.length<=100000) :
  XO prog 98 #[XA (XK ⟨x,0,XJ⟩),Xy n] l fun e Z=>rW D x m T s y a n l e Z:=by
 have M:XI l ⟨x,0,XJ⟩=XK (Xz (a 0).ao T.length (a 0).cap):=by rw[h.bag.cell];rfl
 have E:=h.bag.lt;have o:XN _:=(uV x T (a 0) n l M E (aB.own h.bag 0).view (by omega));have HB:XN _:=h;cases p:aZ T n with
 | some k =>
  have hk:k<T.length:=PV.1 (Qc p);rw[p]at o;have z:XN (rW D x m T s y a n l (XH (Xx XF (k:Int))) l):=⟨T,a,k,rfl,p,h,aj.refl _ _ _,Kv.refl _⟩;have F:((eS (XK k):Int))=(k:Int):=rfl;clear h;go_enter func98,ntmps98;go_wp2_with (go_at_call 82;refine PE o.out ?_;rintro Q L ⟨rfl,b⟩;rw[b];clear b);go_ret;exact z.out
 | none =>
  rw[p]at o;obtain⟨Y,W,H,I,J⟩:=Qg ey;have B:=aB.Ug h.bag ((aa.refl [] l).alloc (XE #[Xy n] 9));have i:=aB.own B 0;have C:=h.bag.free 0;have z:XN (∀w r,aB w x 134 (E3 (T++[n]) y r) (E4 (T++[n]) y) r->aj x (l.alloc (XE #[Xy n] 9)) a w r->rW D x m T s y a n l (XH (Xx XF (T.length:Int))) w):=fun w r R S=>by
   have O:=S.first ((aa.refl [] l).alloc (XE #[Xy n] 9));refine⟨T++[n],r,T.length,rfl,Ji T n p,h.turned O R (za T n) (Kd h.dist p) (fun c U=>?_),O,za T n⟩;rcases Qe.1 U with q | q
   ·exact h.sub c q
   ·rw[Qd.1 q];exact X
  have F:((eS XJ:Int))=-1:=rfl;clear h;go_enter func98,ntmps98;go_wp2_with (first | (go_at_call 82;refine PE o.out ?_;rintro Q L ⟨rfl,b⟩;rw[b];clear b) | (at_builtin;refine aD _ rfl (.tmp 16) (.tmp 18) 22 rfl Y (Xy ⟨#[]⟩) 16 (a 0) (au T) underlying22 W H I J rfl PY rfl i ⟨l.heap.size,0,XJ⟩ 1 1 [Xy n] rfl rfl ?c1 ?N PY ?c3 ?c4 ?_))
  case c1=>intro j u v;match j,v with | 0,v=>simp at v;subst v;simp[Addr.add]
  case N=>intro u P;simp at P;subst P;rfl
  case c3=>simp only[au];unfold maxLen;omega
  case c4=>simp only[au];omega
  ·intro g d L b t f;obtain⟨k0,f0,A⟩:=aB.app B (cs':=E3 (T++[n]) y (cX a 0 ⟨XK ⟨g,0,XJ⟩,d⟩)) (rows':=E4 (T++[n]) y) 0 0 g d (T.length+1) _ b (bJ T n) t (by simpa using f) (E5 T _ y) _ rfl (by simp[E3,cX]);have K:=A.out.1;have N:(L.setCell ⟨x,0,XJ⟩ (Xz (XK ⟨g,0,XJ⟩) (T.length+1) d)).cell? ⟨x,0,XJ⟩=XK (Xz (XK ⟨g,0,XJ⟩) (T.length+1) d):=by
    rw[K.cell];simp[E3,cX]
   have V:=K.lt;clear B i b t f C K M;have G:wrap64 (T.length:Int)=T.length:=(by unfold wrap64;omega);go_wp2;go_ret;show rW D x m T s y a n l (XH (Xx XF (wrap64 (T.length:Int)))) _;rw[G];exact z.out _ _ A.out.1 A.out.2
section
variable {w0 w w':XP} {gm:Nat} {tcs codes:List ByteArray} {Ps:List cY} {L:List iX} {H H':Nat->Hd}
theorem jJ.push(h:jJ w0 w gm tcs codes Ps L H)(r:jK w codes g y4)(o:(g.ap≠gm/\¬cD H g.ap/\g.ap<w.heap.size)/\∀a,g.ag=XK ⟨a,0,XJ⟩->a≠gm/\¬cD H a/\a<w.heap.size)(t:aj gm w H w' H')(a:aB w' gm 134 (E3 codes (L++[g]) H') (E4 codes (L++[g])) H'):jJ w0 w' gm tcs codes (Ps++[y4]) (L++[g]) H':=by
 have c:∀q∈L++[g],(q.ap≠gm/\¬cD H q.ap/\q.ap<w.heap.size)/\∀a,q.ag=XK ⟨a,0,XJ⟩->a≠gm/\¬cD H a/\a<w.heap.size:=fun q i=>by
  rcases Qe.1 i with e | e
  ·exact h.far q e
  ·rw[Qd.1 e];exact o
 have j:∀(q:iX) (Q:cY),q∈L++[g]->jK w codes q Q->jK w' codes q Q:=fun q Q i p=>by
  have f:=c q i;refine p.keptQ t.1 (fun z=>?_) (fun a e z=>?_)
  ·rcases z with z | z
   ·exact f.1.1 z
   ·exact f.1.2.1 z
  ·rcases z with z | z
   ·exact(f.2 a e).1 z
   ·exact(f.2 a e).2.1 z
 refine⟨a,aa.ofP h.kp t.1 (fun k d=>?_),h.lo,fun k d=>?_,by rw[PQ,PQ,h.len];rfl,fun n q Q b l=>?_,fun q i=>?_,h.dist,h.sub⟩
 ·rcases d with rfl | d
  ·exact h.lo
  ·exact h.hi k d
 ·rcases t.2 k d with z | z
  ·exact h.hi k z
  ·exact Qa h.kp.size z
 ·refine j q Q (Qf b) ?_;by_cases e:n<L.length
  ·rw[PC e]at b;rw[PC (by rw[<-h.len];exact e)]at l;exact h.each n q Q b l
  ·have m:=(PT.1 b).1;rw[PQ]at m;replace m:n<L.length+1:=m;rw[PR (by omega),show n-L.length=0 by omega]at b;rw[PR (by rw[<-h.len];omega),show n-Ps.length=0 by rw[<-h.len];omega]at l;cases b
   cases l
   exact r
 ·have f:=c q i;exact⟨⟨f.1.1,t.fresh _ f.1.2.2 f.1.2.1,PH f.1.2.2 t.1.size⟩,fun a e=>⟨(f.2 a e).1,t.fresh _ (f.2 a e).2.2 (f.2 a e).2.1,PH (f.2 a e).2.2 t.1.size⟩⟩
theorem jJ.cells(h:jJ w0 w gm tcs codes Ps L H):XI w ⟨gm,0,XJ⟩=XK (Xz (H 0).ao codes.length (H 0).cap)/\XI w ⟨gm,1,XJ⟩=XK (Xz (H 1).ao L.length (H 1).cap)/\gm<w.heap.size:=by
 refine⟨?_,?_,h.bag.lt⟩ <;> (rw[h.bag.cell];rfl)
end
theorem II:(prog.info? 163).map (fun i=>(i.zero,i.size,i.bytes))=XK (XK (XB #[Xy ⟨#[]⟩,Xx XF 0,Xz XJ 0 0,Xz XJ 0 0]),4,72):=by kernel_rfl
theorem DW:∀u∈MS y6,u.oneCell'=XL:=by
 intro u a;simp only[MS,List.mem_cons,List.not_mem_nil,or_false]at a;rcases a with rfl | rfl | rfl | rfl <;> rfl
theorem tI:(⟨(lp c).e,(lp c).size,(lp c).n+1,(lp c).xs++MS y6⟩:fd)=lp (c++[y6]):=F7 _ _ _ _ _
theorem Ho(k:Int)(a:Option Addr)(b c:Nat):(Instr.build 163 #[(0,Xy n),(1,Xx XF k),(2,Xz a b c)]).run prog D=.ok (XB #[Xy n,Xx XF k,Xz a b c,Xz XJ 0 0]) D :=
 run_build D 163 _ _ (by kernel_rfl)
def N2(w0:XP)(gm:Nat)(tcs:List ByteArray)(Ps:List cY)(P:cY)(H:Nat->Hd)(w:XP)(e:Ending)(w':XP):Prop:=e=XH (XD #[])/\∃c2 L2 H2,jJ w0 w' gm tcs c2 (Ps++[P]) L2 H2/\aj gm w H w' H2
theorem rk(h:jJ D l x m T s y a)(hv:cE D o f.Ub)(hl:f.Ub.length<=100000)(ht:ax f∈m)(bm:T.length<=100000)(cj:y.length<=100000) :
  XO prog 78 #[XA (XK ⟨x,0,XJ⟩),bW f o v] l fun e U=>N2 D x m s (BN f) a l e U:=by
 have O:XN (∀b,aa [] D b->XO prog 97 #[bW f o v] b fun e U=>e=XH (Xy (ak f))/\aa [] b U):=fun b q=>fj f o v b (hv.Ug q) (by omega);have N:XN (∀b,aa [] D b->XO prog 99 #[bW f o v] b fun e U=>e=XH (Xy (ax f))/\aa [] b U):=fun b q=>kR f o v b (hv.Ug q) (by omega);have a9:XN (∀b,jJ D b x m T s y a->XO prog 98 #[XA (XK ⟨x,0,XJ⟩),Xy (ax f)] b fun e U=>rW D x m T s y a (ax f) b e U):=fun b g=>p6 D x m T s y a (ax f) b g ht bm;obtain⟨i0,bp,bv,bw,bx⟩:=Qg IJ;have m2:=fun l=>bR (P:=prog) l 159 161 i0 _ underlying159 bp bv 1 2 bw (by rw[bx];omega) (by omega);obtain⟨A,a0⟩:∃A,XN (madeCells (XB #[Xy ⟨#[]⟩,Xx XF 0]).cells (1*2)=A):=⟨_,rfl⟩
 have am:XN (A.size=1*2):=by rw[<-a0.out];exact QL _ _
 rw[a0.out]at m2;have m3:∀l,(Instr.makeSlice 159 (Xx XF 1) (Xx XF 1)).run prog l=.ok (Xz (XK ⟨l.heap.size,0,XJ⟩) 1 1) (l.alloc (XE A 161)):=fun l=>m2 l;clear m2;obtain⟨W,HW⟩:∃W,XN (l.alloc (XE #[Xx XF f.kind,Xy f.label,Xz o.ao f.Ub.length o.cap,Xz v.ao f.Um.length v.cap,Xy f.fin.file,Xx XF f.fin.line,Xx XF f.fin.col,Xx XF f.til] 110)=W):=⟨_,rfl⟩
 have HB:XN _:=h;clear h;unfold bW at O N ⊢;go_enter func78,ntmps78;go_upto_region 1 with fail
 rw[HW.out];have BW:W.heap[l.heap.size]?=XK (XE #[Xx XF f.kind,Xy f.label,Xz o.ao f.Ub.length o.cap,Xz v.ao f.Um.length v.cap,Xy f.fin.file,Xx XF f.fin.line,Xx XF f.fin.col,Xx XF f.til] 110):=by rw[<-HW.out];exact Pz _ _
 have kW:aa [] l W:=by rw[<-HW.out];exact(aa.refl [] _).alloc _
 have S:aa [] W (W.alloc (XE A 161)):=(aa.refl [] _).alloc _;have BA:(W.alloc (XE A 161)).heap[W.heap.size]?=XK (XE A 161):=Pz _ _;have cs:l.heap.size<W.heap.size:=ae BW;obtain⟨c,K⟩:∃c,XN (l.heap.size=c):=⟨_,rfl⟩
 have cl:=HB.out.bag.lt;have be:XN _:=fun k (q:cD a k)=>HB.out.bag.inlt q;have L:XN (∀b,aa [] W b->(XI b ⟨c,0,XJ⟩=XK (Xx XF f.kind)/\XI b ⟨c,1,XJ⟩=XK (Xy f.label)/\XI b ⟨c,2,XJ⟩=XK (Xz o.ao f.Ub.length o.cap)/\XI b ⟨c,3,XJ⟩=XK (Xz v.ao f.Um.length v.cap))/\(XI b ⟨c,4,XJ⟩=XK (Xy f.fin.file)/\XI b ⟨c,5,XJ⟩=XK (Xx XF f.fin.line)/\XI b ⟨c,6,XJ⟩=XK (Xx XF f.fin.col)/\XI b ⟨c,7,XJ⟩=XK (Xx XF f.til))/\c<b.heap.size):=fun b q=>by
  rw[<-K.out];have B:=q.get BW (by simp);refine⟨⟨?_,?_,?_,?_⟩,⟨?_,?_,?_,?_⟩,ae B⟩ <;> (rw[ab B];rfl)
 have bg:XN (∀b,aa [] (W.alloc (XE A 161)) b->∃u0 u1,XI b ⟨W.heap.size,0,XJ⟩=XK u0/\XI b ⟨W.heap.size,1,XJ⟩=XK u1/\b.frozen? ⟨W.heap.size,0,XJ⟩=XM/\b.frozen? ⟨W.heap.size,1,XJ⟩=XM/\W.heap.size<b.heap.size):=fun b q=>by
  have B:=q.get BA (by simp);have hm:=am.out;exact⟨A[0]'(by omega),A[1]'(by omega),by rw[ab B];exact Rd _,by rw[ab B];exact Rd _,aw B _,aw B _,ae B⟩
 have bd:XN (∀b,aa [] (W.alloc (XE A 161)) b->∃r,((b.setCell ⟨W.heap.size,0,XJ⟩ (Xy (ak f))).setCell ⟨W.heap.size,1,XJ⟩ (Xx XF (-1))).heap[W.heap.size]?=XK (XE r 161)/\r[0]?=XK (Xy (ak f))/\r[1]?=XK (Xx XF (-1))):=fun b q=>by
  have B:=q.get BA (by simp);have hm:=am.out;refine⟨_,af (af B _ _) _ _,?_,?_⟩
  ·rw[Qq,Qq];simp[hm]
  ·rw[Qq];simp[hm]
 obtain⟨⟨z0,z1,z2,z3⟩,⟨z4,z5,z6,z7⟩,z8⟩:=L.out _ S;have ai:XN _:=kW;have bl:XN _:=(fun b (q:aa [] W b)=>O.out b ((HB.out.kp.trans kW).trans q));have bk:XN _:=(fun b (q:aa [] W b)=>N.out b ((HB.out.kp.trans kW).trans q));have ah:XN _:=S;rw[K.out];generalize hvs:ak f=vs at *;clear BW BA O N kW S;go_upto_region 3 with (go_at_call 97;refine PE (bl.out _ ah.out) ?_;rintro e2 w2 ⟨rfl,k2⟩;obtain⟨u0,u1,g0,g1,f0,f1,la⟩:=bg.out w2 k2)
 obtain⟨E,az⟩:∃E,XN ((w2.setCell ⟨W.heap.size,0,XJ⟩ (Xy vs)).setCell ⟨W.heap.size,1,XJ⟩ (Xx XF (-1))=E):=⟨_,rfl⟩
 have i:XN (aa [] W E):=by
  show aa [] W E;rw[<-az.out];exact((ah.out.trans k2).setCell (PK (PB _)) _).setCell (PK (PB _)) _
 have J:XN _:=bd.out w2 k2;rw[az.out]at J ⊢;have a8:XN (jJ D E x m T s y a):=HB.out.Ug (ai.out.trans i.out);obtain⟨⟨b0,b1,b2,b3⟩,⟨b4,b5,b6,b7⟩,b8⟩:=L.out _ i.out;have bc:XN _:=(fun b (q:aa [] E b)=>a9.out b (a8.out.Ug q));generalize htc:ax f=tc at *;clear u0 u1 g0 g1 f0 f1 k2 z0 z1 z2 z3 z4 z5 z6 z7 z8 m3;go_upto_region 4 with (first | (go_at_call 99;refine PE (bk.out _ i.out) ?_;rintro e4 w4 ⟨rfl,Y⟩) | (go_at_call 98;refine PE (bc.out _ Y) ?_;rintro e5 d ⟨F,V,k,rfl,bs,t,w,bo⟩))
 have cn:W.heap.size<=E.heap.size:=i.out.size;have co:E.heap.size<=w4.heap.size:=Y.size;have C:∀q,l.heap.size<=q->q<w4.heap.size->d.heap[q]?=w4.heap[q]?/\¬cD V q:=fun q h1 h2=>by
  have hn:¬cD a q:=fun z=>by have:=be.out q z;omega
  exact⟨w.1.block q h2 (fun z=>z.elim (fun e=>by omega) hn),w.fresh q h2 hn⟩
 obtain⟨r,B3,y0,y1⟩:=J.out;have ca:=ae B3;have B5:d.heap[W.heap.size]?=XK (XE r 161):=by
  rw[(C W.heap.size (by omega) (by omega)).1];exact Y.get B3 (by simp)
 have a1:c<w4.heap.size:=by omega
 have c1:XI d ⟨c,1,XJ⟩=XK (Xy f.label):=by
  rw[Qn (C c (by rw[K.out];exact PB _) a1).1];exact(L.out w4 (i.out.trans Y)).1.2.1
 have cb:c<d.heap.size:=PH a1 w.1.size;obtain⟨-,d1,b9⟩:=t.cells;have ch:=t.bag.free 1;obtain⟨p,HP⟩:∃p:iX,XN (p=⟨f.label,k,W.heap.size,1,XJ,[]⟩):=⟨_,rfl⟩
 have av:XN (jK d F p (BN f)):=by
  rw[HP.out];refine⟨rfl,?_,rfl,?_,rfl,rfl,(fun k n h=>by cases h),fun ct h=>absurd h (Ss _)⟩
  ·show aZ F (ax f)=XK k;rw[htc];exact bs
  ·intro cd cf hx;have a3:([ak f]:List ByteArray)[cd]?=XK cf:=hx;have hm:cd=0:=by
    have:=(PT.1 a3).1;simpa using this
   subst hm;have a4:ak f=cf:=by simpa using a3
   rw[hvs]at a4;subst a4;refine⟨W.heap.size,rfl,ae B5,fun q u R=>?_⟩;rw[ab B5]
   match q,R with
   | 0,R=>cases R;exact y0
   | 1,R=>cases R;exact y1
   | q+2,R=>cases R
 have ad:XN ((p.ap≠x/\¬cD V p.ap/\p.ap<d.heap.size)/\∀g,p.ag=XK ⟨g,0,XJ⟩->g≠x/\¬cD V g/\g<d.heap.size):=by
  rw[HP.out];exact⟨⟨by show W.heap.size≠x;omega,(C W.heap.size (by omega) (by omega)).2,ae B5⟩,fun g e=>by cases e⟩
 have M:XN (MS p=[Xy f.label,Xx XF k,Xz (XK ⟨W.heap.size,0,XJ⟩) 1 1,Xz XJ 0 0]):=by rw[HP.out];rfl
 obtain⟨iS,bq,a5,a6,a7⟩:=Qg II;have hD:XN _:=aB.Ug t.bag ((aa.refl [] d).alloc (XE #[Xy f.label,Xx XF k,Xz (XK ⟨W.heap.size,0,XJ⟩) 1 1,Xz XJ 0 0] 163)).drew;have s2:XN (∀j u,([Xy f.label,Xx XF k,Xz (XK ⟨W.heap.size,0,XJ⟩) 1 1,Xz XJ 0 0]:List XQ)[j]?=XK u->(d.alloc (XE #[Xy f.label,Xx XF k,Xz (XK ⟨W.heap.size,0,XJ⟩) 1 1,Xz XJ 0 0] 163)).drew.cell? ((⟨d.heap.size,0,XJ⟩:Addr).add j)=XK u):=by
  intro j u hj;have hk:(d.alloc (XE #[Xy f.label,Xx XF k,Xz (XK ⟨W.heap.size,0,XJ⟩) 1 1,Xz XJ 0 0] 163)).drew.heap[d.heap.size]?=XK (XE #[Xy f.label,Xx XF k,Xz (XK ⟨W.heap.size,0,XJ⟩) 1 1,Xz XJ 0 0] 163):=Pz _ _;rw[ba,ab hk];simpa using hj
 have s3:XN (∀u∈([Xy f.label,Xx XF k,Xz (XK ⟨W.heap.size,0,XJ⟩) 1 1,Xz XJ 0 0]:List XQ),u.oneCell'=XL):=by rw[<-M.out];exact DW p
 have s4:XN ((lp y).n+1<=maxLen):=by show y.length+1<=_;unfold maxLen;omega
 have s5:XN (((lp y).n+1)*72<=140737488355328):=by show(y.length+1)*72<=_;omega
 have ac:XN (∀wz Z,aB wz x 134 (E3 F (y++[p]) Z) (E4 F (y++[p])) Z->aj x (d.alloc (XE #[Xy f.label,Xx XF k,Xz (XK ⟨W.heap.size,0,XJ⟩) 1 1,Xz XJ 0 0] 163)).drew V wz Z->N2 D x m s (BN f) a l (XH (XD #[])) wz):=fun wz Z g1 g2=>by
  have g3:=g2.first ((aa.refl [] d).alloc (XE #[Xy f.label,Xx XF k,Xz (XK ⟨W.heap.size,0,XJ⟩) 1 1,Xz XJ 0 0] 163)).drew;exact⟨rfl,F,y++[p],Z,t.push av.out ad.out g3 g1,aj.first ((ai.out.trans i.out).trans Y) (w.trans g3)⟩
 have Q:=fun X=>tI X p;rw[M.out]at Q;have bf:XN _:=Q;have cg:=fun l=>Ho l f.label (k:Int) (XK ⟨W.heap.size,0,XJ⟩) 1 1;generalize f.label=lb at *;clear Q av ad M J B3 B5 y0 y1 C HP t w bo Y b0 b1 b2 b3 b4 b5 b6 b7 b8;go_region_law (refine aP rfl (.tmp 20) (.tmp 26) 132 rfl iS (XB #[Xy ⟨#[]⟩,Xx XF 0,Xz XJ 0 0,Xz XJ 0 0]) 72 (V 1) (lp y) underlying132 bq a5 a6 a7 rfl (by show 0<4;omega) (by simp[Act.eval] <;> rfl) (aB.own hD.out 1) ⟨d.heap.size,0,XJ⟩ 1 1 [Xy lb,Xx XF k,Xz (XK ⟨W.heap.size,0,XJ⟩) 1 1,Xz XJ 0 0] (by simp[Act.eval]) rfl s2.out s3.out PY s4.out s5.out ?_;intro g6 G w6 a2 I H;obtain⟨k6,f6,aq⟩:=aB.app hD.out (cs':=E3 F (y++[p]) (cX V 1 ⟨XK ⟨g6,0,XJ⟩,G⟩)) (rows':=E4 F (y++[p])) 1 1 g6 G (y.length+1) _ a2 (bf.out y) I (by simpa using H) (yZ F y _) _ rfl (by simp[E3,cX]);clear a2 I H)
 all_goals go_wp2
 all_goals go_end0
 all_goals exact ac.out _ _ aq.out.1 aq.out.2
end Go.Proofs.YtnbalopedcgpcaaGreat
