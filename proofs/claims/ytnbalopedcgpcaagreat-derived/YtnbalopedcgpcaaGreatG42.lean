import Derived.Test.YtnbalopedcgpcaaGreatG41
namespace Go.Proofs.YtnbalopedcgpcaaGreat
open Go.RowKit Tryz
open Value renaming int->Xx,string->Xy,slice->Xz,pointer->XA,agg->XB,bool->XC,tuple->XD
open Obj renaming cells->XE
open IntKind renaming i64->XF
open Ending renaming returned->XH
open World renaming cell?->XI
open Option renaming none->XJ,some->XK
open Bool renaming true->XL,false->XM
open Go.RowKit renaming Hid->XN
open Go renaming Calls->XO,World->XP,Value->XQ
set_option maxHeartbeats 0
variable{d t:XP}{k N:Nat}{S I:List ByteArray}{y5:Option Addr}{y3:Nat->Prop}{g:iX}{y4:cY}(D:XP)(x:Nat)(m T:List ByteArray)(s:List cY)(y:List iX)(a:Nat->Hd)(f:St)(o v:Hd)(b:List ByteArray)(n:ByteArray)(M:List ByteArray)(l:XP)(y2:Nat)(c:List iX)(y6:iX)
theorem IB(B:cE l v b)(I:b.length<=1073741824) :
  XO prog 125 #[Xz v.ao b.length v.cap,Xy n] l fun e C=>e=XH (Xx XF (eT (aZ b n)))/\C=l:=by
 obtain⟨m,d⟩:∃m,XN (v.ao=m):=⟨_,rfl⟩
 rw[d.out];go_enter func125,ntmps125;go_wp2
 go_loopg [5] b.length (fun g i wr=>∃k:Nat,k<=b.length/\g=b.length-k/\i=Xx XF k/\XN (∀i,i<k->((b.getD i ⟨#[]⟩).toList==n.toList)=XM)/\wr=l)
 case atStart=>exact⟨0,by omega,by omega,rfl,fun i s=>by omega,rfl⟩
 case round =>
  obtain⟨k,H,G,rfl,a,rfl⟩:=hrel;by_cases c:k<b.length
  ·rcases B with z | ⟨g,f,w,t,x,p,q,E,F⟩
   ·rw[z]at c;simp at c
   ·have D:XI wr ⟨g,f+k,XJ⟩=XK (Xy b[k]):=(by rw[ab p];exact q k b[k] (PJ c));obtain rfl:m=XK ⟨g,f,XJ⟩:=d.out.symm.trans x;have j:XN _:=i7 b k c;have A:=ae p;generalize b[k]=y at *;clear p q;cases r:(y.toList==n.toList)
    ·have u:XN (∀i,i<k+1->((b.getD i ⟨#[]⟩).toList==n.toList)=XM):=by
      intro i s;by_cases e:i=k
      ·subst e;rw[j.out];exact r
      ·exact a.out i (by omega)
     clear j;go_wp2;go_roundg (b.length-(k+1))
     case measure=>omega
     case rel=>exact⟨k+1,by omega,rfl,by go_num,u,rfl⟩
    ·have o:XN (aZ b n=XK k):=dN c (by rw[j.out];exact r) a.out;clear j;go_wp2;go_ret;exact⟨ay (by rw[o.out];rfl),rfl⟩
  ·have o:XN (aZ b n=XJ):=eJ (fun i s=>a.out i (by omega));go_wp2;go_ret;exact⟨ay (by rw[o.out];rfl),rfl⟩
theorem I5(a:y2<b.length):jN (b.take (y2+1)) n=jN (b.take y2) n+(if(b[y2].toList==n.toList)=XL then 1 else 0):=by
 unfold jN;rw[QE a,List.countP_append];congr 1;rw[List.countP_singleton]
theorem NA:jN b n<=b.length:=List.countP_le_length
theorem IA(C:cE l v b)(J:b.length<=1073741824) :
  XO prog 124 #[Xz v.ao b.length v.cap,Xy n] l fun e D=>e=XH (Xx XF (jN b n))/\D=l:=by
 obtain⟨o,f⟩:∃o,XN (v.ao=o):=⟨_,rfl⟩
 rw[f.out];go_enter func124,ntmps124;go_wp2
 go_loopg [5,6] b.length (fun g w i wr=>∃k d:Nat,k<=b.length/\g=b.length-k/\w=Xx XF d/\i=Xx XF k/\d<=k/\XN (jN (b.take k) n=d)/\wr=l)
 case atStart=>exact⟨0,0,by omega,by omega,rfl,rfl,by omega,rfl,rfl⟩
 case round =>
  obtain⟨k,d,I,H,rfl,rfl,B,c,rfl⟩:=hrel;by_cases a:k<b.length
  ·rcases C with z | ⟨g,m,u,t,x,p,q,F,G⟩
   ·rw[z]at a;simp at a
   ·have E:XI wr ⟨g,m+k,XJ⟩=XK (Xy b[k]):=(by rw[ab p];exact q k b[k] (PJ a));obtain rfl:o=XK ⟨g,m,XJ⟩:=f.out.symm.trans x;have j:XN _:=I5 b n k a;have A:=ae p;rw[c.out]at j;generalize b[k]=y at *;clear p q;cases r:(y.toList==n.toList)
    ·rw[r,PV (by simp),QT]at j;go_wp2;go_roundg (b.length-(k+1))
     case measure=>omega
     case rel=>exact⟨k+1,d,by omega,rfl,rfl,by go_num,by omega,j,rfl⟩
    ·rw[r,PZ rfl]at j;go_wp2;go_roundg (b.length-(k+1))
     case measure=>omega
     case rel=>exact⟨k+1,d+1,by omega,rfl,by go_num,by go_num,by omega,j,rfl⟩
  ·have s:XN (jN b n=d):=by
    have:=c.out;rw[Sf (by omega)]at this;exact this
   go_wp2;go_ret;exact⟨ay (by rw[s.out]),rfl⟩
theorem vP(I:cE l o f.Um)(K:f.Um.length<=1073741824) :
  XO prog 52 #[bW f o v] l fun e A=>∃n:Hd,e=XH (Xz n.ao (f.Um.drop 1).length n.cap)/\cE A n (f.Um.drop 1)/\aa [] l A:=by
 unfold bW;by_cases d:f.Um.length=0
 ·have y:f.Um=[]:=Ql d;have p:((f.Um.length:Int)==0)=XL:=by rw[d];rfl
  go_enter func52,ntmps52;go_wp2;go_ret;exact⟨⟨XJ,0⟩,by rw[y];rfl,P0 (by rw[y];rfl),(aa.refl _ _).alloc _⟩
 ·have p:((f.Um.length:Int)==0)=XM:=Qi.2 (by omega);obtain⟨J,a⟩:=o;rcases I with C | ⟨g,b,i,t,u,k,w,D,E⟩
  ·rw[C]at d;simp at d
  ·simp only at u D E;subst u;have H:=ae k;have c:XN ((f.Um.drop 1).length=f.Um.length-1):=by show _=_;simp
   have s:XN (∀r,aa [] l r->cE r ⟨XK ⟨g,b+1,XJ⟩,a-1⟩ (f.Um.drop 1)):=fun r q=>P7 ⟨g,b+1,i,t,rfl,q.get k (by simp),fun j x z=>by
    rw[Sh]at z;rw[show b+1+j=b+(1+j) by omega];exact w (1+j) x z,by have:=c.out;show(f.Um.drop 1).length<=a-1;omega,by show a-1<=_;omega⟩
   obtain⟨R,B⟩:∃R,XN (f.Um.drop 1=R):=⟨_,rfl⟩
   rw[B.out]at c s ⊢;rw[c.out];clear w k;by_cases m:a=1
   ·have F:R=[]:=Ql (by have:=c.out;omega);subst m;go_enter func52,ntmps52;go_wp2
    all_goals go_ret
    all_goals exact⟨⟨XK ⟨g,b,XJ⟩,0⟩,by rw[show f.Um.length-1=0 by omega];rfl,P0 F,(aa.refl _ _).alloc _⟩
   ·have G:¬a-1=0:=(by omega);go_enter func52,ntmps52;go_wp2
    all_goals go_ret
    all_goals exact⟨⟨XK ⟨g,b+1,XJ⟩,a-1⟩,rfl,s.out _ ((aa.refl _ _).alloc _),(aa.refl _ _).alloc _⟩
theorem IL:(prog.info? 161).map (fun i=>(i.zero,i.size,i.bytes))=XK (XK (XB #[Xy ⟨#[]⟩,Xx XF 0]),2,24):=by kernel_rfl
def A6(w:XP)(a:Nat)(vs L:List ByteArray)(k:Nat):Prop:=∃cur:Array XQ,w.heap[a]?=XK (XE cur 161)/\cur.size=L.length*2/\(∀i,i<L.length*2->∃u,cur[i]?=XK u)/\∀i x,i<k->L[i]?=XK x->cur[i*2]?=XK (Xy x)/\cur[i*2+1]?=XK (Xx XF (eT (aZ vs x)))
theorem A6.Ur(h:A6 d k S I N)(q:aa [] d t):A6 t k S I N:=by
 obtain⟨a,b,c⟩:=h;exact⟨a,q.get b (by simp),c⟩
theorem A6.free(h:A6 d k S I N)(i:Nat):d.frozen? ⟨k,i,XJ⟩=XM:=by
 obtain⟨a,b,-⟩:=h;exact aw b i
theorem A6.old(h:A6 d k S I N){i:Nat}(e:i<I.length*2):(∃u,XI d ⟨k,i,XJ⟩=XK u)/\k<d.heap.size:=by
 obtain⟨b,a,g,c,j⟩:=h;obtain⟨u,f⟩:=c i e;exact⟨⟨u,by rw[ab a];exact f⟩,ae a⟩
theorem A6.set(h:A6 d k S I N)(o:N<I.length):A6 ((d.setCell ⟨k,N*2,XJ⟩ (Xy I[N])).setCell ⟨k,N*2+1,XJ⟩ (Xx XF (eT (aZ S I[N])))) k S I (N+1):=by
 obtain⟨j,l,a,m,n⟩:=h;refine⟨_,af (af l _ _) _ _,by simp[a],fun i g=>?_,fun i x g b=>?_⟩
 ·rw[QB,QB];obtain⟨u,p⟩:=m i g;by_cases c:N*2+1=i
  ·rw[PZ c,PZ (by simp[a];omega)];exact⟨_,rfl⟩
  ·rw[PV c];by_cases f:N*2=i
   ·rw[PZ f,PZ (by rw[a];omega)];exact⟨_,rfl⟩
   ·rw[PV f];exact⟨u,p⟩
 ·rw[QB,QB,QB,QB];by_cases e:i=N
  ·subst e;rw[PJ o]at b;cases b
   simp[a];omega
  ·rw[PV (by omega),PV (by omega),PV (by omega),PV (by omega)];exact n i x (by omega) b
theorem A6.src(h:A6 d k S I I.length):ot d (XK ⟨k,0,XJ⟩) 2 (Ob S) I:=by
 obtain⟨f,b,m,n,g⟩:=h;intro i x e;obtain⟨j,l⟩:=g i x (Qc.1 e).1 e;refine⟨k,rfl,ae b,fun c u a=>?_⟩;rw[ab b]
 match c,a with
 | 0,a=>cases a;exact j
 | 1,a=>cases a;exact l
 | c+2,a=>cases a
set_option maxRecDepth 100000
theorem zO(W:cE l o b)(X:cE l v M)(hl:b.length<=100000)(ap:M.length<=100000) :
  XO prog 102 #[Xz o.ao b.length o.cap,Xz v.ao M.length v.cap] l fun e p=>∃a,e=XH (Xz (XK ⟨a,0,XJ⟩) b.length b.length)/\ot p (XK ⟨a,0,XJ⟩) 2 (Ob M) b/\l.heap.size<=a/\a<p.heap.size/\aa [] l p:=by
 obtain⟨i0,K,O,Q,R⟩:=Qq IL;have m2:=fun l=>bR (P:=prog) l 159 161 i0 _ underlying159 K O b.length 2 Q (by rw[R];omega) (by omega);obtain⟨r,z⟩:∃r,XN (madeCells (XB #[Xy ⟨#[]⟩,Xx XF 0]).cells (b.length*2)=r):=⟨_,rfl⟩
 have u:XN (r.size=b.length*2):=by rw[<-z.out];exact QV _ _
 rw[z.out]at m2;have E:XN (A6 (l.alloc (XE r 161)) l.heap.size M b 0):=⟨r,PM _ _,u.out,fun i V=>⟨r[i]'(by rw[u.out];exact V),Rn _⟩,fun i x V=>by omega⟩;have H:XN _:=W;have F:XN (∀x c,aa [] l c->XO prog 125 #[Xz v.ao M.length v.cap,Xy x] c fun e p=>e=XH (Xx XF (eT (aZ M x)))/\p=c):=fun x c q=>IB v M x c (X.Ur q) (by omega);clear W X;obtain⟨D,s⟩:∃D,XN (o.ao=D):=⟨_,rfl⟩
 rw[s.out];go_enter func102,ntmps102;go_wp2
 go_loopg [6] b.length (fun g i wr=>∃k:Nat,k<=b.length/\g=b.length-k/\i=Xx XF k/\XN (A6 wr l.heap.size M b k)/\XN (aa [] l wr))
 case atStart=>exact⟨0,by omega,by omega,rfl,E,(aa.refl _ _).alloc _⟩
 case round =>
  obtain⟨k,hk,hg,rfl,C,B⟩:=hrel;by_cases f:k<b.length
  ·have ah:(k:Int)<b.length:=(by omega);rcases H.out with h0 | ⟨g,j,I,t,e1,n,T,e4,e5⟩
   ·rw[h0]at f;simp at f
   ·have ad:=ae n;have m:g≠l.heap.size:=(by omega);have J:=B.out.get n (by simp);clear n;have Z:XI wr ⟨g,j+k,XJ⟩=XK (Xy b[k]):=(by rw[ab J];exact T k b[k] (PJ f));obtain rfl:D=XK ⟨g,j,XJ⟩:=s.out.symm.trans e1;have ag:=ae J;have G:XN _:=(fun c (q:aa [] wr c)=>F.out b[k] c (B.out.trans q));have d:=C.out;obtain⟨⟨u0,t0⟩,ac⟩:=d.old (i:=k*2) (by omega);obtain⟨⟨u1,t1⟩,-⟩:=d.old (i:=k*2+1) (by omega);have f0:=d.free (k*2);have f1:=d.free (k*2+1);have w:XN (∀c,aa [] wr c->A6 ((c.setCell ⟨l.heap.size,k*2,XJ⟩ (Xy b[k])).setCell ⟨l.heap.size,k*2+1,XJ⟩ (Xx XF (eT (aZ M b[k])))) l.heap.size M b (k+1)/\aa [] l ((c.setCell ⟨l.heap.size,k*2,XJ⟩ (Xy b[k])).setCell ⟨l.heap.size,k*2+1,XJ⟩ (Xx XF (eT (aZ M b[k]))))):=fun c q=>⟨(C.out.Ur q).set f,((B.out.trans q).setCell (P7 (PQ _)) _).setCell (P7 (PQ _)) _⟩
    generalize b[k]=y at *;generalize eT (aZ M y)=S at *;have am:((wr.setCell ⟨l.heap.size,k*2,XJ⟩ (Xy y)).setCell ⟨l.heap.size,k*2+1,XJ⟩ (Xx XF S)).drew.cell? ⟨g,j+k,XJ⟩=XK (Xy y):=by
     have hb:((wr.setCell ⟨l.heap.size,k*2,XJ⟩ (Xy y)).setCell ⟨l.heap.size,k*2+1,XJ⟩ (Xx XF S)).drew.heap[g]?=wr.heap[g]?:=by
      show((wr.setCell ⟨l.heap.size,k*2,XJ⟩ (Xy y)).setCell ⟨l.heap.size,k*2+1,XJ⟩ (Xx XF S)).heap[g]?=_
      rw[P9 _ _ _ _ m,P9 _ _ _ _ m]
     rw[Qy hb];exact Z
    clear J T d;(go_upto_region 5 with fail);go_region_held3 (fun p=>XI p ⟨g,j+k,XJ⟩=XK (Xy y)) (go_keep) ((go_at_call 125;refine PU (G.out _ (by exact(aa.refl [] _).drew)) ?_;rintro e6 w6 ⟨rfl,A⟩;rw[A];clear A));go_wp2;go_roundg (b.length-(k+1))
    case measure=>omega
    case rel=>exact⟨k+1,by omega,rfl,by go_num,(w.out wr (aa.refl _ _)).1.Ur (aa.refl [] _).drew,(w.out wr (aa.refl _ _)).2.drew⟩
  ·have ai:¬(k:Int)<b.length:=(by omega);have Y:XN (ot wr (XK ⟨l.heap.size,0,XJ⟩) 2 (Ob M) b):=by
    have L:k=b.length:=(by omega);have U:=C.out;rw[L]at U;exact U.src
   have N:l.heap.size<wr.heap.size:=(by obtain⟨I,h1,-⟩:=C.out;exact ae h1);go_wp2;go_ret;exact⟨l.heap.size,rfl,Y.out,PQ _,N,B.out⟩
theorem cK.viewN{l:List St}{H:Nat->Hd}(h:cK d k N l H)(n:Nat)(a:n<l.length):cE d (H (10+2*n)) l[n].Um:=(h.UD.syms n l[n] (PJ a)).view
def kg(l:List St)(L:List ByteArray)(h:Nat):Bool:=((bL l h).kind==2)&&(jN L (ak (bL l h))==1)
theorem wB(l:List St)(H:Nat->Hd)(G z:Hd)(a:List Nat)(L:List ByteArray)(w:XP)(h:cK w x y2 l H)(T:pV w G.ao a)(U:cE w z L)(hl:L.length<=100000)(ai:a.length<=100000)(c:∀A∈a,A<l.length)(V:∀s∈l,s.Um.length<=100000) :
  XO prog 101 #[XA (XK ⟨x,y2,XJ⟩),Xz G.ao a.length G.cap,Xz z.ao L.length z.cap] w fun e y=>e=XH (XC (a.all (kg l L)))/\aa [] w y:=by
 have N:XN (∀n (o:n<l.length) b,aa [] w b->XO prog 51 #[XA (XK ⟨x,y2,XJ⟩),Xx XF n] b fun e y=>e=XH (bW l[n] (H (10+2*n)) (H (11+2*n)))/\aa [] b y):=fun n o b q=>aQ x y2 n l H b (h.Ur q) o;have O:XN (∀n (o:n<l.length) b,aa [] w b->XO prog 97 #[bW l[n] (H (10+2*n)) (H (11+2*n))] b fun e y=>e=XH (Xy (ak l[n]))/\aa [] b y):=fun n o b q=>fn l[n] _ _ b ((h.Ur q).viewN n o) (by have:=V _ (PT o);omega);have M:XN (∀A b,aa [] w b->XO prog 124 #[Xz z.ao L.length z.cap,Xy A] b fun e y=>e=XH (Xx XF (jN L A))/\y=b):=fun A b q=>IA z L A b (U.Ur q) (by omega);have X:XN _:=T;have K:XN _:=c;clear h T U c V;obtain⟨J,B⟩:∃J,XN (G.ao=J):=⟨_,rfl⟩
 rw[B.out];go_enter func101,ntmps101;go_wp2
 go_loopg [7] a.length (fun g i wr=>∃k:Nat,k<=a.length/\g=a.length-k/\i=Xx XF k/\XN ((a.take k).all (kg l L)=XL)/\XN (aa [] w wr))
 case atStart=>exact⟨0,by omega,by omega,rfl,rfl,aa.refl _ _⟩
 case round =>
  obtain⟨k,hk,hg,rfl,u,j⟩:=hrel;by_cases c:k<a.length
  ·have ad:(k:Int)<a.length:=(by omega);obtain⟨g,Y,ac,c2⟩:=(pV.Ur X.out j.out) k a[k] (PJ c);obtain rfl:J=XK ⟨g,0,XJ⟩:=B.out.symm.trans Y;have o:=K.out _ (PT c);have D:XN ((a.take (k+1)).all (kg l L)=((a.take k).all (kg l L)&&kg l L a[k])):=by
    show _=_;rw[QE c,List.all_append];simp
   have d:XN (kg l L a[k]=XM->a.all (kg l L)=XM):=fun q=>by
    rw[TF];exact⟨a[k],PT c,by rw[q];simp⟩
   have R:XN (kg l L a[k]=((l[a[k]].kind==2)&&(jN L (ak l[a[k]])==1))):=(by show _=_;unfold kg;rw[dO o]);have p:XN _:=N.out _ o wr j.out;have v:XN _:=O.out _ o;have ah:=NA L (ak l[a[k]]);rw[R.out]at D d;rw[u.out,Tc]at D;unfold bW at p v;generalize a[k]=m at *;generalize l[m]=s at *;clear R;cases r:(s.kind==2)
   ·have P:(s.kind != 2)=XL:=(by simp[bne,r]);rw[r,Tw]at d;have C:XN _:=d.out rfl;go_wp2_with (go_at_call 51;refine PU p.out ?_;rintro S W ⟨rfl,t⟩);go_ret;exact⟨aH C.out.symm,(j.out.trans t).alloc _⟩
   ·have P:(s.kind != 2)=XM:=(by simp[bne,r]);rw[r,Tc]at D d;have E:XN _:=M.out (ak s);cases I:(jN L (ak s)==1)
    ·rw[I]at d;have C:XN _:=d.out rfl;have Q:((jN L (ak s):Int) != 1)=XL:=by
      have:jN L (ak s)≠1:=(by simpa using I);simp;omega
     generalize jN L (ak s)=oc at *;go_wp2_with (first | (go_at_call 51;refine PU p.out ?_;rintro S W ⟨rfl,t⟩) | (go_at_call 97;refine PU (v.out _ (by exact(j.out.trans t).alloc _)) ?_;rintro Z w3 ⟨rfl,F⟩) | (go_at_call 124;refine PU (E.out _ (by exact((j.out.trans t).alloc _).trans F)) ?_;rintro e4 w4 ⟨rfl,f⟩;rw[f];clear f));go_ret;exact⟨aH C.out.symm,((j.out.trans t).alloc _).trans F⟩
    ·rw[I]at D;have Q:((jN L (ak s):Int) != 1)=XM:=by
      have:jN L (ak s)=1:=(by simpa using I);rw[this];rfl
     generalize jN L (ak s)=oc at *;go_wp2_with (first | (go_at_call 51;refine PU p.out ?_;rintro S W ⟨rfl,t⟩) | (go_at_call 97;refine PU (v.out _ (by exact(j.out.trans t).alloc _)) ?_;rintro Z w3 ⟨rfl,F⟩) | (go_at_call 124;refine PU (E.out _ (by exact((j.out.trans t).alloc _).trans F)) ?_;rintro e4 w4 ⟨rfl,f⟩;rw[f];clear f));go_roundg (a.length-(k+1))
     case measure=>omega
     case rel=>exact⟨k+1,by omega,rfl,by go_num,D,((j.out.trans t).alloc _).trans F⟩
  ·have ag:¬(k:Int)<a.length:=(by omega);have C:XN (a.all (kg l L)=XL):=by
    have:=u.out;rw[Sf (by omega)]at this;exact this
   go_wp2;go_ret;exact⟨aH C.out.symm,j.out⟩
def E3(codes:List ByteArray)(L:List iX)(H:Nat->Hd):List XQ:=[Xz (H 0).ao codes.length (H 0).cap,Xz (H 1).ao L.length (H 1).cap]
def lp(L:List iX):fe:=xr 163 4 MW L
def E4(codes:List ByteArray)(L:List iX):Nat->fe
 | 0=>au codes
 | 1=>lp L
 | _+2=>au []
theorem E5:∀j,j≠0->E4 M c j=E4 b c j:=by
 intro j a
 match j,a with
 | 0,a=>exact absurd rfl a
 | 1,_=>rfl
 | j+2,_=>rfl
theorem yZ:∀j,j≠1->E4 T c j=E4 T y j:=by
 intro j a
 match j,a with
 | 0,_=>rfl
 | 1,a=>exact absurd rfl a
 | j+2,_=>rfl
theorem ot.keptQ{α:Type}{f:α->List XQ}{L:List α}(h:ot d y5 k f L)(b:dA y3 d t)(l:∀g,y5=XK ⟨g,0,XJ⟩->¬y3 g):ot t y5 k f L:=by
 intro j x n;obtain⟨g,e,a,i⟩:=h j x n;have m:=b.block g a (l g e);exact⟨g,e,PY a b.size,fun c u o=>by rw[Qy m];exact i c u o⟩
theorem pV.keptQ{L:List Nat}(h:pV d y5 L)(k:dA y3 d t)(c:∀g,y5=XK ⟨g,0,XJ⟩->¬y3 g):pV t y5 L:=by
 intro j x i;obtain⟨g,e,a,b⟩:=h j x i;have f:=k.block g a (c g e);exact⟨g,e,PY a k.size,by rw[Qy f];exact b⟩
theorem jK.keptQ(h:jK d S g y4)(k:dA y3 d t)(b:¬y3 g.ap)(c:∀a,g.ag=XK ⟨a,0,XJ⟩->¬y3 a):jK t S g y4 :=
 ⟨h.lab,h.cod,h.np,h.parts.keptQ k (fun a e=>by cases e;exact b),h.ng,h.len,h.gaps.keptQ k c,h.typ⟩
theorem xl{p:Nat->Bool}{n:Nat}(h:(List.range n).find? p=XK k):∀i,i<k->p i=XM:=by
 induction n with
 | zero=>simp at h
 | succ n b =>
  intro i a;rw[QM,TH]at h;cases e:(List.range n).find? p with
  | some z=>rw[e]at h;cases h;exact b e i a
  | none =>
   rw[e]at h;have c:k=n:=by
    simp only[Option.none_or,List.find?_cons,List.find?_nil]at h;split at h
    ·cases h;rfl
    ·cases h
   have:=Rc.1 e i (Qe.2 (by omega));simpa using this
def Kx(codes c2:List ByteArray):Prop:=∀c k,aZ codes c=XK k->aZ c2 c=XK k
theorem Kx.refl:Kx M M:=fun _ _ h=>h
theorem za:Kx b (b++[n]):=fun c k h=>by
 unfold aZ at h ⊢;have d:=Qe.1 (Qm h);have e:=Rp h;refine dN (by rw[Qa];omega) ?_ (fun i a=>?_)
 ·rw[PK,PR d,<-PK];exact e
 ·rw[PK,PR (by omega),<-PK];exact xl h i a
theorem Jk(h:aZ b n=XJ):aZ (b++[n]) n=XK b.length:=by
 refine dN (by simp) ?_ (fun i a=>?_)
 ·rw[PK,Qb (PQ _),Rl];simp
 ·rw[PK,PR a,<-PK];have:=Rc.1 h i (Qe.2 a);simpa using this
theorem jK.grow(h:jK d S g y4)(a:Kx S I):jK d I g y4:=⟨h.lab,a _ _ h.cod,h.np,h.parts,h.ng,h.len,h.gaps,fun v b=>a _ _ (h.typ v b)⟩
structure jJ(w0 w:XP)(gm:Nat)(tcs codes:List ByteArray)(Ps:List cY)(L:List iX)(H:Nat->Hd):Prop where
 bag:aB w gm 134 (E3 codes L H) (E4 codes L) H
 kp:aa [] w0 w
 lo:w0.heap.size<=gm
 hi:∀k,cD H k->w0.heap.size<=k
 len:L.length=Ps.length
 each:∀(n:Nat) (p:iX) (P:cY),L[n]?=XK p->Ps[n]?=XK P->jK w codes p P
 far:∀p∈L,(p.ap≠gm/\¬cD H p.ap/\p.ap<w.heap.size)/\∀g,p.ag=XK ⟨g,0,XJ⟩->g≠gm/\¬cD H g/\g<w.heap.size
 dist:ug codes
 sub:∀c∈codes,c∈tcs
section
variable {w0 w w':XP} {gm:Nat} {tcs codes:List ByteArray} {Ps:List cY} {L:List iX} {H H':Nat->Hd}
theorem jJ.Ur(h:jJ w0 w gm tcs codes Ps L H)(k:aa [] w w'):jJ w0 w' gm tcs codes Ps L H :=
 ⟨h.bag.Ur k,h.kp.trans k,h.lo,h.hi,h.len,fun n p P b c=>(h.each n p P b c).Ur k,fun p a=>⟨⟨(h.far p a).1.1,(h.far p a).1.2.1,PY (h.far p a).1.2.2 k.size⟩,fun g e=>⟨((h.far p a).2 g e).1,((h.far p a).2 g e).2.1,PY ((h.far p a).2 g e).2.2 k.size⟩⟩,h.dist,h.sub⟩
theorem jJ.turned(h:jJ w0 w gm tcs codes Ps L H)(t:aj gm w H w' H')(g:aB w' gm 134 (E3 S L H') (E4 S L) H')(d:Kx codes S)(j:ug S)(m:∀c∈S,c∈tcs):jJ w0 w' gm tcs S Ps L H':=by
 refine⟨g,aa.ofP h.kp t.1 (fun k a=>?_),h.lo,fun k a=>?_,h.len,fun n p P b i=>?_,fun p l=>?_,j,m⟩
 ·rcases a with rfl | a
  ·exact h.lo
  ·exact h.hi k a
 ·rcases t.2 k a with q | q
  ·exact h.hi k q
  ·exact Qk h.kp.size q
 ·have f:=h.far p (Qp b);refine((h.each n p P b i).keptQ t.1 (fun q=>?_) (fun g e q=>?_)).grow d
  ·rcases q with q | q
   ·exact f.1.1 q
   ·exact f.1.2.1 q
  ·rcases q with q | q
   ·exact(f.2 g e).1 q
   ·exact(f.2 g e).2.1 q
 ·have f:=h.far p l;exact⟨⟨f.1.1,t.fresh _ f.1.2.2 f.1.2.1,PY f.1.2.2 t.1.size⟩,fun g e=>⟨(f.2 g e).1,t.fresh _ (f.2 g e).2.2 (f.2 g e).2.1,PY (f.2 g e).2.2 t.1.size⟩⟩
end
theorem Kf{t:ByteArray}(h:ug S)(c:aZ S t=XJ):ug (S++[t]):=by
 intro i j a b;rw[Qa]at b;replace b:j<S.length+1:=b;rw[PK,PR (by omega),<-PK];by_cases e:j<S.length
 ·rw[PK (l:=S++[t]),PR e,<-PK];exact h i j a e
 ·rw[PK (l:=S++[t]),Qb (by omega),show j-S.length=0 by omega];have:=Rc.1 c i (Qe.2 (by omega));simpa using this
def rW(w0:XP)(gm:Nat)(tcs codes:List ByteArray)(Ps:List cY)(L:List iX)(H:Nat->Hd)(t:ByteArray)(w:XP)(e:Ending)(w':XP):Prop:=∃c2 H' k,e=XH (Xx XF ((k:Nat):Int))/\aZ c2 t=XK k/\jJ w0 w' gm tcs c2 Ps L H'/\aj gm w H w' H'/\Kx codes c2
theorem p7(h:jJ D l x m T s y a)(X:n∈m)(hl:T.length<=100000) :
  XO prog 98 #[XA (XK ⟨x,0,XJ⟩),Xy n] l fun e Z=>rW D x m T s y a n l e Z:=by
 have M:XI l ⟨x,0,XJ⟩=XK (Xz (a 0).ao T.length (a 0).cap):=by rw[h.bag.cell];rfl
 have E:=h.bag.lt;have o:XN _:=(uV x T (a 0) n l M E (aB.own h.bag 0).view (by omega));have HB:XN _:=h;cases p:aZ T n with
 | some k =>
  have hk:k<T.length:=Qe.1 (Qm p);rw[p]at o;have z:XN (rW D x m T s y a n l (XH (Xx XF (k:Int))) l):=⟨T,a,k,rfl,p,h,aj.refl _ _ _,Kx.refl _⟩;have F:((eT (XK k):Int))=(k:Int):=rfl;clear h;go_enter func98,ntmps98;go_wp2_with (go_at_call 82;refine PU o.out ?_;rintro Q L ⟨rfl,b⟩;rw[b];clear b);go_ret;exact z.out
 | none =>
  rw[p]at o;obtain⟨Y,W,H,I,J⟩:=Qq ey;have B:=aB.Ur h.bag ((aa.refl [] l).alloc (XE #[Xy n] 9));have i:=aB.own B 0;have C:=h.bag.free 0;have z:XN (∀w r,aB w x 134 (E3 (T++[n]) y r) (E4 (T++[n]) y) r->aj x (l.alloc (XE #[Xy n] 9)) a w r->rW D x m T s y a n l (XH (Xx XF (T.length:Int))) w):=fun w r R S=>by
   have O:=S.first ((aa.refl [] l).alloc (XE #[Xy n] 9));refine⟨T++[n],r,T.length,rfl,Jk T n p,h.turned O R (za T n) (Kf h.dist p) (fun c U=>?_),O,za T n⟩;rcases Qo.1 U with q | q
   ·exact h.sub c q
   ·rw[Qn.1 q];exact X
  have F:((eT XJ:Int))=-1:=rfl;clear h;go_enter func98,ntmps98;go_wp2_with (first | (go_at_call 82;refine PU o.out ?_;rintro Q L ⟨rfl,b⟩;rw[b];clear b) | (at_builtin;refine aD _ rfl (.tmp 16) (.tmp 18) 22 rfl Y (Xy ⟨#[]⟩) 16 (a 0) (au T) underlying22 W H I J rfl Qf rfl i ⟨l.heap.size,0,XJ⟩ 1 1 [Xy n] rfl rfl ?c1 ?N Qf ?c3 ?c4 ?_))
  case c1=>intro j u v;match j,v with | 0,v=>simp at v;subst v;simp[Addr.add]
  case N=>intro u P;simp at P;subst P;rfl
  case c3=>simp only[au];unfold maxLen;omega
  case c4=>simp only[au];omega
  ·intro g d L b t f;obtain⟨k0,f0,A⟩:=aB.app B (cs':=E3 (T++[n]) y (cX a 0 ⟨XK ⟨g,0,XJ⟩,d⟩)) (rows':=E4 (T++[n]) y) 0 0 g d (T.length+1) _ b (bJ T n) t (by simpa using f) (E5 T _ y) _ rfl (by simp[E3,cX]);have K:=A.out.1;have N:(L.setCell ⟨x,0,XJ⟩ (Xz (XK ⟨g,0,XJ⟩) (T.length+1) d)).cell? ⟨x,0,XJ⟩=XK (Xz (XK ⟨g,0,XJ⟩) (T.length+1) d):=by
    rw[K.cell];simp[E3,cX]
   have V:=K.lt;clear B i b t f C K M;have G:wrap64 (T.length:Int)=T.length:=(by unfold wrap64;omega);go_wp2;go_ret;show rW D x m T s y a n l (XH (Xx XF (wrap64 (T.length:Int)))) _;rw[G];exact z.out _ _ A.out.1 A.out.2
section
variable {w0 w w':XP} {gm:Nat} {tcs codes:List ByteArray} {Ps:List cY} {L:List iX} {H H':Nat->Hd}
theorem jJ.push(h:jJ w0 w gm tcs codes Ps L H)(r:jK w codes g y4)(o:(g.ap≠gm/\¬cD H g.ap/\g.ap<w.heap.size)/\∀a,g.ag=XK ⟨a,0,XJ⟩->a≠gm/\¬cD H a/\a<w.heap.size)(t:aj gm w H w' H')(a:aB w' gm 134 (E3 codes (L++[g]) H') (E4 codes (L++[g])) H'):jJ w0 w' gm tcs codes (Ps++[y4]) (L++[g]) H':=by
 have c:∀q∈L++[g],(q.ap≠gm/\¬cD H q.ap/\q.ap<w.heap.size)/\∀a,q.ag=XK ⟨a,0,XJ⟩->a≠gm/\¬cD H a/\a<w.heap.size:=fun q i=>by
  rcases Qo.1 i with e | e
  ·exact h.far q e
  ·rw[Qn.1 e];exact o
 have j:∀(q:iX) (Q:cY),q∈L++[g]->jK w codes q Q->jK w' codes q Q:=fun q Q i p=>by
  have f:=c q i;refine p.keptQ t.1 (fun z=>?_) (fun a e z=>?_)
  ·rcases z with z | z
   ·exact f.1.1 z
   ·exact f.1.2.1 z
  ·rcases z with z | z
   ·exact(f.2 a e).1 z
   ·exact(f.2 a e).2.1 z
 refine⟨a,aa.ofP h.kp t.1 (fun k d=>?_),h.lo,fun k d=>?_,by rw[Qa,Qa,h.len];rfl,fun n q Q b l=>?_,fun q i=>?_,h.dist,h.sub⟩
 ·rcases d with rfl | d
  ·exact h.lo
  ·exact h.hi k d
 ·rcases t.2 k d with z | z
  ·exact h.hi k z
  ·exact Qk h.kp.size z
 ·refine j q Q (Qp b) ?_;by_cases e:n<L.length
  ·rw[PR e]at b;rw[PR (by rw[<-h.len];exact e)]at l;exact h.each n q Q b l
  ·have m:=(Qc.1 b).1;rw[Qa]at m;replace m:n<L.length+1:=m;rw[Qb (by omega),show n-L.length=0 by omega]at b;rw[Qb (by rw[<-h.len];omega),show n-Ps.length=0 by rw[<-h.len];omega]at l;cases b
   cases l
   exact r
 ·have f:=c q i;exact⟨⟨f.1.1,t.fresh _ f.1.2.2 f.1.2.1,PY f.1.2.2 t.1.size⟩,fun a e=>⟨(f.2 a e).1,t.fresh _ (f.2 a e).2.2 (f.2 a e).2.1,PY (f.2 a e).2.2 t.1.size⟩⟩
theorem jJ.cells(h:jJ w0 w gm tcs codes Ps L H):XI w ⟨gm,0,XJ⟩=XK (Xz (H 0).ao codes.length (H 0).cap)/\XI w ⟨gm,1,XJ⟩=XK (Xz (H 1).ao L.length (H 1).cap)/\gm<w.heap.size:=by
 refine⟨?_,?_,h.bag.lt⟩ <;> (rw[h.bag.cell];rfl)
end
theorem IK:(prog.info? 163).map (fun i=>(i.zero,i.size,i.bytes))=XK (XK (XB #[Xy ⟨#[]⟩,Xx XF 0,Xz XJ 0 0,Xz XJ 0 0]),4,72):=by kernel_rfl
theorem DW:∀u∈MW y6,u.oneCell'=XL:=by
 intro u a;simp only[MW,List.mem_cons,List.not_mem_nil,or_false]at a;rcases a with rfl | rfl | rfl | rfl <;> rfl
theorem tI:(⟨(lp c).e,(lp c).size,(lp c).n+1,(lp c).xs++MW y6⟩:fe)=lp (c++[y6]):=Ga _ _ _ _ _
theorem Ht(k:Int)(a:Option Addr)(b c:Nat):(Instr.build 163 #[(0,Xy n),(1,Xx XF k),(2,Xz a b c)]).run prog D=.ok (XB #[Xy n,Xx XF k,Xz a b c,Xz XJ 0 0]) D :=
 run_build D 163 _ _ (by kernel_rfl)
def N7(w0:XP)(gm:Nat)(tcs:List ByteArray)(Ps:List cY)(P:cY)(H:Nat->Hd)(w:XP)(e:Ending)(w':XP):Prop:=e=XH (XD #[])/\∃c2 L2 H2,jJ w0 w' gm tcs c2 (Ps++[P]) L2 H2/\aj gm w H w' H2
theorem rm(h:jJ D l x m T s y a)(hv:cE D o f.Um)(hl:f.Um.length<=100000)(ht:ax f∈m)(bm:T.length<=100000)(cj:y.length<=100000) :
  XO prog 78 #[XA (XK ⟨x,0,XJ⟩),bW f o v] l fun e U=>N7 D x m s (BN f) a l e U:=by
 have O:XN (∀b,aa [] D b->XO prog 97 #[bW f o v] b fun e U=>e=XH (Xy (ak f))/\aa [] b U):=fun b q=>fn f o v b (hv.Ur q) (by omega);have N:XN (∀b,aa [] D b->XO prog 99 #[bW f o v] b fun e U=>e=XH (Xy (ax f))/\aa [] b U):=fun b q=>kR f o v b (hv.Ur q) (by omega);have a9:XN (∀b,jJ D b x m T s y a->XO prog 98 #[XA (XK ⟨x,0,XJ⟩),Xy (ax f)] b fun e U=>rW D x m T s y a (ax f) b e U):=fun b g=>p7 D x m T s y a (ax f) b g ht bm;obtain⟨i0,bp,bv,bw,bx⟩:=Qq IL;have m2:=fun l=>bR (P:=prog) l 159 161 i0 _ underlying159 bp bv 1 2 bw (by rw[bx];omega) (by omega);obtain⟨A,a0⟩:∃A,XN (madeCells (XB #[Xy ⟨#[]⟩,Xx XF 0]).cells (1*2)=A):=⟨_,rfl⟩
 have am:XN (A.size=1*2):=by rw[<-a0.out];exact QV _ _
 rw[a0.out]at m2;have m3:∀l,(Instr.makeSlice 159 (Xx XF 1) (Xx XF 1)).run prog l=.ok (Xz (XK ⟨l.heap.size,0,XJ⟩) 1 1) (l.alloc (XE A 161)):=fun l=>m2 l;clear m2;obtain⟨W,HW⟩:∃W,XN (l.alloc (XE #[Xx XF f.kind,Xy f.label,Xz o.ao f.Um.length o.cap,Xz v.ao f.Ux.length v.cap,Xy f.fin.file,Xx XF f.fin.line,Xx XF f.fin.col,Xx XF f.til] 110)=W):=⟨_,rfl⟩
 have HB:XN _:=h;clear h;unfold bW at O N ⊢;go_enter func78,ntmps78;go_upto_region 1 with fail
 rw[HW.out];have BW:W.heap[l.heap.size]?=XK (XE #[Xx XF f.kind,Xy f.label,Xz o.ao f.Um.length o.cap,Xz v.ao f.Ux.length v.cap,Xy f.fin.file,Xx XF f.fin.line,Xx XF f.fin.col,Xx XF f.til] 110):=by rw[<-HW.out];exact PM _ _
 have kW:aa [] l W:=by rw[<-HW.out];exact(aa.refl [] _).alloc _
 have S:aa [] W (W.alloc (XE A 161)):=(aa.refl [] _).alloc _;have BA:(W.alloc (XE A 161)).heap[W.heap.size]?=XK (XE A 161):=PM _ _;have cs:l.heap.size<W.heap.size:=ae BW;obtain⟨c,K⟩:∃c,XN (l.heap.size=c):=⟨_,rfl⟩
 have cl:=HB.out.bag.lt;have be:XN _:=fun k (q:cD a k)=>HB.out.bag.inlt q;have L:XN (∀b,aa [] W b->(XI b ⟨c,0,XJ⟩=XK (Xx XF f.kind)/\XI b ⟨c,1,XJ⟩=XK (Xy f.label)/\XI b ⟨c,2,XJ⟩=XK (Xz o.ao f.Um.length o.cap)/\XI b ⟨c,3,XJ⟩=XK (Xz v.ao f.Ux.length v.cap))/\(XI b ⟨c,4,XJ⟩=XK (Xy f.fin.file)/\XI b ⟨c,5,XJ⟩=XK (Xx XF f.fin.line)/\XI b ⟨c,6,XJ⟩=XK (Xx XF f.fin.col)/\XI b ⟨c,7,XJ⟩=XK (Xx XF f.til))/\c<b.heap.size):=fun b q=>by
  rw[<-K.out];have B:=q.get BW (by simp);refine⟨⟨?_,?_,?_,?_⟩,⟨?_,?_,?_,?_⟩,ae B⟩ <;> (rw[ab B];rfl)
 have bg:XN (∀b,aa [] (W.alloc (XE A 161)) b->∃u0 u1,XI b ⟨W.heap.size,0,XJ⟩=XK u0/\XI b ⟨W.heap.size,1,XJ⟩=XK u1/\b.frozen? ⟨W.heap.size,0,XJ⟩=XM/\b.frozen? ⟨W.heap.size,1,XJ⟩=XM/\W.heap.size<b.heap.size):=fun b q=>by
  have B:=q.get BA (by simp);have hm:=am.out;exact⟨A[0]'(by omega),A[1]'(by omega),by rw[ab B];exact Rn _,by rw[ab B];exact Rn _,aw B _,aw B _,ae B⟩
 have bd:XN (∀b,aa [] (W.alloc (XE A 161)) b->∃r,((b.setCell ⟨W.heap.size,0,XJ⟩ (Xy (ak f))).setCell ⟨W.heap.size,1,XJ⟩ (Xx XF (-1))).heap[W.heap.size]?=XK (XE r 161)/\r[0]?=XK (Xy (ak f))/\r[1]?=XK (Xx XF (-1))):=fun b q=>by
  have B:=q.get BA (by simp);have hm:=am.out;refine⟨_,af (af B _ _) _ _,?_,?_⟩
  ·rw[QB,QB];simp[hm]
  ·rw[QB];simp[hm]
 obtain⟨⟨z0,z1,z2,z3⟩,⟨z4,z5,z6,z7⟩,z8⟩:=L.out _ S;have ai:XN _:=kW;have bl:XN _:=(fun b (q:aa [] W b)=>O.out b ((HB.out.kp.trans kW).trans q));have bk:XN _:=(fun b (q:aa [] W b)=>N.out b ((HB.out.kp.trans kW).trans q));have ah:XN _:=S;rw[K.out];generalize hvs:ak f=vs at *;clear BW BA O N kW S;go_upto_region 3 with (go_at_call 97;refine PU (bl.out _ ah.out) ?_;rintro e2 w2 ⟨rfl,k2⟩;obtain⟨u0,u1,g0,g1,f0,f1,la⟩:=bg.out w2 k2)
 obtain⟨E,az⟩:∃E,XN ((w2.setCell ⟨W.heap.size,0,XJ⟩ (Xy vs)).setCell ⟨W.heap.size,1,XJ⟩ (Xx XF (-1))=E):=⟨_,rfl⟩
 have i:XN (aa [] W E):=by
  show aa [] W E;rw[<-az.out];exact((ah.out.trans k2).setCell (P7 (PQ _)) _).setCell (P7 (PQ _)) _
 have J:XN _:=bd.out w2 k2;rw[az.out]at J ⊢;have a8:XN (jJ D E x m T s y a):=HB.out.Ur (ai.out.trans i.out);obtain⟨⟨b0,b1,b2,b3⟩,⟨b4,b5,b6,b7⟩,b8⟩:=L.out _ i.out;have bc:XN _:=(fun b (q:aa [] E b)=>a9.out b (a8.out.Ur q));generalize htc:ax f=tc at *;clear u0 u1 g0 g1 f0 f1 k2 z0 z1 z2 z3 z4 z5 z6 z7 z8 m3;go_upto_region 4 with (first | (go_at_call 99;refine PU (bk.out _ i.out) ?_;rintro e4 w4 ⟨rfl,Y⟩) | (go_at_call 98;refine PU (bc.out _ Y) ?_;rintro e5 d ⟨F,V,k,rfl,bs,t,w,bo⟩))
 have cn:W.heap.size<=E.heap.size:=i.out.size;have co:E.heap.size<=w4.heap.size:=Y.size;have C:∀q,l.heap.size<=q->q<w4.heap.size->d.heap[q]?=w4.heap[q]?/\¬cD V q:=fun q h1 h2=>by
  have hn:¬cD a q:=fun z=>by have:=be.out q z;omega
  exact⟨w.1.block q h2 (fun z=>z.elim (fun e=>by omega) hn),w.fresh q h2 hn⟩
 obtain⟨r,B3,y0,y1⟩:=J.out;have ca:=ae B3;have B5:d.heap[W.heap.size]?=XK (XE r 161):=by
  rw[(C W.heap.size (by omega) (by omega)).1];exact Y.get B3 (by simp)
 have a1:c<w4.heap.size:=by omega
 have c1:XI d ⟨c,1,XJ⟩=XK (Xy f.label):=by
  rw[Qy (C c (by rw[K.out];exact PQ _) a1).1];exact(L.out w4 (i.out.trans Y)).1.2.1
 have cb:c<d.heap.size:=PY a1 w.1.size;obtain⟨-,d1,b9⟩:=t.cells;have ch:=t.bag.free 1;obtain⟨p,HP⟩:∃p:iX,XN (p=⟨f.label,k,W.heap.size,1,XJ,[]⟩):=⟨_,rfl⟩
 have av:XN (jK d F p (BN f)):=by
  rw[HP.out];refine⟨rfl,?_,rfl,?_,rfl,rfl,(fun k n h=>by cases h),fun ct h=>absurd h (SE _)⟩
  ·show aZ F (ax f)=XK k;rw[htc];exact bs
  ·intro cd cf hx;have a3:([ak f]:List ByteArray)[cd]?=XK cf:=hx;have hm:cd=0:=by
    have:=(Qc.1 a3).1;simpa using this
   subst hm;have a4:ak f=cf:=by simpa using a3
   rw[hvs]at a4;subst a4;refine⟨W.heap.size,rfl,ae B5,fun q u R=>?_⟩;rw[ab B5]
   match q,R with
   | 0,R=>cases R;exact y0
   | 1,R=>cases R;exact y1
   | q+2,R=>cases R
 have ad:XN ((p.ap≠x/\¬cD V p.ap/\p.ap<d.heap.size)/\∀g,p.ag=XK ⟨g,0,XJ⟩->g≠x/\¬cD V g/\g<d.heap.size):=by
  rw[HP.out];exact⟨⟨by show W.heap.size≠x;omega,(C W.heap.size (by omega) (by omega)).2,ae B5⟩,fun g e=>by cases e⟩
 have M:XN (MW p=[Xy f.label,Xx XF k,Xz (XK ⟨W.heap.size,0,XJ⟩) 1 1,Xz XJ 0 0]):=by rw[HP.out];rfl
 obtain⟨iS,bq,a5,a6,a7⟩:=Qq IK;have hD:XN _:=aB.Ur t.bag ((aa.refl [] d).alloc (XE #[Xy f.label,Xx XF k,Xz (XK ⟨W.heap.size,0,XJ⟩) 1 1,Xz XJ 0 0] 163)).drew;have s2:XN (∀j u,([Xy f.label,Xx XF k,Xz (XK ⟨W.heap.size,0,XJ⟩) 1 1,Xz XJ 0 0]:List XQ)[j]?=XK u->(d.alloc (XE #[Xy f.label,Xx XF k,Xz (XK ⟨W.heap.size,0,XJ⟩) 1 1,Xz XJ 0 0] 163)).drew.cell? ((⟨d.heap.size,0,XJ⟩:Addr).add j)=XK u):=by
  intro j u hj;have hk:(d.alloc (XE #[Xy f.label,Xx XF k,Xz (XK ⟨W.heap.size,0,XJ⟩) 1 1,Xz XJ 0 0] 163)).drew.heap[d.heap.size]?=XK (XE #[Xy f.label,Xx XF k,Xz (XK ⟨W.heap.size,0,XJ⟩) 1 1,Xz XJ 0 0] 163):=PM _ _;rw[ba,ab hk];simpa using hj
 have s3:XN (∀u∈([Xy f.label,Xx XF k,Xz (XK ⟨W.heap.size,0,XJ⟩) 1 1,Xz XJ 0 0]:List XQ),u.oneCell'=XL):=by rw[<-M.out];exact DW p
 have s4:XN ((lp y).n+1<=maxLen):=by show y.length+1<=_;unfold maxLen;omega
 have s5:XN (((lp y).n+1)*72<=140737488355328):=by show(y.length+1)*72<=_;omega
 have ac:XN (∀wz Z,aB wz x 134 (E3 F (y++[p]) Z) (E4 F (y++[p])) Z->aj x (d.alloc (XE #[Xy f.label,Xx XF k,Xz (XK ⟨W.heap.size,0,XJ⟩) 1 1,Xz XJ 0 0] 163)).drew V wz Z->N7 D x m s (BN f) a l (XH (XD #[])) wz):=fun wz Z g1 g2=>by
  have g3:=g2.first ((aa.refl [] d).alloc (XE #[Xy f.label,Xx XF k,Xz (XK ⟨W.heap.size,0,XJ⟩) 1 1,Xz XJ 0 0] 163)).drew;exact⟨rfl,F,y++[p],Z,t.push av.out ad.out g3 g1,aj.first ((ai.out.trans i.out).trans Y) (w.trans g3)⟩
 have Q:=fun X=>tI X p;rw[M.out]at Q;have bf:XN _:=Q;have cg:=fun l=>Ht l f.label (k:Int) (XK ⟨W.heap.size,0,XJ⟩) 1 1;generalize f.label=lb at *;clear Q av ad M J B3 B5 y0 y1 C HP t w bo Y b0 b1 b2 b3 b4 b5 b6 b7 b8;go_region_law (refine aP rfl (.tmp 20) (.tmp 26) 132 rfl iS (XB #[Xy ⟨#[]⟩,Xx XF 0,Xz XJ 0 0,Xz XJ 0 0]) 72 (V 1) (lp y) underlying132 bq a5 a6 a7 rfl (by show 0<4;omega) (by simp[Act.eval] <;> rfl) (aB.own hD.out 1) ⟨d.heap.size,0,XJ⟩ 1 1 [Xy lb,Xx XF k,Xz (XK ⟨W.heap.size,0,XJ⟩) 1 1,Xz XJ 0 0] (by simp[Act.eval]) rfl s2.out s3.out Qf s4.out s5.out ?_;intro g6 G w6 a2 I H;obtain⟨k6,f6,aq⟩:=aB.app hD.out (cs':=E3 F (y++[p]) (cX V 1 ⟨XK ⟨g6,0,XJ⟩,G⟩)) (rows':=E4 F (y++[p])) 1 1 g6 G (y.length+1) _ a2 (bf.out y) I (by simpa using H) (yZ F y _) _ rfl (by simp[E3,cX]);clear a2 I H)
 all_goals go_wp2
 all_goals go_end0
 all_goals exact ac.out _ _ aq.out.1 aq.out.2
end Go.Proofs.YtnbalopedcgpcaaGreat
