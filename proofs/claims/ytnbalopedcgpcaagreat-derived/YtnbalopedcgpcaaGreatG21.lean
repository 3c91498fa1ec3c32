import Derived.Test.YtnbalopedcgpcaaGreatG20
namespace Go.Proofs.YtnbalopedcgpcaaGreat
open Go.RowKit Tryz
open Value renaming int->Xx,string->Xy,slice->Xz,pointer->XA,agg->XB,bool->XC,tuple->XD
open Obj renaming cells->XE
open IntKind renaming i64->XF
open Ending renaming returned->XH
open World renaming cell?->XI
open Option renaming none->XJ,some->XK
open Bool renaming true->XL,false->XM
open Go.RowKit renaming Hid->XN
open Go renaming Calls->XO,World->XP,Value->XQ
set_option maxHeartbeats 0
variable{m:XP}{a I:Nat}{N:List ByteArray}{z3:ByteArray}{s:List St}(k v:Nat)(z4:Option Addr)(H:Nat)(z5:Fs)(D:ByteArray)(w:List St)(y:Nat->Hd)(T:List Nat)(n:St)(o:Hd)(b:List ByteArray)(d:List Bool)(x:Nat)(L:ByteArray)(M:Hd)(g:Int)(f:XP)(l:Nat)
theorem qV:bu ⟨#[]⟩=[]:=by
 have h:(aJ ⟨#[]⟩).2.UD.length=0:=by decide +kernel
 unfold bu;rw[Ql h];rfl
theorem CL:XO prog 6 #[Xz z4 0 x] f fun e a=>e=XH (XC XL)/\a=f:=by
 go_enter func6,ntmps6;go_wp2;refine Rg 1 ?_;rw[RM];go_wp2;go_ret;exact⟨rfl,rfl⟩
theorem JV(l:b.length<=140737488351232)(g:∀x,x∈b->x.size<=140737488351232)(k:b.length=0∨∃c a,z4=XK ⟨c,a,XJ⟩/\iD f c a b) :
  XO prog 6 #[Xz z4 b.length H] f fun e m=>(∃r,e=XH (XC r)/\(r=XL->b.length<=1073741824/\∀i,i<b.length->(b.getD i ⟨#[]⟩).size<=1073741824))/\m=f:=by
 rcases k with j | ⟨c,a,rfl,d⟩
 ·rw[j];refine(CL z4 H f).mono ?_;rintro e o ⟨rfl,rfl⟩;exact⟨⟨XL,rfl,fun _=>⟨by omega,fun i n=>by omega⟩⟩,rfl⟩
 ·exact Gt c a H b f l g d
def du(l:List St)(lab:ByteArray)(n:Nat):Bool:=match l[n]? with | some s=>(s.label.toList==lab.toList)&&jl s.kind | none=>XM
def da(l:List St)(lab:ByteArray):Option Nat:=(List.range l.length).find? (du l lab)
theorem vp(h:l<w.length):du w L l=((w[l].label.toList==L.toList)&&jl w[l].kind):=by
 unfold du;rw[PJ h]
theorem oU(h:cK f v H w y)(O:w.length<=1073741824) :
  XO prog 76 #[XA (XK ⟨v,H,XJ⟩),Xy D] f fun e x=>e=XH (Xx XF (eT (da w D)))/\aa [] f x:=by
 have t:=h.lt;go_enter func76,ntmps76;go_wp2
 go_loopg [5] w.length (fun g i wr=>∃k:Nat,k<=w.length/\g=w.length-k/\i=Xx XF k/\XN (∀i,i<k->du w D i=XM)/\aa [] f wr)
 case atStart=>exact⟨0,by omega,by omega,rfl,fun i q=>by omega,aa.refl _ _⟩
 case round =>
  obtain⟨k,N,M,rfl,a,n⟩:=hrel;have m:=h.Ur n;have c:=m.at
  by_cases j:k<w.length
  ·obtain⟨g,r,K,L,A,B,C,E,F,G,I,J⟩:=m.UD.stmt k j;rw[r]at c;have l:XN _:=vp w D k j;have next:XN (du w D k=XM->∀i,i<k+1->du w D i=XM):=by
    intro u i q;by_cases e:i=k
    ·subst e;exact u
    ·exact a.out i (by omega)
   generalize w[k]=s at *;cases p:(s.label.toList==D.toList)
   ·have b:XN (du w D k=XM):=(by show _=_;rw[l.out,p];simp);clear l m;go_wp2;go_roundg (w.length-(k+1))
    case measure=>omega
    case rel=>exact⟨k+1,by omega,rfl,by go_num,next.out b.out,n⟩
   ·cases o:jl s.kind
    ·have b:XN (du w D k=XM):=(by show _=_;rw[l.out,o];simp);clear l m;go_wp2_with (go_at_call 93;refine(dl s.kind _ _ _ _ _ _ _ _).mono ?_;rintro e z ⟨rfl,d⟩;rw[o]);go_roundg (w.length-(k+1))
     case measure=>omega
     case rel=>exact⟨k+1,by omega,rfl,by go_num,next.out b.out,n.trans d⟩
    ·have b:XN (da w D=XK k):=dN j (by rw[l.out,p,o];rfl) a.out;clear l m;go_wp2_with (go_at_call 93;refine(dl s.kind _ _ _ _ _ _ _ _).mono ?_;rintro e z ⟨rfl,d⟩;rw[o]);go_ret;exact⟨ay (by rw[b.out];rfl),n.trans d⟩
  ·have b:XN (da w D=XJ):=eJ (fun i q=>a.out i (by omega));clear m;go_wp2;go_ret;exact⟨ay (by rw[b.out];rfl),n⟩
def eA(k:Int):ByteArray:=if(k==2)=XL then⟨#[36,102]⟩ else if(k==3)=XL then⟨#[36,101]⟩ else if(k==4)=XL then⟨#[36,97]⟩ else⟨#[36,112]⟩
theorem zn:XO prog 151 #[Xx XF g] f fun e i=>e=XH (Xy (eA g))/\i=f:=by
 cases b:(g==2)
 ·cases c:(g==3)
  ·cases d:(g==4)
   ·have a:XN (eA g=⟨#[36,112]⟩):=(by show _=_;simp only[eA,b,c,d];rfl);go_enter func151,ntmps151;go_wp2;go_ret;exact⟨by rw[a.out];rfl,rfl⟩
   ·have a:XN (eA g=⟨#[36,97]⟩):=(by show _=_;simp only[eA,b,c,d];rfl);go_enter func151,ntmps151;go_wp2;go_ret;exact⟨by rw[a.out];rfl,rfl⟩
  ·have a:XN (eA g=⟨#[36,101]⟩):=(by show _=_;simp only[eA,b,c];rfl);go_enter func151,ntmps151;go_wp2;go_ret;exact⟨by rw[a.out];rfl,rfl⟩
 ·have a:XN (eA g=⟨#[36,102]⟩):=by show _=_;simp only[eA,b];rfl
  go_enter func151,ntmps151;go_wp2;go_ret;exact⟨by rw[a.out];rfl,rfl⟩
def jn(s:St)(k:Nat):ByteArray:=(s.Um.take k).foldl (fun t x=>t++(⟨#[32]⟩++x)) (s.label++⟨#[32]⟩++eA s.kind)
def d8(s:St):ByteArray:=jn s s.Um.length
theorem lT(h:l<n.Um.length):jn n (l+1)=jn n l++(⟨#[32]⟩++n.Um[l]):=by
 unfold jn;rw[d7 n.Um l h,Rb];rfl
structure KF(s:St):Prop where
 label:s.label.size<=100000
 syms:∀x∈s.Um,x.size<=100000
theorem vf:(eA g).size=2:=by
 unfold eA
 repeat' split
 all_goals rfl
theorem zL:(⟨#[32]⟩:ByteArray).size=1:=rfl
theorem lU(h:KF n)(k:Nat)(b:k<=n.Um.length):(jn n k).size<=100003+k*100001:=by
 induction k with
 | zero =>
  unfold jn;have:=h.label;simp only[List.take_zero,List.foldl_nil,ByteArray.size_append,zL,vf];omega
 | succ k a =>
  have c:=h.syms _ (PT (show k<n.Um.length by omega));rw[lT n k (by omega)];simp only[ByteArray.size_append,zL];have:=a (by omega);omega
def eK(l:List St)(n:Nat):Option ByteArray:=match l[n]? with
 | some s=>if(s.kind==2)=XL then XK (ak s) else XJ
 | none=>XJ
def fP(l:List St)(hs:List Nat)(k:Nat):List ByteArray:=(hs.take k).filterMap (eK l)
def bt(l:List St)(hs:List Nat):List ByteArray:=hs.filterMap (eK l)
theorem C3(h:l<T.length)(b:T[l]<w.length)(a:(w[T[l]].kind==2)=XL):fP w T (l+1)=fP w T l++[ak w[T[l]]]:=by
 unfold fP;rw[d7 T l h,Q0];have:eK w T[l]=XK (ak w[T[l]]):=by unfold eK;rw[PJ b];simp[a]
 simp[this]
theorem GG(h:l<T.length)(b:T[l]<w.length)(a:(w[T[l]].kind==2)=XM):fP w T (l+1)=fP w T l:=by
 unfold fP;rw[d7 T l h,Q0];have:eK w T[l]=XJ:=by unfold eK;rw[PJ b];simp[a]
 simp[this]
theorem C2:(fP w T l).length<=T.length:=by
 unfold fP;have a:=Se (eK w) (T.take l);have b:(T.take l).length<=T.length:=by simp;omega
 omega
set_option maxRecDepth 100000
theorem rA(h:cK f v H w y)(ok:dB w)(I:aE f M (bQ T))(av:T.length<=10000)(J:∀x∈T,x<w.length) :
  XO prog 122 #[XA (XK ⟨v,H,XJ⟩),Xz M.ao T.length M.cap] f fun e w'=>∃b:Hd,e=XH (Xz b.ao (bt w T).length b.cap)/\aE w' b (au (bt w T))/\(∀x,b.blk=XK x->f.heap.size<=x)/\aa [] f w':=by
 obtain⟨i0,hi,ai,am,ap⟩:=Qq ey;have a2:=ok.len;have HE:XN (fP w T T.length=bt w T):=by show _=_;unfold fP bt;rw[QJ]
 rw[<-HE.out];clear HE;obtain⟨P,t⟩:∃P,XN (M.ao=P):=⟨_,rfl⟩
 rw[t.out];go_enter func122,ntmps122;go_wp2
 go_loopg [5,6] T.length (fun gk sv i wr=>∃(k:Nat) (b:Hd),k<=T.length/\gk=T.length-k/\i=Xx XF k/\sv=Xz b.ao (fP w T k).length b.cap/\aE wr b (au (fP w T k))/\(∀x,b.blk=XK x->f.heap.size<=x)/\aa [] f wr)
 case atStart=>exact⟨0,⟨XJ,0⟩,by omega,by omega,rfl,rfl,Qj _ _ _ _,by intro x p;simp[Hd.blk]at p,aa.refl _ _⟩
 case round =>
  obtain⟨k,b,hk,hg,rfl,rfl,hO,N,L⟩:=hrel;have hr:=h.Ur L;have az:=C2 w T k;by_cases o:k<T.length
  ·have g:=J T[k] (PT o);have d:aE wr M (bQ T):=I.Uw (fun x p=>L.block x (I.lt p) (by simp));rcases d.UC with ⟨_,h0,_⟩ | ⟨gh,aq,U,V,W,-⟩
   ·have:T.length=0:=h0;omega
   have ch:=d.cell U k (Xx XF T[k]) (gF T k o);have Y:P=XK ⟨gh,0,XJ⟩:=(by rw[<-t.out];exact U);subst Y;have a1:(k:Int)<T.length:=by omega
   have R:XN _:=C3 w T k o g;have z:XN _:=GG w T k o g;have a3:=ok.syms T[k] g;clear U V W d t;generalize T[k]=q at *;have S:=fn w[q] (y (10+2*q)) (y (11+2*q));unfold bW at S;have Q:XN _:=S;clear S;(go_upto_region 6 with (go_at_call 51;refine(aQ v H q w y _ (by exact hr) g).mono ?_;rintro e l ⟨rfl,ag⟩;unfold bW));obtain⟨c,m⟩:∃c,c=l.alloc (XE #[Xx XF w[q].kind,Xy w[q].label,Xz (y (10+2*q)).ao w[q].Um.length (y (10+2*q)).cap,Xz (y (11+2*q)).ao w[q].Ux.length (y (11+2*q)).cap,Xy w[q].fin.file,Xx XF w[q].fin.line,Xx XF w[q].fin.col,Xx XF w[q].til] 110):=⟨_,rfl⟩
   have B:aa [] wr c:=(by rw[m];exact ag.alloc _);have r:c.heap[l.heap.size]?=XK (XE #[Xx XF w[q].kind,Xy w[q].label,Xz (y (10+2*q)).ao w[q].Um.length (y (10+2*q)).cap,Xz (y (11+2*q)).ao w[q].Ux.length (y (11+2*q)).cap,Xy w[q].fin.file,Xx XF w[q].fin.line,Xx XF w[q].fin.col,Xx XF w[q].til] 110):=(by rw[m];exact PM _ _);rw[<-m];clear m;have u0:XI c ⟨l.heap.size,0,XJ⟩=XK (Xx XF w[q].kind):=by rw[ab r];rfl
   have u1:XI c ⟨l.heap.size,1,XJ⟩=XK (Xy w[q].label):=(by rw[ab r];rfl);have u2:XI c ⟨l.heap.size,2,XJ⟩=XK (Xz (y (10+2*q)).ao w[q].Um.length (y (10+2*q)).cap):=(by rw[ab r];rfl);have u3:XI c ⟨l.heap.size,3,XJ⟩=XK (Xz (y (11+2*q)).ao w[q].Ux.length (y (11+2*q)).cap):=(by rw[ab r];rfl);have u4:XI c ⟨l.heap.size,4,XJ⟩=XK (Xy w[q].fin.file):=(by rw[ab r];rfl);have u5:XI c ⟨l.heap.size,5,XJ⟩=XK (Xx XF w[q].fin.line):=(by rw[ab r];rfl);have u6:XI c ⟨l.heap.size,6,XJ⟩=XK (Xx XF w[q].fin.col):=(by rw[ab r];rfl);have u7:XI c ⟨l.heap.size,7,XJ⟩=XK (Xx XF w[q].til):=(by rw[ab r];rfl);have ah:=hr.Ur B;have A:aE c b (au (fP w T k)):=hO.Uw (fun x p=>B.block x (hO.lt p) (by simp));have ad:=(ah.UD.syms q w[q] (PJ g)).view;have E:=L.trans B;cases h2:(w[q].kind==2)
   ·have C:XN _:=z.out h2;clear R z;go_wp2;go_roundg (T.length-(k+1))
    case measure=>omega
    case rel=>exact⟨k+1,b,by omega,rfl,by go_num,by rw[C.out],by rw[C.out];exact A,N,E⟩
   ·have C:XN _:=R.out h2;clear R z;go_wp2_with (first | (go_at_call 97;refine(Q.out _ (by exact ad) (by omega)).mono ?_;rintro e w5 ⟨rfl,k5⟩;have G:=A.Uw (fun x p=>(k5.alloc (XE #[Xy (ak w[q])] 9)).block x (A.lt p) (by simp))) | (at_builtin;refine aD _ rfl (.tmp 23) (.tmp 26) 22 rfl i0 (Xy ⟨#[]⟩) 16 b (au (fP w T k)) underlying22 hi ai am ap rfl Qf rfl (by exact G) ⟨_,0,XJ⟩ 1 1 [Xy (ak w[q])] rfl rfl ?d1 ?d2 Qf ?d3 ?d4 ?_))
    case d1=>intro j u O;match j,O with | 0,O=>simp at O;subst O;simp[Addr.add]
    case d2=>intro u hu;simp at hu;subst hu;rfl
    case d3=>simp only[au];unfold maxLen;omega
    case d4=>simp only[au];omega
    intro X D w6 K s a;rw[bJ (fP w T k) (ak w[q]),<-C.out]at K;have F:=(E.trans k5).alloc (XE #[Xy (ak w[q])] 9);have ac:=F.grown s N;have a0:f.heap.size<=X:=by
     rcases a with e | e
     ·exact N X e
     ·have:=F.size;simp at e this;omega
    have Z:XN ((au (fP w T k)).n+1=(fP w T (k+1)).length):=(by show _=_;rw[C.out];simp[au]);rw[Z.out];clear s a G;go_wp2;go_roundg (T.length-(k+1))
    case measure=>omega
    case rel=>exact⟨k+1,⟨XK ⟨X,0,XJ⟩,D⟩,by omega,rfl,by go_num,rfl,K,by intro x p;simp[Hd.blk]at p;omega,ac⟩
  ·have e:k=T.length:=(by omega);subst e;go_wp2;go_ret;exact⟨b,rfl,hO,N,L⟩
theorem zq(K:cE f o n.Um)(H:n.Um.length<=10000)(j:KF n) :
  XO prog 131 #[bW n o M] f fun e R=>e=XH (Xy (d8 n))/\aa [] f R:=by
 unfold bW;have F:=j.label;have E:=vf n.kind;have u:XN (n.label++⟨#[32]⟩++eA n.kind=jn n 0):=rfl;obtain⟨X,d⟩:∃X,X=f.alloc (XE #[Xx XF n.kind,Xy n.label,Xz o.ao n.Um.length o.cap,Xz M.ao n.Ux.length M.cap,Xy n.fin.file,Xx XF n.fin.line,Xx XF n.fin.col,Xx XF n.til] 110):=⟨_,rfl⟩
 have L:aa [] f X:=by rw[d];exact(aa.refl [] _).alloc _
 have l:X.heap[f.heap.size]?=XK (XE #[Xx XF n.kind,Xy n.label,Xz o.ao n.Um.length o.cap,Xz M.ao n.Ux.length M.cap,Xy n.fin.file,Xx XF n.fin.line,Xx XF n.fin.col,Xx XF n.til] 110):=by rw[d];exact PM _ _
 have O:XI X ⟨f.heap.size,0,XJ⟩=XK (Xx XF n.kind):=by rw[ab l];rfl
 have P:XI X ⟨f.heap.size,1,XJ⟩=XK (Xy n.label):=by rw[ab l];rfl
 have w:XN _:=d.symm;clear d;go_enter func131,ntmps131;go_upto_region 1 with fail
 rw[w.out];go_quiet ((go_at_call 151;exact QC (zn _ _)));rw[u.out];obtain⟨c,b⟩:∃c,c=X.drewN nq:=⟨_,rfl⟩
 rw[<-b];have s:aa [] f c:=by rw[b];exact L.drewN _
 have q:c.heap[f.heap.size]?=XK (XE #[Xx XF n.kind,Xy n.label,Xz o.ao n.Um.length o.cap,Xz M.ao n.Ux.length M.cap,Xy n.fin.file,Xx XF n.fin.line,Xx XF n.fin.col,Xx XF n.til] 110):=by rw[b];exact((aa.refl [] X).drewN _).get l (by simp)
 have Q:XI c ⟨f.heap.size,2,XJ⟩=XK (Xz o.ao n.Um.length o.cap):=by rw[ab q];rfl
 have m:=K.Ur s;have B:=ae q;clear b O P;go_wp2
 go_loopg [3,4] n.Um.length (fun g N i wr=>∃k:Nat,k<=n.Um.length/\g=n.Um.length-k/\i=Xx XF k/\N=Xy (jn n k)/\wr=c)
 case atStart=>exact⟨0,by omega,by omega,rfl,rfl,rfl⟩
 case round =>
  obtain⟨k,C,V,rfl,rfl,rfl⟩:=hrel;by_cases a:k<n.Um.length
  ·have J:=lU n j k C;have W:=j.syms _ (PT a);have v:XN _:=(lT n k a).symm;have D:(k:Int)<n.Um.length:=(by omega);rcases m with G | ⟨g,p,x,t,z,A,r,T,U⟩
   ·rw[G]at a;simp at a
   ·have S:XI wr ⟨g,p+k,XJ⟩=XK (Xy n.Um[k]):=(by rw[ab A];exact r k _ (PJ a));rw[z]at Q;have I:=lU n j (k+1) a;clear r;generalize n.Um[k]=y at *;generalize jn n k=Y at *;go_wp2;go_roundg (n.Um.length-(k+1))
    case measure=>omega
    case rel=>exact⟨k+1,by omega,rfl,by go_num,congrArg Xy v.out,rfl⟩
  ·have e:k=n.Um.length:=(by omega);subst e;go_wp2;go_ret;exact⟨rfl,s⟩
abbrev Pr:=ByteArray×ByteArray
def Pj(p:Pr):List XQ:=[Xy p.1,Xy p.2]
def FQ(l:List Pr):List XQ:=l.flatMap Pj
def gA(l:List Pr):fe:=⟨218,2,l.length,FQ l⟩
theorem CA(l:List Pr)(x:Pr):(⟨(gA l).e,(gA l).size,(gA l).n+1,(gA l).xs++[Xy x.1,Xy x.2]⟩:fe)=gA (l++[x]):=by
 simp[gA,FQ,Pj]
theorem Nv:(prog.info? 218).map (fun i=>(i.zero,i.size,i.bytes))=XK (XK (XB #[Xy ⟨#[]⟩,Xy ⟨#[]⟩]),2,32):=by kernel_rfl
def gD(vs:List ByteArray)(i:Nat):ByteArray:=vs.getD i ⟨#[]⟩
def iJ(vs:List ByteArray)(ms:List Bool)(i k:Nat):List Pr:=((List.range k).filter (fun j=>decide (i<j)&&cR vs.length ms i j)).map (fun j=>(gD vs i,gD vs j))
def mS(vs:List ByteArray)(ms:List Bool)(i:Nat):List Pr:=(List.range i).flatMap (fun i=>iJ vs ms i vs.length)
def tD(vs:List ByteArray)(ms:List Bool):List Pr:=mS vs ms vs.length
theorem Cm:iJ b d l (l+1)=[]:=by
 unfold iJ;rw[List.map_eq_nil_iff,Rx];intro j a;have:=Qe.1 a;simp;omega
theorem FO(a:x<l)(h:cR b.length d x l=XL):iJ b d x (l+1)=iJ b d x l++[(gD b x,gD b l)]:=by
 unfold iJ;rw[QM,QD,QA];simp[a,h]
theorem Jm(h:cR b.length d x l=XM):iJ b d x (l+1)=iJ b d x l:=by
 unfold iJ;rw[QM,QD,QA];simp[h]
theorem vD:mS b d (l+1)=mS b d l++iJ b d l b.length:=by
 unfold mS;rw[QM,Q1];simp
theorem vC:(iJ b d x l).length<=l:=by
 unfold iJ;rw[Qh];have:=Q6 (fun j=>decide (x<j)&&cR b.length d x j) (List.range l);simpa using this
theorem zS(i:Nat):(mS b d i).length<=i*b.length:=by
 induction i with
 | zero=>simp[mS]
 | succ i a =>
  rw[vD,Qa,SL];have:=vC b d i b.length;omega
def pt(vs:List ByteArray)(ms:List Bool)(i j:Nat):List Pr:=mS vs ms i++iJ vs ms i j
theorem Jl(a:x<=10000)(c:b.length<=10000)(i:l<=10000):(pt b d x l).length<=100010000:=by
 unfold pt;rw[Qa];have e:=zS b d x;have f:=vC b d x l;have g:x*b.length<=10000*10000:=Q3 a c;omega
theorem xi(h:b.length<=10000):(tD b d).length<=100000000:=by
 have a:=zS b d b.length;have c:b.length*b.length<=10000*10000:=Q3 h h;unfold tD;omega
theorem zN(h:cK f k v w y)(ok:dB w)(hO:aE f o (au b))(F:b.length<=10000) :
  XO prog 123 #[XA (XK ⟨k,v,XJ⟩),Xx XF H,Xz o.ao b.length o.cap] f fun e Y=>∃m:Hd,e=XH (Xz m.ao (tD b (cT w H b)).length m.cap)/\aE Y m (gA (tD b (cT w H b)))/\(∀x,m.blk=XK x->f.heap.size<=x)/\aa [] f Y:=by
 obtain⟨i0,hi,a1,a2,a3⟩:=Qq Nv;have O:XN _:=Ba k v H w y o b f h ok hO F;have A:(cT w H b).length=b.length*b.length:=gR w H b _;generalize cT w H b=c at *;obtain⟨AO,N⟩:∃AO,XN (o.ao=AO):=⟨_,rfl⟩
 rw[N.out]at O ⊢;go_enter func123,ntmps123;go_wp2_with fail;refine PU O.out ?_;rintro e Z ⟨tb,hv,hm,rfl,am,bk,bl,k1⟩;go_wp2
 go_loopg [8,9] b.length (fun gk sv i wr=>∃(a:Nat) (m:Hd),a<=b.length/\gk=b.length-a/\i=Xx XF a/\sv=Xz m.ao (mS b c a).length m.cap/\aE wr m (gA (mS b c a))/\(∀x,m.blk=XK x->Z.heap.size<=x)/\aa [] Z wr)
 case atStart=>exact⟨0,⟨XJ,0⟩,by omega,by omega,rfl,rfl,Qj _ _ _ _,by intro x K;simp[Hd.blk]at K,aa.refl _ _⟩
 case round =>
  obtain⟨a,m,hk,hg,rfl,rfl,I,hN,hK⟩:=hrel;by_cases E:a<b.length
  ·have ad:XN _:=vD b c a;have HZ:XN _:=Cm b c a;have HB:XN (pt b c a (a+1)=mS b c a):=(by show mS b c a++_=_;rw[HZ.out,QK]);have HE:XN (pt b c a b.length=mS b c (a+1)):=ad.out.symm;go_wp2_with fail
   go_loopg [8,10] (b.length-(a+1)) (fun ai a4 i2 ac=>∃(j:Nat) (d:Hd),a<j/\j<=b.length/\ai=b.length-j/\i2=Xx XF j/\a4=Xz d.ao (pt b c a j).length d.cap/\aE ac d (gA (pt b c a j))/\(∀x,d.blk=XK x->Z.heap.size<=x)/\aa [] Z ac)
   case atStart=>exact⟨a+1,m,by omega,by omega,rfl,by go_num,by rw[HB.out],by rw[HB.out];exact I,hN,hK⟩
   case round =>
    obtain⟨j,d,a0,hj,a9,rfl,rfl,s,r,l⟩:=hrel;clear I hN hK;have a8:=Jl b c a j (by omega) F (by omega);by_cases D:j<b.length
    ·have T:=am.Ur l;have B:aE wr o (au b):=hO.Uw (fun x K=>(k1.trans l).block x (hO.lt K) (by simp));rcases B.UC with ⟨_,h0,_⟩ | ⟨q,a5,ev,S,a7,-⟩
     ·have:b.length=0:=h0;omega
     have ag:=B.cell ev a (Xy b[a]) (by simp[au,strs,E]);have ah:=B.cell ev j (Xy b[j]) (by simp[au,strs,D]);have a6:=hO.lt (k:=q) (by unfold Hd.blk;rw[ev];rfl);have ap:AO=XK ⟨q,0,XJ⟩:=(by rw[<-N.out];exact ev);subst ap;have W:=ae S;have V:gD b a=b[a]:=i7 b a E;have U:gD b j=b[j]:=i7 b j D;have HY:XN (cR b.length c a j=XL->pt b c a (j+1)=pt b c a j++[(gD b a,gD b j)]):=fun hp=>by unfold pt;rw[FO b c a j a0 hp,QY]
     have G:XN (cR b.length c a j=XM->pt b c a (j+1)=pt b c a j):=fun hp=>by unfold pt;rw[Jm b c a j hp]
     rw[V,U]at HY;clear V U S B;have bg:(a:Int)<b.length:=by omega
     have be:(j:Int)<b.length:=(by omega);have bf:(0:Int)<=a:=(by omega);have bd:(0:Int)<=j:=(by omega);generalize b[a]=x at *;generalize b[j]=p at *;cases C:cR b.length c a j
     ·have P:XN _:=G.out C;clear HY G;go_wp2_with (go_at_call 149;refine(mt tb b c hv hm a j _ (by exact T) A F E D).mono ?_;rintro e w9 ⟨rfl,J⟩;rw[J,C]);go_roundg (b.length-(j+1))
      case measure=>omega
      case rel=>exact⟨j+1,d,by omega,by omega,rfl,by go_num,by rw[P.out],by rw[P.out];exact s,r,l⟩
     ·have P:XN _:=HY.out C;clear HY G;generalize pt b c a j=M at *;have s3:XN (∀u∈([Xy x,Xy p]:List XQ),u.oneCell'=XL):=by
       intro u hu;simp at hu;rcases hu with rfl | rfl <;> rfl
      have s4:XN ((gA M).n+1<=maxLen):=(by show _<=_;simp only[gA];unfold maxLen;omega);have s5:XN (((gA M).n+1)*32<=140737488355328):=(by show _<=_;simp only[gA];omega);have Q:XN (aa [] wr (wr.alloc (XE #[Xy x,Xy p] 218)).drew):=((aa.refl [] wr).alloc _).drew;have hD:XN (aE (wr.alloc (XE #[Xy x,Xy p] 218)).drew d (gA M)):=s.Uw (fun z hz=>Q.out.block z (s.lt hz) (by simp));have s2:XN (∀j u,([Xy x,Xy p]:List XQ)[j]?=XK u->(wr.alloc (XE #[Xy x,Xy p] 218)).drew.cell? ((⟨wr.heap.size,0,XJ⟩:Addr).add j)=XK u):=by
       intro j u hj;rw[ba];have hk:(wr.alloc (XE #[Xy x,Xy p] 218)).drew.heap[wr.heap.size]?=XK (XE #[Xy x,Xy p] 218):=PM _ _;rw[ab hk];simpa using hj
      have HS:XN (∀L,(wr.alloc (XE #[Xy x,Xy p] 218)).drew.grownBy L d.blk->XI L ⟨q,a,XJ⟩=XK (Xy x)/\XI L ⟨q,j,XJ⟩=XK (Xy p)):=by
       intro L az;have e:L.heap[q]?=wr.heap[q]?:=(az.block q (PY W Q.out.size) (fun e=>by have:=r q e.symm;have:=k1.size;omega)).trans (Q.out.block q W (by simp));exact⟨by rw[Qy e];exact ag,by rw[Qy e];exact ah⟩
      (go_upto_region 10 with (go_at_call 149;refine(mt tb b c hv hm a j _ (by exact T) A F E D).mono ?_;rintro e w9 ⟨rfl,J⟩;rw[J,C]));go_region_held3 (fun Y=>XI Y ⟨q,a,XJ⟩=XK (Xy x)/\XI Y ⟨q,j,XJ⟩=XK (Xy p)) (go_keep) ((refine aP (by rfl) (.tmp 33) (.tmp 43) 164 (by rfl) i0 (XB #[Xy ⟨#[]⟩,Xy ⟨#[]⟩]) 32 d (gA M) underlying164 hi a1 a2 a3 rfl Nat.two_pos (by simp[Act.eval] <;> rfl) hD.out ⟨wr.heap.size,0,XJ⟩ 1 1 [Xy x,Xy p] (by simp[Act.eval]) rfl s2.out s3.out Qf s4.out s5.out ?_;intro g5 R L X t g;obtain⟨q1,q2⟩:=HS.out L t));rw[CA M (x,p),<-P.out]at X;have av:=(l.trans Q.out).grown t r;have bc:Z.heap.size<=g5:=by
       rcases g with e | e
       ·exact r g5 e
       ·have:=(l.trans Q.out).size;simp at e this;omega
      have aq:XN ((gA M).n+1=(pt b c a (j+1)).length):=(by show _=_;rw[P.out];simp[gA]);rw[aq.out];clear t g q1 q2;go_wp2;go_roundg (b.length-(j+1))
      case measure=>omega
      case rel=>exact⟨j+1,⟨XK ⟨g5,0,XJ⟩,R⟩,by omega,by omega,rfl,by go_num,rfl,X,by intro x K;simp[Hd.blk]at K;omega,av⟩
    ·have e:j=b.length:=(by omega);subst e;rw[HE.out]at s ⊢;go_wp2;go_roundg (b.length-(a+1))
     case measure=>omega
     case rel=>exact⟨a+1,d,by omega,rfl,by go_num,rfl,s,r,l⟩
  ·have e:a=b.length:=(by omega);subst e;go_wp2;go_ret;exact⟨m,rfl,I,fun x K=>by have:=hN x K;have:=k1.size;omega,k1.trans hK⟩
def bN(l:List St)(a:Nat):List Pr:=tD (bt l (al l a)) (cT l a (bt l (al l a)))
def ce(l:List St)(n:Nat):ByteArray:=match l[n]? with | some s=>d8 s | none=>⟨#[]⟩
def cB(p:Pr):ByteArray:=⟨#[36,100,32]⟩++p.1++⟨#[32]⟩++p.2
def aX(l:List St)(a:Nat):List ByteArray:=(al l a).map (ce l)++(bN l a).map cB++[ce l a]
theorem kD(h:l∈al w x):l<w.length:=by
 unfold al cI at h;exact Qe.1 (QL.1 h).1
theorem ia:(al w l).length<=w.length:=by
 unfold al cI;have:=Q6 (d9 w (bX w l) l) (List.range w.length);simpa using this
theorem mz:(bt w T).length<=T.length:=Se _ _
theorem I6(h:cK f k v w y)(Q:H<w.length)(C:dB w) :
  XO prog 100 #[XA (XK ⟨k,v,XJ⟩),Xx XF H] f fun e K=>∃a c:Hd,e=XH (XB #[Xz a.ao (al w H).length a.cap,Xz c.ao (bN w H).length c.cap])/\aE K a (bQ (al w H))/\aE K c (gA (bN w H))/\(∀p,a.blk=XK p∨c.blk=XK p->f.heap.size<=p)/\aa [] f K:=by
 have M:=C.len;have R:=ia w H;have ac:=mz w (al w H);have E:XN (∀x∈al w H,x<w.length):=fun x d=>kD w H x d;have N:XN (bN w H=tD (bt w (al w H)) (cT w H (bt w (al w H)))):=rfl;obtain⟨W,B⟩:∃W,W=f.alloc (XE #[Xz XJ 0 0,Xz XJ 0 0] 166):=⟨_,rfl⟩
 have t:aa [] f W:=by rw[B];exact(aa.refl [] _).alloc _
 have L:W.heap[f.heap.size]?=XK (XE #[Xz XJ 0 0,Xz XJ 0 0] 166):=by rw[B];exact PM _ _
 have O:XN _:=B.symm;clear B;have n:=h.Ur t;have D:XN _:=h9 k v H w y W n Q C;go_enter func100,ntmps100;go_wp2_with fail;rw[O.out];refine PU D.out ?_;rintro e w1 ⟨a,rfl,b,j,o⟩;go_wp2_with fail;refine(rA k v w y (al w H) a w1 (n.Ur o) C b (by omega) E.out).mono ?_;rintro e w2 ⟨Z,rfl,z,P,q⟩;go_wp2_with fail;refine(zN k v H w y Z (bt w (al w H)) w2 ((n.Ur o).Ur q) C z (by omega)).mono ?_;rintro e s ⟨c,rfl,m,l,J⟩;rw[<-N.out]at m ⊢;have g:aE s a (bQ (al w H)):=b.Uw (fun x d=>(q.trans J).block x (b.lt d) (by simp));have i:=((o.trans q).trans J).get L (by simp);have I:aa [] f s:=((t.trans o).trans q).trans J;have U:=(t.trans o).size;have V:=((t.trans o).trans q).size;have S:=o.size;have T:=q.size;have X:=ae L;have Y:=t.size;have z0:XI s ⟨f.heap.size,0,XJ⟩=XK (Xz XJ 0 0):=by rw[ab i];rfl
 have z1:XI s ⟨f.heap.size,1,XJ⟩=XK (Xz XJ 0 0):=by rw[ab i];rfl
 have yf:=aw i;have F:XN (∀u r,aE ((s.setCell ⟨f.heap.size,0,XJ⟩ u).setCell ⟨f.heap.size,1,XJ⟩ r) a (bQ (al w H))):=fun u r=>g.Uw (fun x d=>(P9 _ _ _ _ (by have:=j x d;show x≠f.heap.size;omega)).trans (P9 _ _ _ _ (by have:=j x d;show x≠f.heap.size;omega)));have G:XN (∀u r,aE ((s.setCell ⟨f.heap.size,0,XJ⟩ u).setCell ⟨f.heap.size,1,XJ⟩ r) c (gA (bN w H))):=fun u r=>m.Uw (fun x d=>(P9 _ _ _ _ (by have:=l x d;show x≠f.heap.size;omega)).trans (P9 _ _ _ _ (by have:=l x d;show x≠f.heap.size;omega)));clear b z m g;go_wp2;exact Qg (v:=XB #[Xz a.ao (al w H).length a.cap,Xz c.ao (bN w H).length c.cap]) (by simp[results,results100,go_sem,z0,z1]) rfl
  ⟨a,c,rfl,F.out _ _,G.out _ _,fun p A=>A.elim (fun A=>by have:=j p A;omega) (fun A=>by have:=l p A;omega),
   (I.setCell (P7 (PQ _)) _).setCell (P7 (PQ _)) _⟩
def l0(L:List ByteArray)(k:Nat):List ByteArray:=L.take k++List.replicate (L.length-k) ⟨#[]⟩
theorem FL(h:l<=b.length):(l0 b l).length=b.length:=by simp[l0];omega
theorem Cj(h:l<b.length):l0 b (l+1)=(l0 b l).set l b[l]:=by
 unfold l0;rw[d7 b l h];apply Q9;intro i;have c:(b.take l).length=l:=by simp;omega
 rcases Sc i l with a | a | a
 ·rw[Ti (by omega),PR (by simp;omega),PR (by omega),PR (by omega)]
 ·subst a;rw[List.getElem?_set_self (by simp;omega),PR (by simp;omega),Qb (by omega),c];simp
 ·rw[Ti (by omega),Qb (by simp;omega),Qb (by omega)];simp only[List.length_append,c,List.length_singleton,List.getElem?_replicate];by_cases d:i<b.length
  ·rw[PZ (by omega),PZ (by omega)]
  ·rw[PV (by omega),PV (by omega)]
theorem FK:l0 b b.length=b:=by simp[l0]
theorem JY:strs (b.set x L)=(strs b).set x (Xy L):=by simp[strs,List.map_set]
def ej(w:XP)(g:Nat)(L:List ByteArray)(k:Nat):Prop:=w.heap[g]?=XK (XE (strs (l0 L k)).toArray 9)
theorem ej.next(h:ej m a N I)(c:N[I]?=XK z3):ej (m.setCell ⟨a,I,XJ⟩ (Xy z3)) a N (I+1):=by
 obtain⟨b,rfl⟩:=Qc.1 c;unfold ej at h ⊢;rw[af h,Cj N I b,JY,QQ]
theorem ej.cell{i:Nat}(h:ej m a N I)(c:I<=N.length)(b:i<N.length):∃x,XI m ⟨a,i,XJ⟩=XK (Xy x):=by
 refine⟨(l0 N I)[i]'(by rw[FL N I c];exact b),?_⟩;rw[ab h];simp[strs]
theorem ej.kept{b:XP}{S:List Nat}(h:ej m a N I)(q:aa S m b)(c:a∉S):ej b a N I:=q.get h c
def yc(l:List St):Prop:=∀s∈l,s.kind≠1->KF s
theorem mC:(aX w l).length=(al w l).length+(bN w l).length+1:=by simp[aX];omega
theorem vj(h:l<(al w x).length)(a:(al w x)[l]<w.length):(aX w x)[l]?=XK (d8 w[(al w x)[l]]):=by
 unfold aX;rw[PR (by simp;omega),PR (by simpa using h),Qt,PJ h];simp[ce,List.getElem?_eq_getElem a]
theorem sZ(h:l<(bN w x).length):(aX w x)[(al w x).length+l]?=XK (cB (bN w x)[l]):=by
 unfold aX;rw[PR (by simp;omega),Qb (by simp),Qt];simp[h]
theorem sY(a:l<w.length):(aX w l)[(al w l).length+(bN w l).length]?=XK (d8 w[l]):=by
 unfold aX;rw[Qb (by simp)];simp[ce,List.getElem?_eq_getElem a]
theorem sW(h:l∈al w x)(c:l<w.length):w[l].kind=2∨w[l].kind=3:=by
 unfold al cI at h;obtain⟨-,a⟩:=QL.1 h;unfold d9 at a;rw[PJ c]at a;simp only[Bool.and_eq_true]at a;have:=a.2;unfold jp at this;cases b:(w[l].kind==2)
 ·rw[b]at this;right;simpa using this
 ·left;simpa using b
theorem DE(h:∀a∈b,a.size<=l):(gD b x).size<=l:=by
 unfold gD;rw[PK];cases e:b[x]? with
 | none=>exact Qx _
 | some a=>exact h a (Qp e)
theorem tz(g:yc w)(p:Pr)(h:p∈bN w l):p.1.size<=100000/\p.2.size<=100000:=by
 have d:∀x∈bt w (al w l),x.size<=100000:=by
  intro x e;unfold bt at e;obtain⟨n,c,b⟩:=Rq.1 e;have a:=kD w l n c;unfold eK at b;rw[PJ a]at b;simp only at b;split at b
  ·next k =>
   cases b
   have o:=sW w l n c a;have f:=g w[n] (PT a) (by omega);unfold ak;split
   ·next m =>
    refine f.syms _ ?_;rw[PK,PJ (show 1<w[n].Um.length by omega)];exact PT _
   ·exact Qx _
  ·cases b
 unfold bN tD mS at h;obtain⟨i,-,h⟩:=RI.1 h;unfold iJ at h;obtain⟨j,-,rfl⟩:=Qu.1 h;exact⟨DE _ _ _ d,DE _ _ _ d⟩
theorem KZ:(⟨#[36,100,32]⟩:ByteArray).size=3:=rfl
theorem LR(L:List Pr)(k:Nat)(h:k<L.length):(FQ L)[k*2]?=XK (Xy L[k].1)/\(FQ L)[k*2+1]?=XK (Xy L[k].2):=by
 induction L generalizing k with
 | nil=>simp at h
 | cons p L a =>
  cases k with
  | zero=>exact⟨rfl,rfl⟩
  | succ k =>
   have:=a k (by simpa using h);have e:FQ (p :: L)=Xy p.1 :: Xy p.2 :: FQ L:=rfl;rw[e];refine⟨?_,?_⟩
   ·rw[show(k+1)*2=k*2+1+1 by omega];simpa using this.1
   ·rw[show(k+1)*2+1=k*2+1+1+1 by omega];simpa using this.2
theorem BQ(h:cK f k v w y)(ha:H<w.length)(ok:dB w)(hz:yc w)(bl:w[H].kind≠1) :
  XO prog 111 #[XA (XK ⟨k,v,XJ⟩),Xx XF H] f fun e w'=>∃g,e=XH (Xz (XK ⟨g,0,XJ⟩) (aX w H).length (aX w H).length)/\ej w' g (aX w H) (aX w H).length/\f.heap.size<=g/\aa [] f w':=by
 obtain⟨i0,hi,bw,bx,b0⟩:=Qq ey;have b4:=ok.len;have cf:=ia w H;have bq:=mz w (al w H);have cs:(bN w H).length<=100000000:=xi _ _ (by omega);have m:XN _:=mC w H;obtain⟨N,F⟩:∃N,XN ((aX w H).length=N):=⟨_,rfl⟩
 rw[F.out]at m ⊢;have a1:XN (∀d (h:d<(al w H).length) (hq:(al w H)[d]<w.length),(aX w H)[d]?=XK (d8 w[(al w H)[d]])):=fun d h hq=>vj w H d h hq;have a3:XN (∀j (h:j<(bN w H).length),(aX w H)[(al w H).length+j]?=XK (cB (bN w H)[j])):=fun j h=>sZ w H j h;have a2:XN ((aX w H)[(al w H).length+(bN w H).length]?=XK (d8 w[H])):=sY w H ha;have a6:XN _:=tz w H hz;have a0:XN (∀n∈al w H,∃h:n<w.length,KF w[n]):=fun n hn=>⟨kD w H n hn,hz _ (PT _) (by have:=sW w H n hn (kD w H n hn);omega)⟩
 have bo:=hz _ (PT ha) bl;have a5:XN _:=I6 k v H w y f h ha ok;have m1:=fun f=>bR (P:=prog) f 22 9 i0 _ underlying22 hi bw N 1 bx (by rw[b0];have:=m.out;omega) (by have:=m.out;omega);obtain⟨mc,U⟩:∃mc,mc=madeCells (Xy ⟨#[]⟩).cells (N*1):=⟨_,rfl⟩
 rw[<-U]at m1;have a4:XN (mc=(strs (l0 (aX w H) 0)).toArray):=by
  show _=_;rw[U];have e:(Xy ⟨#[]⟩).cells=#[Xy ⟨#[]⟩]:=rfl;rw[e,zy];simp[l0,strs,F.out]
 clear U hz;generalize hL:aX w H=L at *;generalize hHy:al w H=a at *;generalize hPr:bN w H=c at *;clear hL hHy hPr bq;have b9:(a.length:Int)+(c.length:Int)+1=(N:Int):=by have:=m.out;omega
 have b8:N<=200000000:=by have:=m.out;omega
 have co:a.length+c.length<N:=by have:=m.out;omega
 go_enter func111,ntmps111;go_wp2_with fail;refine PU a5.out ?_;rintro e A ⟨R,C,rfl,am,ap,b7,k1⟩;obtain⟨J,ad⟩:∃J,XN (R.ao=J):=⟨_,rfl⟩
 obtain⟨E,ag⟩:∃E,XN (C.ao=E):=⟨_,rfl⟩
 rw[ad.out,ag.out];obtain⟨X,hX⟩:∃X,X=A.alloc (XE #[Xz J a.length R.cap,Xz E c.length C.cap] 166):=⟨_,rfl⟩
 have kX:aa [] A X:=by rw[hX];exact(aa.refl [] _).alloc _
 have BX:X.heap[A.heap.size]?=XK (XE #[Xz J a.length R.cap,Xz E c.length C.cap] 166):=by rw[hX];exact PM _ _
 have HX:XN _:=hX.symm;clear hX;obtain⟨Y,hY⟩:∃Y,Y=X.alloc (XE mc 9):=⟨_,rfl⟩
 have kY:aa [] X Y:=by rw[hY];exact(aa.refl [] _).alloc _
 have BY:ej Y X.heap.size L 0:=by unfold ej;rw[hY,<-a4.out];exact PM _ _
 have HY:XN _:=hY.symm;clear hY;have u0:XI X ⟨A.heap.size,0,XJ⟩=XK (Xz J a.length R.cap):=by rw[ab BX];rfl
 have u1:XI X ⟨A.heap.size,1,XJ⟩=XK (Xz E c.length C.cap):=by rw[ab BX];rfl
 have b6:=ae BX;have av:=h.Ur (k1.trans kX);have ct:=(k1.trans kX).size;have I:aE X R (bQ a):=am.Uw (fun x Z=>kX.block x (am.lt Z) (by simp));have u:aE X C (gA c):=ap.Uw (fun x Z=>kX.block x (ap.lt Z) (by simp));go_upto_region 3 with fail
 rw[HX.out];go_upto_region 4 with fail
 rw[HY.out];clear u0 u1 m1;generalize hG:X.heap.size=G at *;go_wp2
 go_loopg [8] a.length (fun gk i wr=>∃(d:Nat),d<=a.length/\gk=a.length-d/\i=Xx XF d/\ej wr G L d/\aa [] X wr)
 case atStart=>exact⟨0,by omega,by omega,rfl,BY,kY⟩
 case round =>
  obtain⟨d,hk,hg,rfl,Q,hK⟩:=hrel;have r:=av.Ur hK;have B:=hK.get BX (by simp);have bk:=ae B;have u0:XI wr ⟨A.heap.size,0,XJ⟩=XK (Xz J a.length R.cap):=by rw[ab B];rfl
  have u1:XI wr ⟨A.heap.size,1,XJ⟩=XK (Xz E c.length C.cap):=by rw[ab B];rfl
  by_cases T:d<a.length
  ·have z:aE wr R (bQ a):=I.Uw (fun x Z=>hK.block x (I.lt Z) (by simp));rcases z.UC with ⟨_,h0,_⟩ | ⟨gh,b1,eh,a9,bc,-⟩
   ·have:a.length=0:=h0;omega
   have ch:=z.cell eh d (Xx XF a[d]) (gF a d T);have bf:J=XK ⟨gh,0,XJ⟩:=(by rw[<-ad.out];exact eh);subst bf;obtain⟨D,bm⟩:=a0.out a[d] (PT T);have K:XN _:=a1.out d T D;have cn:(d:Int)<a.length:=by omega
   clear eh a9 bc z;generalize a[d]=q at *;have W:=ok.syms q D;have V:=(r.UD.syms q w[q] (PJ D)).view;go_wp2_with fail;refine(aQ k v q w y wr r D).mono ?_;rintro e w3 ⟨rfl,k3⟩;go_wp2_with fail;refine(zq w[q] _ _ w3 (V.Ur k3) W bm).mono ?_;rintro e w4 ⟨rfl,k4⟩;have s:=k3.trans k4;have b:=Q.kept s (by simp);obtain⟨x0,cx⟩:=b.cell (i:=d) (by have:=F.out;omega) (by have:=F.out;omega);have aq:=aw b;have ai:=ae b;have p:XN _:=b.next K.out;have O:=hK.trans s;have cl:(d:Int)<(N:Int):=by omega
   generalize d8 w[q]=tx at *;go_wp2;go_roundg (a.length-(d+1))
   case measure=>omega
   case rel=>exact⟨d+1,by omega,rfl,by go_num,p.out,O.setCell (P7 (To hG)) _⟩
  ·have e:d=a.length:=(by omega);subst e;clear u0;go_wp2
   go_loopg [9] c.length (fun be i2 az=>∃(j:Nat),j<=c.length/\be=c.length-j/\i2=Xx XF j/\ej az G L (a.length+j)/\aa [] X az)
   case atStart=>exact⟨0,by omega,by omega,rfl,Q,hK⟩
   case round =>
    obtain⟨j,hj,cb,rfl,l,t⟩:=hrel;clear Q hK r B bk u1;have ac:=t.get BX (by simp);have b5:=ae ac;have u1:XI wr ⟨A.heap.size,1,XJ⟩=XK (Xz E c.length C.cap):=(by rw[ab ac];rfl);by_cases S:j<c.length
    ·have o:aE wr C (gA c):=u.Uw (fun x Z=>t.block x (u.lt Z) (by simp));rcases o.UC with ⟨_,h0,_⟩ | ⟨M,b2,ep,ah,bd,-⟩
     ·have:c.length=0:=h0;omega
     obtain⟨v1,v2⟩:=LR c j S;have a7:=o.cell ep (j*2) _ v1;have a8:=o.cell ep (j*2+1) _ v2;have cd:=ae ah;have bg:E=XK ⟨M,0,XJ⟩:=(by rw[<-ag.out];exact ep);subst bg;have K:XN _:=a3.out j S;obtain⟨z1,z2⟩:=a6.out _ (PT S);have cj:(j:Int)<c.length:=by omega
     have cg:(0:Int)<=j:=(by omega);have bs:(0:Int)<=(a.length:Int)+(j:Int):=(by omega);have bv:(a.length:Int)+(j:Int)<(N:Int):=(by omega);have cu:IntKind.i64.wrap ((a.length:Int)+(j:Int))=(a.length:Int)+(j:Int):=(by rw[Re];omega);have bp:((a.length:Int)+(j:Int)).toNat=a.length+j:=(by omega);have b3:=u.lt (k:=M) (by unfold Hd.blk;rw[ep];rfl);have cv:G≠A.heap.size:=(by omega);have cw:A.heap.size≠G:=(by omega);have cz:G≠M:=(by omega);have cF:M≠G:=(by omega);clear ep ah bd o v1 v2;generalize c[j]=pp at *;obtain⟨p1,p2⟩:=pp;simp only at a7 a8 z1 z2;have HT:XN (⟨#[36,100,32]⟩++p1++⟨#[32]⟩++p2=cB (p1,p2)):=rfl;have n1:¬9223372036854775807<3+p1.size:=by omega
     have n2:¬9223372036854775807<3+p1.size+1:=(by omega);have n3:¬9223372036854775807<3+p1.size+1+p2.size:=(by omega);obtain⟨x0,cx⟩:=l.cell (i:=a.length+j) (by have:=F.out;omega) (by have:=F.out;omega);have aq:=aw l;have ai:=ae l;have p:XN (ej (wr.setCell ⟨G,a.length+j,XJ⟩ (Xy (cB (p1,p2)))).drew G L (a.length+j+1)):=(l.next K.out).kept (aa.refl [] _).drew (by simp);(go_upto_region 11 with fail);go_region_held3 (fun w'=>XI w' ⟨A.heap.size,1,XJ⟩=XK (Xz (XK ⟨M,0,XJ⟩) c.length C.cap)/\XI w' ⟨M,j*2,XJ⟩=XK (Xy p1)/\XI w' ⟨M,j*2+1,XJ⟩=XK (Xy p2)) (go_keep) (fail);rw[HT.out];go_wp2;go_roundg (c.length-(j+1))
     case measure=>omega
     case rel=>exact⟨j+1,by omega,rfl,by go_num,p.out,(t.setCell (P7 (To hG)) _).drew⟩
    ·have e:j=c.length:=(by omega);subst e;have r:=av.Ur t;have V:=(r.UD.syms H w[H] (PJ ha)).view;have W:=ok.syms H ha;have bp:((a.length:Int)+(c.length:Int)).toNat=a.length+c.length:=by omega
     have ca:(N:Int)-1=(a.length:Int)+(c.length:Int):=(by omega);go_wp2_with fail;refine(aQ k v H w y wr r ha).mono ?_;rintro e w3 ⟨rfl,k3⟩;go_wp2_with fail;refine(zq w[H] _ _ w3 (V.Ur k3) W bo).mono ?_;rintro e w4 ⟨rfl,k4⟩;have s:=k3.trans k4;have b:=l.kept s (by simp);obtain⟨x0,cx⟩:=b.cell (i:=a.length+c.length) (by have:=F.out;omega) (by have:=F.out;omega);have aq:=aw b;have ai:=ae b;have p:XN _:=b.next a2.out;have O:=t.trans s;have bs:(0:Int)<=(a.length:Int)+(c.length:Int):=by omega
     have bv:(a.length:Int)+(c.length:Int)<(N:Int):=(by omega);have HE:XN (a.length+c.length+1=N):=m.out.symm;rw[HE.out]at p;generalize d8 w[H]=tx at *;go_wp2;go_ret;exact⟨G,rfl,p.out,by omega,(k1.trans (kX.trans O)).setCell (P7 (by show f.heap.size<=G;omega)) _⟩
theorem fC.recd{b:Fs}{H:Nat->Hd}(h:fC m a b s H I):cK m a 10 s H:=by
 obtain⟨d,f,e,c⟩:=h.ver;exact⟨⟨_,_,c.1,rfl⟩,h.UD⟩
set_option maxRecDepth 512
theorem F3(h:cK f v H w y)(b:w.length<=1073741824) :
  XO prog 50 #[XA (XK ⟨v,H,XJ⟩),Xy D] f fun e d=>e=XH (Xx XF (eT (da w D)))/\aa [] f d:=by
 have a:XN _:=oU v H D w y f h b;go_enter func50,ntmps50;go_wp2_with fail;refine PU a.out ?_;rintro e g ⟨rfl,c⟩;go_wp2;go_ret;exact⟨rfl,c⟩
theorem Cz(h:cK f k v w y)(j:H<w.length)(n:dB w)(l:yc w)(b:w[H].kind≠1) :
  XO prog 85 #[XA (XK ⟨k,v,XJ⟩),Xx XF H] f fun e c=>∃g,e=XH (Xz (XK ⟨g,0,XJ⟩) (aX w H).length (aX w H).length)/\ej c g (aX w H) (aX w H).length/\f.heap.size<=g/\aa [] f c:=by
 have a:XN _:=BQ k v H w y f h j n l b;go_enter func85,ntmps85;go_wp2_with fail;refine PU a.out ?_;rintro e o ⟨g,rfl,d,i,m⟩;go_wp2;go_ret;exact⟨g,rfl,d,i,m⟩
theorem vU(h:fC f H z5 w y x)(k:w.length<=1073741824) :
  XO prog 17 #[XA (XK ⟨H,0,XJ⟩),Xy L] f fun e o=>e=XH (match da w L with | some n=>.tuple #[Xx XF n,Xx XF 0] | none=>.tuple #[Xx XF 0,Xx XF 8])/\aa [] f o:=by
 have a:XN _:=F3 H 10 L w y f h.recd k;obtain⟨q,t,r,d⟩:=h.ver;obtain⟨s,g,i,j⟩:=jg.cells d;have m:=bV.lt d;cases c:da w L with
 | none =>
  rw[c]at a;simp only[eT]at a;go_enter func17,ntmps17;go_wp2_with fail;refine PU a.out ?_;rintro e p ⟨rfl,b⟩;go_wp2;go_ret2;exact⟨rfl,b⟩
 | some n =>
  rw[c]at a;simp only[eT]at a;have l:¬(n:Int)<0:=by omega
  go_enter func17,ntmps17;go_wp2_with fail;refine PU a.out ?_;rintro e p ⟨rfl,b⟩;go_wp2;go_ret2;exact⟨rfl,b⟩
def uK(l:List St)(lab:ByteArray)(w:XP)(e:Ending)(w':XP):Prop :=
 aa [] w w'/\match da l lab with
  | some n=>∃g,e=XH (XD #[Xz (XK ⟨g,0,XJ⟩) (aX l n).length (aX l n).length,Xx XF 0])/\ej w' g (aX l n) (aX l n).length/\w.heap.size<=g
  | none=>e=XH (XD #[Xz XJ 0 0,Xx XF 8])
theorem sD(h:da s z3=XK a):∃h:a<s.length,jl s[a].kind=XL/\s[a].label.toList=z3.toList:=by
 unfold da at h;have c:=Qe.1 (Qm h);have b:=Rp h;rw[vp s z3 a c]at b;simp only[Bool.and_eq_true]at b;exact⟨c,b.2,by simpa using b.1⟩
theorem uc(h:fC f H z5 w y x)(l:dB w)(t:yc w) :
  XO prog 58 #[XA (XK ⟨H,0,XJ⟩),Xy L] f fun e v=>uK w L f e v:=by
 have k:=l.len;have b:=vU H z5 w y x L f h (by omega);have s:=bV.lt (Sl (Sl (Sl h.ver)));unfold uK;cases g:da w L with
 | none =>
  rw[g]at b;have a:XN _:=b;clear b;go_enter func58,ntmps58;go_wp2_with fail;refine PU a.out ?_;rintro e m ⟨rfl,d⟩;go_wp2;go_ret2;exact⟨d,rfl⟩
 | some n =>
  rw[g]at b;obtain⟨q,j,-⟩:=sD g;have i:w[n].kind≠1:=by intro e;rw[e]at j;revert j;decide
  have a:XN _:=b;clear b;go_enter func58,ntmps58;go_wp2_with fail;refine PU a.out ?_;rintro e m ⟨rfl,d⟩;have c:=(h.Ur d).recd;have r:=c.lt;go_wp2_with fail;refine(Cz H 10 n w y m c q l t i).mono ?_;rintro e B ⟨o,rfl,p,z,u⟩;have A:=d.size;go_wp2;go_ret2;exact⟨d.trans u,o,rfl,p,by omega⟩
end Go.Proofs.YtnbalopedcgpcaaGreat
