import Derived.Test.YtnbalopedcgpcaaGreatG05
namespace Go.Proofs.YtnbalopedcgpcaaGreat
open Go.RowKit Tryz
open Value renaming int->Xx,string->Xy,slice->Xz,pointer->XA,agg->XB,bool->XC,tuple->XD
open Obj renaming cells->XE
open IntKind renaming i64->XF
open Ending renaming returned->XH
open World renaming cell?->XI
open Option renaming none->XJ,some->XK
open Bool renaming true->XL,false->XM
open Go.RowKit renaming Hid->XN
open Go renaming Calls->XO,World->XP,Value->XQ
set_option maxHeartbeats 0
variable{y:XP}{z7:Hd}{k z5 z0:Nat}{g z4:List XQ}{l:Db}{f:Nat->Hd}(d:Nat)(T:List St)(L:Nat)(y8:XP)(m:Hd)(N:List ByteArray)(S:Nat)(o I:List XQ)(w:Db)(z8:St)(b:Nat->Hd)(D:Int)(a:List (Nat×Nat))(z6:Nat×Nat)(i:List Nat)(n:Nat)(x:XP)(M:Nat->Hd)(z3:List (ByteArray×Pl))(H:Nat)
theorem kH(l:List (Nat×Nat)):(lZ l).length=l.length*2:=by
 induction l with
 | nil=>rfl
 | cons a r b=>simp only[lZ,List.flatMap_cons,List.length_append,List.length_cons,List.length_nil]at *;omega
theorem tu:(lZ (a++[z6]))[a.length*2]?=XK (Xx XF z6.1)/\(lZ (a++[z6]))[a.length*2+1]?=XK (Xx XF z6.2):=by
 rw[nV];have:=kH a;constructor
 ·rw[Qb (by omega),this];simp
 ·rw[Qb (by omega),this];simp
theorem aE.pop{l:List (Nat×Nat)}{x:Nat×Nat}(o:aE y z7 (kh (l++[x]))):aE y z7 (kh l):=by
 rcases o.UC with ⟨s,q,_⟩ | ⟨g,b,f,m,i,j,k,n⟩
 ·have e:(l++[x]).length=0:=q;simp at e
 ·obtain⟨r,a⟩:=z7;simp only at f i j k;subst f;have c:(l++[x]).length<=a:=i;simp at c;refine⟨by simp only[kh];exact kH l,P7 ⟨g,a,b,rfl,Qx _,m,?_,j,k,?_⟩⟩
  ·simp only[kh];omega
  ·have d:b.toList.take ((l++[x]).length*2)=lZ (l++[x]):=n;simp only[kh];have p:lZ l=(lZ (l++[x])).take (l.length*2):=by rw[nV,List.take_left' (kH l)]
   rw[p,<-d,Sp];congr 1;simp
def cL(d:Db)(bl:List (Nat×Nat))(x:Nat×Nat):Db:={ d with blocks:=bl,Uv:=d.Uv.take x.1,Uy:=d.Uy.take x.2 }
theorem J5:(N.take H).length=if H<=N.length then H else N.length:=by
 rw[QW];split <;> omega
theorem aE.taken{l:List ByteArray}(o:aE y z7 (au l))(c:Nat):aE y z7 (au (l.take c)):=by
 by_cases a:c<=l.length
 ·exact o.cut c a
 ·rw[Sf (by omega)];exact o
theorem sF(b:XN ((N.take S).length=n))(c:aE x m (au N))(a:S<=1073741824) :
  XO prog 199 #[Xz m.ao N.length m.cap,Xx XF S] x fun e d=>e=XH (Xz m.ao n m.cap)/\d=x:=by
 have e:n=if S<=N.length then S else N.length:=by rw[<-b.out,J5]
 rw[e];exact EQ m N S x c a
theorem mx{d':Db}(h:aO y k z5 g z4 l f)(e:g.length=z0)(c:n<10)(m:aE y (f n) (aT d' f n))(a:∀j,j≠n->aT d' f j=aT l f j)(u:XQ)(b:H<13)(d:(bM l f).set H u=bM d' (cX f n (f n))) :
  aO (y.setCell ⟨k,z0+H,XJ⟩ u) k z5 g z4 d' f/\aj k y f (y.setCell ⟨k,z0+H,XJ⟩ u) f:=by
 have i:=Kb f n;have:=h.put (d':=d') z0 H e n c (f n) m (Ts _ _) (P7 (P0 rfl)) a u b d;rw[i]at this;exact this
set_option maxRecDepth 100000
theorem wC(h:aO x d L o I w b)(z:o.length=S)(E:w.blocks=a++[z6])(hs:eu w 1073741824)(hx:z6.1<=1073741824/\z6.2<=1073741824) :
  XO prog 183 #[XA (XK ⟨d,S,XJ⟩)] x fun e w'=>e=XH (XD #[])/\aO w' d L o I (cL w a z6) b/\aj d x b w' b:=by
 obtain⟨M,N,O,P,Q,v,R,T,U,V,r,s,t⟩:=h.cells S z;obtain⟨f,j⟩:=z6;simp only at hx;have q:=h.free;have aq:=h.lt;have H:=h.own 5;have i:aE x (b 5) (kh (a++[(f,j)])):=by have:=H;simp only[aT,E]at this;exact this
 have u:=hs.blocks;rw[E]at u v;simp only[List.length_append,List.length_cons,List.length_nil]at u v;rcases i.UC with ⟨e0,h0,_⟩ | ⟨g,ap,K,e2,e3,Y,e5,e6⟩
 ·have Z:(a++[(f,j)]).length=0:=h0;simp at Z
 ·have p1:=i.cell K (a.length*2) _ (tu a (f,j)).1;have p2:=i.cell K (a.length*2+1) _ (tu a (f,j)).2;have ah:a.length+1<=(b 5).cap:=by have:(a++[(f,j)]).length<=(b 5).cap:=e3;simpa using this
  have ad:(b 5).cap<=9223372036854775807:=by unfold maxLen at Y;exact Y
  have hg:=ae e2;have W:=mx 5 5 (d':={ w with blocks:=a }) h z (by omega) i.pop (qX w b a) (Xz (XK ⟨g,0,XJ⟩) a.length (b 5).cap) (by omega) (by simp[bM,cX,K]);obtain⟨n,k⟩:∃n,n=(x.setCell ⟨d,S+5,XJ⟩ (Xz (XK ⟨g,0,XJ⟩) a.length (b 5).cap)).alloc (XE #[Xx XF f,Xx XF j] 273):=⟨_,rfl⟩
  have y:aO n d L o I { w with blocks:=a } b:=by rw[k];exact W.1.Ur ((aa.refl [] _).alloc _)
  have T2:aj d x b n b:=by rw[k];exact W.2.Ur ((aa.refl [] _).alloc _)
  have A:n.heap[x.heap.size]?=XK (XE #[Xx XF f,Xx XF j] 273):=by
   rw[k];have:=PM (x.setCell ⟨d,S+5,XJ⟩ (Xz (XK ⟨g,0,XJ⟩) a.length (b 5).cap)) (XE #[Xx XF f,Xx XF j] 273);simpa [World.setCell] using this
  have HW:XN ((x.setCell ⟨d,S+5,XJ⟩ (Xz (XK ⟨g,0,XJ⟩) a.length (b 5).cap)).alloc (XE #[Xx XF f,Xx XF j] 273)=n):=k.symm;have ai:=hs.Uv;have am:=hs.Uy;rw[K]at v;simp only at p1 p2;clear H i e3 Y e5 e6 e2 h W k;go_enter func183,ntmps183;go_upto_region 4 with fail
  rw[HW.out];have c0:XI n ⟨x.heap.size,0,XJ⟩=XK (Xx XF f):=by rw[ab A];rfl
  have c1:XI n ⟨x.heap.size,1,XJ⟩=XK (Xx XF j):=by rw[ab A];rfl
  have ag:x.heap.size≠d:=by omega
  have ac:=ae A;clear HW M N O P Q v R T U V r s t p1 p2 q hg;obtain⟨M,N,O,P,Q,v,R,T,U,V,r,s,t⟩:=y.cells S z;have q:=y.free;obtain⟨J,F⟩:∃m,XN ((w.Uv.take f).length=m):=⟨_,rfl⟩
  obtain⟨m2,G⟩:∃m,XN ((w.Uy.take j).length=m):=⟨_,rfl⟩
  have X:=mx 3 3 (d':={ w with blocks:=a,Uv:=w.Uv.take f }) y z (by omega) ((y.own 3).taken f) (qW { w with blocks:=a } b (w.Uv.take f)) (Xz (b 3).ao J (b 3).cap) (by omega) (by simp only[bM,cG,<-F.out];rfl);obtain⟨p,l⟩:∃p,p=(n.setCell ⟨d,S+3,XJ⟩ (Xz (b 3).ao J (b 3).cap)).drew:=⟨_,rfl⟩
  have B:XN (aO p d L o I { w with blocks:=a,Uv:=w.Uv.take f } b):=by rw[l];exact X.1.Ur (aa.refl [] _).drew
  have T3:XN (aj d x b p b):=by rw[l];exact T2.trans (X.2.Ur (aa.refl [] _).drew)
  have B3:XN (p.heap[x.heap.size]?=XK (XE #[Xx XF f,Xx XF j] 273)):=by
   show p.heap[x.heap.size]?=_;rw[l];exact(P9 n ⟨d,S+3,XJ⟩ (Xz (b 3).ao J (b 3).cap) x.heap.size ag).trans A
  have D:XN ((n.setCell ⟨d,S+3,XJ⟩ (Xz (b 3).ao J (b 3).cap)).drew=p):=l.symm;clear l X;go_region_with (go_at_call 199;refine(sF (b 3) w.Uv f J _ F (by exact y.own 3) hx.1).mono ?_;rintro e p ⟨rfl,rfl⟩)
  all_goals go_upto_region 5 with fail
  all_goals rw[D.out]
  all_goals
   clear D M N O P Q v R T U V r s t q y T2 A c0 c1 ac;have c0:XI p ⟨x.heap.size,0,XJ⟩=XK (Xx XF f):=by rw[ab B3.out];rfl
   have c1:XI p ⟨x.heap.size,1,XJ⟩=XK (Xx XF j):=(by rw[ab B3.out];rfl);obtain⟨M,N,O,P,Q,v,R,T,U,V,r,s,t⟩:=B.out.cells S z;have q:=B.out.free;have P4:=mx 4 4 (d':=cL w a (f,j)) B.out z (by omega) ((B.out.own 4).taken j) (tL { w with blocks:=a,Uv:=w.Uv.take f } b (w.Uy.take j)) (Xz (b 4).ao m2 (b 4).cap) (by omega) (by simp only[bM,cL,cG,<-G.out];rfl);have C:XN _:=P4;clear P4;go_region_with (go_at_call 199;refine(sF (b 4) w.Uy j m2 _ G (by exact B.out.own 4) hx.2).mono ?_;rintro e p ⟨rfl,rfl⟩)
   all_goals go_wp2
   all_goals go_end0
   all_goals exact⟨rfl,C.out.1.Ur (aa.refl [] _).drew,T3.out.trans (C.out.2.Ur (aa.refl [] _).drew)⟩
theorem yY{α:Type}(f:α->List XQ)(n:Nat)(b:∀a,(f a).length=n)(l:List α):(l.flatMap f).length=l.length*n:=by
 induction l with
 | nil=>simp
 | cons a l c=>simp only[List.flatMap_cons,List.length_append,b,c,List.length_cons];rw[SL];omega
theorem yX{α:Type}(f:α->List XQ)(n:Nat)(b:∀a,(f a).length=n)(l:List α)(i j:Nat)(c:i<l.length)(g:j<n):(l.flatMap f)[i*n+j]?=(f l[i])[j]?:=by
 induction l generalizing i with
 | nil=>simp at c
 | cons a l d =>
  rw[QH];cases i with
  | zero=>rw[PR (by rw[b];omega)];simp
  | succ i =>
   have e:(i+1)*n+j=n+(i*n+j):=(by rw[SL];omega);rw[Qb (by rw[b,e];omega),b,e,show n+(i*n+j)-n=i*n+j by omega];exact d i (by simpa using c)
theorem It{α:Type}(f:α->List XQ)(n:Nat)(b:∀a,(f a).length=n)(l:List α)(i j:Nat)(g:i<l.length)(m:j<n)(c:α)(v:XQ)(d:f c=(f l[i]).set j v) :
  (l.flatMap f).set (i*n+j) v=(l.set i c).flatMap f:=by
 induction l generalizing i with
 | nil=>simp at g
 | cons a l k =>
  cases i with
  | zero =>
   rw[Tt,QH,QH,So _ _ (by rw[b];omega),d];simp
  | succ i =>
   have e:(i+1)*n+j=n+(i*n+j):=(by rw[SL];omega);rw[Tu,QH,QH,RB _ _ (by rw[b,e];omega),b,e,show n+(i*n+j)-n=i*n+j by omega];rw[k i (by simpa using g) (by simpa using d)]
theorem JZ:(jb T M).length=T.length*8:=by
 unfold jb;rw[yY _ 8 (fun _=>rfl)];simp
theorem Df:(jQ z3).length=z3.length*4:=yY _ 4 (fun _=>rfl) z3
theorem Ef(a:H<T.length)(j:Nat)(b:j<8):(jb T M)[H*8+j]?=(Gu T[H] (M (10+2*H)) (M (11+2*H)))[j]?:=by
 unfold jb;rw[yX _ 8 (fun _=>rfl) _ H j (by simpa using a) b];simp
theorem GN(a:H<z3.length)(j:Nat)(b:j<4):(jQ z3)[H*4+j]?=(ni z3[H])[j]?:=yX _ 4 (fun _=>rfl) z3 H j a b
theorem Gz:jb (T++[z8]) M=jb T M++Gu z8 (M (10+2*T.length)) (M (11+2*T.length)):=by
 unfold jb;rw[List.zipIdx_append];simp
theorem Dh:(T.set S z8).zipIdx=T.zipIdx.set S (z8,S):=by
 apply Q9;intro j;simp only[List.getElem?_zipIdx,List.getElem?_set,List.length_zipIdx];by_cases e:S=j
 ·subst e;by_cases a:S<T.length <;> simp[a]
 ·simp[e]
theorem J0(a:H<T.length)(N:Nat):(jb T M).set (H*8+7) (Xx XF N)=jb (T.set H { T[H] with til:=N }) M:=by
 unfold jb;rw[Dh];exact It _ 8 (fun _=>rfl) _ H 7 (by simpa using a) (by omega) _ _ (by simp[Gu])
theorem Ar:(strs N).length=N.length*1:=by simp[strs]
theorem vz:fV (i++[H])=fV i++[Xx XF H]:=by simp[fV]
theorem jc:(⟨(bQ i).e,(bQ i).size,(bQ i).n+1,(bQ i).xs++[Xx XF H]⟩:fe)=bQ (i++[H]):=by simp[bQ,vz]
theorem mX:(prog.info? 3).map (fun i=>(i.zero,i.size,i.bytes))=XK (XK (Xx XF 0),1,8):=by kernel_rfl
def jl(k:Int):Bool:=k==4||k==5
set_option maxRecDepth 512
theorem dl(c d f g i j k:XQ)(w:XP) :
  XO prog 93 #[XB #[Xx XF D,c,d,f,g,i,j,k]] w fun e l=>e=XH (XC (jl D))/\aa [] w l:=by
 cases b:(D==4)
 ·have a:XN (jl D=(D==5)):=by show jl D=_;simp only[jl,b,Bool.false_or]
  go_enter func93,ntmps93;go_wp2;go_ret;exact⟨aH (by rw[a.out]),(aa.refl _ _).alloc _⟩
 ·have a:XN (jl D=XL):=by show jl D=_;simp only[jl,b,Bool.true_or]
  go_enter func93,ntmps93;go_wp2;go_ret;exact⟨aH (by rw[a.out]),(aa.refl _ _).alloc _⟩
set_option maxRecDepth 100000
theorem xo(h:aO x d L o I w b)(z:o.length=S)(J:eu w 100000000) :
  XO prog 182 #[XA (XK ⟨d,S+6,XJ⟩)] x fun e B=>e=XH (XD #[])/\∃t,aO B d L o I { w with rbl:=w.rbl++[w.UD.length] } t/\aj d x b B t:=by
 obtain⟨K,E,k,l,m⟩:=Qq mX;obtain⟨M,N,O,P,Q,R,q6,q7,T,U,p,q,r⟩:=h.cells S z;clear M N O P Q R T U p q r;have D:=h.free;have C:=h.lt;have H:=J.rbl;have y:XN (aO (x.alloc (XE #[Xx XF w.UD.length] 3)).drew d L o I w b):=h.Ur ((aa.refl [] x).alloc _).drew;have V:XN (∀j u,([Xx XF w.UD.length]:List XQ)[j]?=XK u->(x.alloc (XE #[Xx XF w.UD.length] 3)).drew.cell? ((⟨x.heap.size,0,XJ⟩:Addr).add j)=XK u):=by
  intro j u F;have G:(x.alloc (XE #[Xx XF w.UD.length] 3)).drew.heap[x.heap.size]?=XK (XE #[Xx XF w.UD.length] 3):=PM _ _;rw[ba,ab G];simpa using F
 have W:XN (∀u∈([Xx XF w.UD.length]:List XQ),u.oneCell'=XL):=by intro u A;simp at A;subst A;rfl
 have X:XN ((bQ w.rbl).n+1<=maxLen):=by show _<=_;simp only[bQ];unfold maxLen;omega
 have Y:XN (((bQ w.rbl).n+1)*8<=140737488355328):=by show _<=_;simp only[bQ];omega
 clear h;go_enter func182,ntmps182;go_wp2_with fail;go_region_law (refine aP rfl (.tmp 6) (.tmp 12) 46 rfl K (Xx XF 0) 8 (b 7) (bQ w.rbl) underlying46 E k l m rfl Qf (by simp[Act.eval] <;> rfl) (y.out.own 7) ⟨x.heap.size,0,XJ⟩ 1 1 [Xx XF w.UD.length] (by simp[Act.eval]) rfl V.out W.out Qf X.out Y.out ?_;intro g c w1 i f a;obtain⟨k5,Z,v⟩:=y.out.app (d':={ w with rbl:=w.rbl++[w.UD.length] }) S 7 z 7 (by omega) g c ((bQ w.rbl).n+1) _ i (jc w.rbl _) f (by simpa using a) (Ad w b _) (by omega) _ rfl (by simp[bM,cX,bQ]);clear i f a)
 all_goals go_wp2
 all_goals go_end0
 all_goals exact⟨rfl,_,v.out.1,v.out.2.first ((aa.refl [] x).alloc _).drew⟩
def dE(N:Nat)(s:St):St:=if s.til=0/\jl s.kind=XM then { s with til:=N } else s
def dK(l:List St)(b n:Nat):List St:=l.mapIdx (fun i s=>if b<=i/\i<n then dE l.length s else s)
def cH(l:List St)(b:Nat):List St:=dK l b l.length
theorem gO:(dK T n H).length=T.length:=by simp[dK]
theorem jU:(dK T S n)[H]?=T[H]?.map (fun s=>if S<=H/\H<n then dE T.length s else s):=by simp[dK]
theorem yL:dK T H H=T:=by
 apply Q9;intro i;rw[jU];have:¬(H<=i/\i<H):=by omega
 simp[this]
theorem sx(b:n<=H)(c:H<T.length):dK T n (H+1)=(dK T n H).set H (dE T.length T[H]):=by
 apply Q9;intro i;rw[R9,jU,jU,gO];by_cases e:H=i
 ·subst e;have a:n<=H/\H<H+1:=⟨b,by omega⟩;simp[c,a]
 ·have:(n<=i/\i<H+1) ↔ (n<=i/\i<H):=by omega
  simp[e,this]
theorem Bp(b:n<=H)(a:H<T.length)(h:dE T.length T[H]=T[H]):dK T n (H+1)=dK T n H:=by
 rw[sx T n H b a,h];apply Q9;intro i;rw[R9,gO];by_cases e:H=i
 ·subst e;rw[jU];simp[a]
 ·simp[e]
theorem Ig(a:H<T.length):(dK T n H)[H]?=XK T[H]:=by
 rw[jU];simp[a]
theorem tV(b:H<T.length)(N:Nat)(i:Nat):symsAt (T.set H { T[H] with til:=N }) i=symsAt T i/\px (T.set H { T[H] with til:=N }) i=px T i:=by
 unfold symsAt px;rw[R9];by_cases e:H=i
 ·subst e;simp[b]
 ·simp[e]
theorem aO.til(h:aO y k z5 g z4 l f)(d:Nat)(r:(f 6).ao=XK ⟨d,0,XJ⟩)(n:Nat)(t:n<l.UD.length)(N:Nat) :
  aO (y.setCell ⟨d,n*8+7,XJ⟩ (Xx XF N)) k z5 g z4 { l with UD:=l.UD.set n { l.UD[n] with til:=N } } f/\aj k y f (y.setCell ⟨d,n*8+7,XJ⟩ (Xx XF N)) f:=by
 have b:(f 6).blk=XK d:=by unfold Hd.blk;rw[r];rfl
 have s:d≠k:=by rintro rfl;exact h.off 6 b
 refine⟨⟨?_,?_,h.apart,h.off⟩,(dA.refl _ _).setCell (P0 (P7 ⟨6,b⟩)) _,fun _ o=>P0 o⟩
 ·rw[P9 _ _ _ _ (fun e=>s e.symm),h.blk];simp[bM]
 ·intro i;by_cases e:i=6
  ·subst e;have E:aE y (f 6) (fA l.UD f):=h.own 6;show aE _ (f 6) (fA (l.UD.set n { l.UD[n] with til:=N }) f);rcases E.UC with ⟨F,C,_⟩ | ⟨u,j,c,w,x,z,A,B⟩
   ·have:l.UD.length=0:=C;omega
   ·have:u=d:=(by rw[r]at c;injection c with c;injection c with c;exact c.symm);subst this;refine⟨by simp only[fA];rw[JZ],P7 ⟨u,(f 6).cap,j.setIfInBounds (n*8+7) (Xx XF N),?_,Qx _,af w _ _,?_,z,?_,?_⟩⟩
    ·simp[fA,r]
    ·simpa [fA] using x
    ·simpa [fA] using A
    ·have q:j.toList.take (l.UD.length*8)=jb l.UD f:=B;simp only[fA,List.length_set,Array.toList_setIfInBounds,List.take_set,q];exact J0 l.UD f n t N
  ·have D:aT { l with UD:=l.UD.set n { l.UD[n] with til:=N } } f i=aT l f i:=by
    match i,e with
    | 0,_=>rfl
    | 1,_=>rfl
    | 2,_=>rfl
    | 3,_=>rfl
    | 4,_=>rfl
    | 5,_=>rfl
    | 6,e=>exact absurd rfl e
    | 7,_=>rfl
    | 8,_=>rfl
    | 9,_=>rfl
    | m+10,_=>simp only[aT,inner,(tV l.UD n t N (m / 2)).1,(tV l.UD n t N (m / 2)).2]
   rw[D];refine(h.own i).Uw (fun G o=>P9 _ _ _ _ ?_);rintro rfl;rcases h.apart i 6 e with a | a
   ·rw[a]at o;cases o
   ·exact a (o.trans b.symm)
theorem aO.stmt(h:aO y k z5 g z4 l f)(a:Nat)(b:(f 6).ao=XK ⟨a,0,XJ⟩)(n:Nat)(s:St)(i:l.UD[n]?=XK s) :
  XI y ⟨a,n*8,XJ⟩=XK (Xx XF s.kind)/\XI y ⟨a,n*8+1,XJ⟩=XK (Xy s.label)/\XI y ⟨a,n*8+2,XJ⟩=XK (Xz (f (10+2*n)).ao s.Um.length (f (10+2*n)).cap) /\
  XI y ⟨a,n*8+3,XJ⟩=XK (Xz (f (11+2*n)).ao s.Ux.length (f (11+2*n)).cap)/\XI y ⟨a,n*8+4,XJ⟩=XK (Xy s.fin.file)/\XI y ⟨a,n*8+5,XJ⟩=XK (Xx XF s.fin.line) /\
  XI y ⟨a,n*8+6,XJ⟩=XK (Xx XF s.fin.col)/\XI y ⟨a,n*8+7,XJ⟩=XK (Xx XF s.til):=by
 obtain⟨e,rfl⟩:=Qc.1 i;have o:aE y (f 6) (fA l.UD f):=h.own 6;have c:=fun j (d:j<8) v (m:(Gu l.UD[n] (f (10+2*n)) (f (11+2*n)))[j]?=XK v)=>o.cell b (n*8+j) v ((Ef l.UD f n e j d).trans m);exact⟨c 0 (by omega) _ rfl,c 1 (by omega) _ rfl,c 2 (by omega) _ rfl,c 3 (by omega) _ rfl,c 4 (by omega) _ rfl,c 5 (by omega) _ rfl,c 6 (by omega) _ rfl,c 7 (by omega) _ rfl⟩
theorem zK:(fV i).length=i.length*1:=by simp[fV]
theorem aE.popN{l:List Nat}(o:aE y z7 (bQ (l++[k]))):aE y z7 (bQ l):=by
 rcases o.UC with ⟨t,r,_⟩ | ⟨g,b,f,n,i,j,m,p⟩
 ·have e:(l++[k]).length=0:=r;simp at e
 ·obtain⟨s,a⟩:=z7;simp only at f i j m;subst f;have c:(l++[k]).length<=a:=i;simp at c;refine⟨by simp only[bQ];exact zK l,P7 ⟨g,a,b,rfl,Qx _,n,?_,j,m,?_⟩⟩
  ·simp only[bQ];omega
  ·have d:b.toList.take ((l++[k]).length*1)=fV (l++[k]):=p;simp only[bQ];have q:fV l=(fV (l++[k])).take (l.length*1):=by rw[vz,List.take_left' (zK l)]
   rw[q,<-d,Sp];congr 1;simp
theorem Cv(h:aO x d L o I w b)(ho:o.length=S)(O:w.rbl=i++[n])(hs:eu w 100000000)(hx:n<=w.UD.length) :
  XO prog 184 #[XA (XK ⟨d,S+6,XJ⟩)] x fun e w'=>e=XH (XD #[])/\aO w' d L o I { w with rbl:=i,UD:=cH w.UD n } b/\aj d x b w' b:=by
 obtain⟨R,U,V,W,X,Y,C,v,Z,q9,f,j,l⟩:=h.cells S ho;clear R U V W X Y Z q9 f j l;have A:=h.free;have az:=h.lt;have r:aE x (b 7) (bQ (i++[n])):=by have:=h.own 7;simp only[aT,O]at this;exact this
 have u:=hs.rbl;have am:=hs.UD;rw[O]at u v;simp only[List.length_append,List.length_cons,List.length_nil]at u v;rcases r.UC with ⟨e0,h0,_⟩ | ⟨g,av,e1,e2,e3,e4,e5,y⟩
 ·have ac:(i++[n]).length=0:=h0;simp at ac
 ·have p1:=r.cell e1 i.length (Xx XF n) (by simp[bQ,fV]);have aq:i.length+1<=(b 7).cap:=by have:(i++[n]).length<=(b 7).cap:=e3;simpa using this
  have ag:(b 7).cap<=9223372036854775807:=by unfold maxLen at e4;exact e4
  have P1:=mx 7 7 (d':={ w with rbl:=i }) h ho (by omega) r.popN (Ad w b i) (Xz (XK ⟨g,0,XJ⟩) i.length (b 7).cap) (by omega) (by simp[bM,cX,e1]);rw[e1]at v;have HP:XN _:=P1;clear r e3 e4 e5 y e2 h P1;go_enter func184,ntmps184;go_wp2
  go_loopg [4] (w.UD.length-n) (fun g a2 wr=>∃k:Nat,n<=k/\k<=w.UD.length/\g=w.UD.length-k/\a2=Xx XF k/\aO wr d L o I { w with rbl:=i,UD:=dK w.UD n k } b/\aj d x b wr b)
  case atStart=>exact⟨n,by omega,hx,rfl,rfl,by rw[yL];exact HP.out.1,HP.out.2⟩
  case round =>
   obtain⟨k,c,a1,hg,rfl,D,T⟩:=hrel;clear HP C v p1 A;obtain⟨R,U,V,W,X,Y,C,v,Z,q9,f,j,l⟩:=D.cells S ho;clear R U V W X Y v Z q9 f j l;have A:=D.free;simp only[gO]at C;by_cases q:k<w.UD.length
   ·have p:=Ig w.UD n k q;have Q:aE wr (b 6) (fA (dK w.UD n k) b):=D.own 6;rcases Q.UC with ⟨_,h0,_⟩ | ⟨K,ap,y,m,J,-⟩
    ·have:(dK w.UD n k).length=0:=h0;rw[gO]at this;omega
    ·obtain⟨c0,c1,c2,c3,c4,c5,c6,c7⟩:=D.stmt K y k _ p;rw[y]at C;have z:=aw m;have HS:XN (∀N:Nat,aO wr d L o I { w with rbl:=i,UD:=dK w.UD n k } b->∀E,aa [] wr E->aO (E.setCell ⟨K,k*8+7,XJ⟩ (Xx XF N)) d L o I { w with rbl:=i,UD:=(dK w.UD n k).set k { w.UD[k] with til:=N } } b/\aj d x b (E.setCell ⟨K,k*8+7,XJ⟩ (Xx XF N)) b):=by
      intro N D E c;have F:=D.Ur c;have hn:k<(dK w.UD n k).length:=by rw[gO];exact q
      have P:=F.til K y k hn N;have es:(dK w.UD n k)[k]=w.UD[k]:=(by have:=p;rw[PJ hn]at this;simpa using this);simp only[es]at P;exact⟨P.1,(T.Ur c).trans P.2⟩
     have G:XN (dE w.UD.length w.UD[k]=w.UD[k]->dK w.UD n (k+1)=dK w.UD n k):=Bp w.UD n k c q;have H2:XN (dK w.UD n (k+1)=(dK w.UD n k).set k (dE w.UD.length w.UD[k])):=sx w.UD n k c q;have a0:=ae m;have ai:=m;have M:XN _:=p;have ah:w.UD.length<=(b 6).cap:=(by have:(dK w.UD n k).length<=(b 6).cap:=J;rw[gO]at this;exact this);clear p Q m J;generalize w.UD[k]=s at *;cases hz:((s.til:Int)==0)
     ·have H:XN (dK w.UD n (k+1)=dK w.UD n k):=G.out (by
       have:¬s.til=0:=by intro e;simp[e]at hz
       simp[dE,this])
      clear HS G H2 z;go_wp2;go_roundg (w.UD.length-(k+1))
      case measure=>omega
      case rel=>exact⟨k+1,by omega,by omega,rfl,by go_num,by rw[H.out];exact D,T⟩
     ·have B:s.til=0:=(by have:=Rr hz;omega);cases ha:jl s.kind
      ·have H:XN (dK w.UD n (k+1)=(dK w.UD n k).set k { s with til:=w.UD.length }):=by
        show _=_;rw[H2.out];simp[dE,B,ha]
       clear G H2 B;go_wp2_with (go_at_call 93;refine(dl s.kind _ _ _ _ _ _ _ _).mono ?_;rintro e E ⟨rfl,a⟩;have ad:=a.get ai (by simp));have F:=D.Ur a;have PS:XN _:=(fun N=>HS.out N D _ a);obtain⟨R,U,V,W,X,Y,C,v,Z,q9,f,j,l⟩:=F.cells S ho;clear R U V W X Y v Z q9 f j l;simp only[gO,y]at C;obtain⟨c0,c1,c2,c3,c4,c5,c6,c7⟩:=F.stmt K y k _ M.out;clear c0 c1 c2 c3 c4 c5 c6;have z:=aw ad;have A:=F.free;go_region
       all_goals go_wp2
       all_goals
        go_roundg (w.UD.length-(k+1))
        case measure=>omega
        case rel=>exact⟨k+1,by omega,by omega,rfl,by go_num,by rw[H.out];exact(PS.out _).1.Ur (aa.refl [] _).drew,(PS.out _).2.Ur (aa.refl [] _).drew⟩
      ·have H:XN (dK w.UD n (k+1)=dK w.UD n k):=G.out (by simp[dE,ha]);clear HS G H2 z B;go_wp2_with (go_at_call 93;refine(dl s.kind _ _ _ _ _ _ _ _).mono ?_;rintro e E ⟨rfl,a⟩);go_roundg (w.UD.length-(k+1))
       case measure=>omega
       case rel=>exact⟨k+1,by omega,by omega,rfl,by go_num,by rw[H.out];exact D.Ur a,T.Ur a⟩
   ·have e:k=w.UD.length:=(by omega);subst e;go_wp2;go_end0;exact⟨rfl,D,T⟩
theorem Ow:(prog.info? 110).map (fun i=>(i.zero,i.size,i.bytes))=XK (XK (XB #[Xx XF 0,Xy ⟨#[]⟩,Xz XJ 0 0,Xz XJ 0 0,Xy ⟨#[]⟩,Xx XF 0,Xx XF 0,Xx XF 0]),8,112):=by kernel_rfl
theorem MU:(prog.info? 235).map (fun i=>(i.zero,i.size,i.bytes))=XK (XK (XB #[Xy ⟨#[]⟩,Xy ⟨#[]⟩,Xx XF 0,Xx XF 0]),4,48):=by kernel_rfl
theorem re(h:∀j,j<10+2*T.length->M j=b j):jb T M=jb T b:=by
 unfold jb;rw[Ta,Ta];congr 1;apply QX;intro p a;have:p.2<T.length:=by
  have:=List.snd_lt_add_of_mem_zipIdx a;omega
 rw[h _ (by omega),h _ (by omega)]
theorem Jz(o:aE y8 m (au N)):aE y8 m (au []):=by
 have:=o.taken 0;simpa using this
theorem JB(o:aE y8 m (eU z3)):aE y8 m (eU []):=by
 rcases o.UC with ⟨f,n,_⟩ | ⟨g,b,c,i,j,d,e,l⟩
 ·subst f;exact⟨by simp[eU,jQ],P0 ⟨by simp[eU],by simp[eU]⟩⟩
 ·obtain⟨k,a⟩:=m;simp only at c j d e;subst c;exact⟨by simp[eU,jQ],P7 ⟨g,a,b,rfl,Qx _,i,by simp[eU],d,e,by simp[eU,jQ]⟩⟩
theorem aO.addst{w w1:XP}(R:aO y k z5 g z4 l f)(E:aa [] y w)(ho:g.length=z0)(s:St)(B A:Hd)(L K:Nat)(Y:B.blk=XK L)(W:A.blk=XK K)(X:y.heap.size<=L)(V:y.heap.size<=K)(F:L≠K)(os:aE w B (au s.Um))(op:aE w A (eU s.Ux))(t d:Nat)(Z:aE w1 ⟨XK ⟨t,0,XJ⟩,d⟩ ⟨(fA l.UD f).e,(fA l.UD f).size,(fA l.UD f).n+1,(fA l.UD f).xs++Gu s B A⟩)(D:w.grownBy w1 (f 6).blk)(x:(f 6).blk=XK t∨w.heap.size<=t) :
  XI w1 ⟨k,z0+6,XJ⟩=XK (Xz (f 6).ao l.UD.length (f 6).cap)/\w1.frozen? ⟨k,z0+6,XJ⟩=XM /\
  XN (∃O,aO (w1.setCell ⟨k,z0+6,XJ⟩ (Xz (XK ⟨t,0,XJ⟩) ((fA l.UD f).n+1) d)) k z5 g z4 { l with UD:=l.UD++[s] } O /\
   aj k y f (w1.setCell ⟨k,z0+6,XJ⟩ (Xz (XK ⟨t,0,XJ⟩) ((fA l.UD f).n+1) d)) O/\∀j,j<10->j≠6->O j=f j):=by
 have h:=R.Ur E;have M:=(D.block k h.lt (fun e=>h.off 6 e.symm)).trans h.blk;refine⟨(ab M (z0+6)).trans (wX g (bM l f) z4 z0 6 ho (by simp[bM])),aw M _,?_⟩;have T:=fun {z} (M:cD f z)=>R.inlt M;have ac:=R.lt;obtain⟨b,v⟩:∃b,b=cX (cX f (10+2*l.UD.length) B) (11+2*l.UD.length) A:=⟨_,rfl⟩
 have o:∀j,j≠10+2*l.UD.length->j≠11+2*l.UD.length->b j=f j:=fun j a c=>by rw[v,bD _ _ _ _ c,bD _ _ _ _ a]
 have H:b (10+2*l.UD.length)=B:=by rw[v,bD _ _ _ _ (by omega),cG]
 have I:b (11+2*l.UD.length)=A:=by rw[v,cG]
 have e4:jb l.UD b=jb l.UD f:=re _ _ _ (fun j r=>o j (by omega) (by omega));clear v;have el:bM l b=bM l f:=by
  unfold bM;rw[o 0 (by omega) (by omega),o 1 (by omega) (by omega),o 2 (by omega) (by omega),o 3 (by omega) (by omega),o 4 (by omega) (by omega),o 5 (by omega) (by omega),o 6 (by omega) (by omega),o 7 (by omega) (by omega),o 8 (by omega) (by omega),o 9 (by omega) (by omega)]
 have er:∀j,aT l b j=aT l f j:=by
  intro j;unfold aT;split <;> first | rfl | (simp only[fA,e4])
 have G:∀j,(b j).blk=(f j).blk∨((b j).blk=XK L/\j=10+2*l.UD.length)∨((b j).blk=XK K/\j=11+2*l.UD.length):=by
  intro j;by_cases a:j=10+2*l.UD.length
  ·subst a;rw[H];exact P7 (P0 ⟨Y,rfl⟩)
  ·by_cases c:j=11+2*l.UD.length
   ·subst c;rw[I];exact P7 (P7 ⟨W,rfl⟩)
   ·rw[o j a c];exact P0 rfl
 have D1:aO w k z5 g z4 l b:=by
  refine⟨by rw[el];exact h.blk,?_,?_,?_⟩
  ·intro j;rw[er j];by_cases a:j=10+2*l.UD.length
   ·subst a;rw[H];have:aT l f (10+2*l.UD.length)=au []:=by
     rw[show 10+2*l.UD.length=2*l.UD.length+10 by omega];simp[aT,inner,symsAt]
    rw[this];exact Jz w B _ os
   ·by_cases c:j=11+2*l.UD.length
    ·subst c;rw[I];have:aT l f (11+2*l.UD.length)=eU []:=by
      rw[show 11+2*l.UD.length=(2*l.UD.length+1)+10 by omega];have q:(2*l.UD.length+1) % 2=1:=by omega
      have q2:(2*l.UD.length+1) / 2=l.UD.length:=(by omega);simp[aT,inner,px,q,q2]
     rw[this];exact JB w A _ op
    ·rw[o j a c];exact h.own j
  ·intro i j S;have J:∀i z,(f i).blk=XK z->z<y.heap.size:=fun i z e=>T ⟨i,e⟩;rcases G i with a | ⟨a,ai⟩ | ⟨a,ai⟩ <;> rcases G j with c | ⟨c,cj⟩ | ⟨c,cj⟩ <;> rw[a,c]
   ·exact h.apart i j S
   ·cases e:(f i).blk with
    | none=>exact P0 rfl
    | some z=>right;intro p;cases p;have:=J i _ e;omega
   ·cases e:(f i).blk with
    | none=>exact P0 rfl
    | some z=>right;intro p;cases p;have:=J i _ e;omega
   ·right;intro p;have:=J j _ p.symm;omega
   ·omega
   ·right;intro p;cases p;exact F rfl
   ·right;intro p;have:=J j _ p.symm;omega
   ·right;intro p;cases p;exact F rfl
   ·omega
  ·intro j;rcases G j with a | ⟨a,_⟩ | ⟨a,_⟩ <;> rw[a]
   ·exact h.off j
   ·intro e;cases e;omega
   ·intro e;cases e;omega
 have T1:aj k y f w b:=by
  refine⟨E.toP (by simp),?_⟩;rintro z ⟨j,r⟩;rcases G j with a | ⟨a,_⟩ | ⟨a,_⟩ <;> rw[a]at r
  ·exact P0 ⟨j,r⟩
  ·cases r;exact P7 X
  ·cases r;exact P7 V
 have h6:b 6=f 6:=o 6 (by omega) (by omega);have Q:aT { l with UD:=l.UD++[s] } b 6=⟨(fA l.UD f).e,(fA l.UD f).size,(fA l.UD f).n+1,(fA l.UD f).xs++Gu s B A⟩:=by
  simp only[aT,fA,Gz,H,I,e4,List.length_append,List.length_cons,List.length_nil]
 have P:=D1.putG (d':={ l with UD:=l.UD++[s] }) z0 6 ho 6 (by omega) ⟨XK ⟨t,0,XJ⟩,d⟩ (by rw[Q];exact Z) (by rw[h6];exact D)
  (by
    rcases x with e | e
    ·exact P7 (P0 (by rw[h6];exact e.symm))
    ·exact P7 (P7 ⟨t,rfl,e⟩))
  (by
   intro j r;by_cases a:j=10+2*l.UD.length
   ·subst a;rw[H];have:aT { l with UD:=l.UD++[s] } b (10+2*l.UD.length)=au s.Um:=by
     rw[show 10+2*l.UD.length=2*l.UD.length+10 by omega];simp[aT,inner,symsAt]
    rw[this];exact os
   ·by_cases c:j=11+2*l.UD.length
    ·subst c;rw[I];have:aT { l with UD:=l.UD++[s] } b (11+2*l.UD.length)=eU s.Ux:=by
      rw[show 11+2*l.UD.length=(2*l.UD.length+1)+10 by omega];have q:(2*l.UD.length+1) % 2=1:=by omega
      have q2:(2*l.UD.length+1) / 2=l.UD.length:=(by omega);simp[aT,inner,px,q,q2]
     rw[this];exact op
    ·have:aT { l with UD:=l.UD++[s] } b j=aT l b j:=by
      match j,r,a,c with
      | 0,_,_,_=>rfl
      | 1,_,_,_=>rfl
      | 2,_,_,_=>rfl
      | 3,_,_,_=>rfl
      | 4,_,_,_=>rfl
      | 5,_,_,_=>rfl
      | 6,r,_,_=>exact absurd rfl r
      | 7,_,_,_=>rfl
      | 8,_,_,_=>rfl
      | 9,_,_,_=>rfl
      | m+10,_,a,c =>
       have hm:m / 2≠l.UD.length:=(by omega);have e:(l.UD++[s])[m / 2]?=l.UD[m / 2]?:=by
        rcases R1 (m / 2) l.UD.length with N | N
        ·exact PR N
        ·rw[Qb N,QP N,QP (by simp;omega)]
       simp only[aT,inner,symsAt,px,e]
     rw[this];exact D1.own j)
  (Xz (XK ⟨t,0,XJ⟩) ((fA l.UD f).n+1) d) (by omega) (by
   rw[el];have u:∀j,j<10->j≠6->cX b 6 (⟨XK ⟨t,0,XJ⟩,d⟩:Hd) j=f j:=fun j r U=>by rw[bD _ _ _ _ U];exact o j (by omega) (by omega)
   unfold bM;rw[u 0 (by omega) (by omega),u 1 (by omega) (by omega),u 2 (by omega) (by omega),u 3 (by omega) (by omega),u 4 (by omega) (by omega),u 5 (by omega) (by omega),u 7 (by omega) (by omega),u 8 (by omega) (by omega),u 9 (by omega) (by omega),cG];simp[fA])
 exact⟨_,P.1,T1.trans P.2,fun j r U=>by rw[bD _ _ _ _ U];exact o j (by omega) (by omega)⟩
theorem Dg:∀u∈jQ z3,u.oneCell'=XL:=by
 intro u a;simp only[jQ,List.mem_flatMap]at a;obtain⟨p,_,a⟩:=a;simp only[ni,List.mem_cons,List.not_mem_nil,or_false]at a;rcases a with rfl | rfl | rfl | rfl <;> rfl
theorem Ml(a b:Hd):∀u∈Gu z8 a b,u.oneCell'=XL:=by
 intro u c;simp only[Gu,List.mem_cons,List.not_mem_nil,or_false]at c;rcases c with rfl | rfl | rfl | rfl | rfl | rfl | rfl | rfl <;> rfl
theorem tF(p f:ByteArray)(l c:Int)(a:XP)(h:aO a d L o I w b)(ho:o.length=S)(hs:eu w 100000000) :
  XO prog 205 #[XA (XK ⟨d,S+6,XJ⟩),XB #[Xx XF D,Xy p,Xz (b 8).ao w.Um.length (b 8).cap,Xz (b 9).ao w.Ux.length (b 9).cap,Xy f,Xx XF l,Xx XF c,Xx XF 0]] a fun e w' =>
   e=XH (XD #[])/\∃Z,aO w' d L o I { w with UD:=w.UD++[⟨D,p,w.Um,w.Ux,⟨f,l,c⟩,0⟩] } Z/\aj d a b w' Z/\∀j,j<10->j≠6->Z j=b j:=by
 obtain⟨i0,hi,bd,a1,be⟩:=Qq ey;obtain⟨i1,av,a9,a0,bc⟩:=Qq MU;obtain⟨i2,a5,a6,a7,a8⟩:=Qq Ow;have bo:=hs.Um;have bp:=hs.Ux;have bm:=hs.UD;have m1:=fun a=>bR (P:=prog) a 22 9 i0 _ underlying22 hi bd w.Um.length 1 a1 (by rw[be];omega) (by omega);have m2:=fun a=>bR (P:=prog) a 108 235 i1 _ underlying108 av a9 w.Ux.length 4 a0 (by rw[bc];omega) (by omega);obtain⟨C,A⟩:∃mc,mc=madeCells (Xy ⟨#[]⟩).cells (w.Um.length*1):=⟨_,rfl⟩
 obtain⟨N,B⟩:∃mc,mc=madeCells (XB #[Xy ⟨#[]⟩,Xy ⟨#[]⟩,Xx XF 0,Xx XF 0]).cells (w.Ux.length*4):=⟨_,rfl⟩
 have z1:C.size=w.Um.length*1:=by rw[A,QV]
 have z2:N.size=w.Ux.length*4:=by rw[B,QV]
 rw[<-A]at m1;rw[<-B]at m2;clear A B;obtain⟨bx,q⟩:∃bx:Array XQ,bx=#[Xx XF D,Xy p,Xz (b 8).ao w.Um.length (b 8).cap,Xz (b 9).ao w.Ux.length (b 9).cap,Xy f,Xx XF l,Xx XF c,Xx XF 0]:=⟨_,rfl⟩
 obtain⟨O,t⟩:∃O,O=(a.alloc (XE #[Xx XF D,Xy p,Xz (b 8).ao w.Um.length (b 8).cap,Xz (b 9).ao w.Ux.length (b 9).cap,Xy f,Xx XF l,Xx XF c,Xx XF 0] 110)).alloc (XE C 9):=⟨_,rfl⟩
 have K2:aa [] a O:=by rw[t];exact((aa.refl [] _).alloc _).alloc _
 have D2:=h.Ur K2;have Z2:O.heap.size=a.heap.size+2:=by rw[t];simp
 have B2:O.heap[a.heap.size]?=XK (XE bx 110):=by
  rw[t,q];exact((aa.refl [] _).alloc _).get (PM _ _) (by simp)
 have G2:O.heap[a.heap.size+1]?=XK (XE C 9):=by
  rw[t];have:=PM (a.alloc (XE #[Xx XF D,Xy p,Xz (b 8).ao w.Um.length (b 8).cap,Xz (b 9).ao w.Ux.length (b 9).cap,Xy f,Xx XF l,Xx XF c,Xx XF 0] 110)) (XE C 9);simpa using this
 have ad:XN _:=t.symm;have bk:=h.lt;have ai:XN ((prog.info? (au w.Um).e).map (·.size)=XK (au w.Um).size):=by show _=_;simp[au,hi,a1]
 have am:XN ((prog.info? (eU w.Ux).e).map (·.size)=XK (eU w.Ux).size):=by show _=_;simp[eU,av,a0]
 clear t;go_enter func205,ntmps205;go_upto_region 2 with fail
 rw[ad.out];have b2:XI O ⟨a.heap.size,2,XJ⟩=XK (Xz (b 8).ao w.Um.length (b 8).cap):=by rw[ab B2,q];rfl
 clear ad m1;obtain⟨w3,ap,R,U,M⟩:=jT (P:=prog) O 22 22 3 (a.heap.size+1) w.Um.length (b 8) (au w.Um) C 9 underlying22 ai.out G2 (D2.own 8) z1 (ij _);simp only[au]at ap R;have K3:aa [] a w3:=((K2.mono (S':=[a.heap.size+1]) (by simp)).trans U).mono (by simp);have B3:=U.get B2 (by simp);rw[Z2]at M;have b3:XI w3 ⟨a.heap.size,3,XJ⟩=XK (Xz (b 9).ao w.Ux.length (b 9).cap):=by rw[ab B3,q];rfl
 clear G2 B2 D2 U K2;obtain⟨Q,x⟩:∃Q,Q=w3.alloc (XE N 235):=⟨_,rfl⟩
 have K4:aa [] a Q:=by rw[x];exact K3.alloc _
 have V:aa [] w3 Q:=by rw[x];exact(aa.refl [] _).alloc _
 have D4:=h.Ur K4;have B4:=V.get B3 (by simp);have S4:=V.get R (by simp);have G4:Q.heap[a.heap.size+2]?=XK (XE N 235):=by rw[x,<-M];exact PM _ _
 have ag:XN _:=x.symm;have Z4:Q.heap.size=a.heap.size+3:=by rw[x];simp[M]
 clear x V;go_upto_region 4 with fail
 clear ap b2;rw[ag.out];have b4:XI Q ⟨a.heap.size,3,XJ⟩=XK (Xz (b 9).ao w.Ux.length (b 9).cap):=by rw[ab B4,q];rfl
 clear ag m2 b3;obtain⟨Y,aq,T,J,bf⟩:=jT (P:=prog) Q 108 108 3 (a.heap.size+2) w.Ux.length (b 9) (eU w.Ux) N 235 underlying108 am.out G4 (D4.own 9) z2 (Dg _);simp only[eU]at aq T;have K5:aa [] a Y:=((K4.mono (S':=[a.heap.size+2]) (by simp)).trans J).mono (by simp);have X:=J.get B4 (by simp);have S5:=J.get S4 (by simp);rw[Z4]at bf;clear G4 B4 D4 J K4 S4;have a2:XI Y ⟨a.heap.size,2,XJ⟩=XK (Xz (b 8).ao w.Um.length (b 8).cap):=by rw[ab X,q];rfl
 have a3:XI Y ⟨a.heap.size,3,XJ⟩=XK (Xz (b 9).ao w.Ux.length (b 9).cap):=by rw[ab X,q];rfl
 have a4:XI Y ⟨a.heap.size,7,XJ⟩=XK (Xx XF 0):=by rw[ab X,q];rfl
 have fx:=aw X;obtain⟨E,z⟩:∃E,E=((Y.setCell ⟨a.heap.size,2,XJ⟩ (Xz (XK ⟨a.heap.size+1,0,XJ⟩) w.Um.length w.Um.length)).setCell ⟨a.heap.size,3,XJ⟩ (Xz (XK ⟨a.heap.size+2,0,XJ⟩) w.Ux.length w.Ux.length)).setCell ⟨a.heap.size,7,XJ⟩ (Xx XF 0):=⟨_,rfl⟩
 have ah:XN _:=z.symm;have K8:aa [] a E:=by rw[z];exact((K5.setCell (P7 (PQ _)) _).setCell (P7 (PQ _)) _).setCell (P7 (PQ _)) _
 have W:aa [a.heap.size] Y E:=by rw[z];exact(((aa.refl _ _).setCell (P0 (by simp)) _).setCell (P0 (by simp)) _).setCell (P0 (by simp)) _
 have B8:E.heap[a.heap.size]?=XK (XE (Gu ⟨D,p,w.Um,w.Ux,⟨f,l,c⟩,0⟩ ⟨XK ⟨a.heap.size+1,0,XJ⟩,w.Um.length⟩ ⟨XK ⟨a.heap.size+2,0,XJ⟩,w.Ux.length⟩).toArray 110):=by
  rw[z,af (af (af X _ _) _ _),q];rfl
 have S8:=W.get S5 (by simp);have P8:=W.get T (by simp);clear z W S5 T X;go_upto_region 8 with fail
 rw[ah.out];clear ah aq a2 a3 a4 fx b4 K5 q R M B3 K3;have y:=fun j v (hv:(Gu ⟨D,p,w.Um,w.Ux,⟨f,l,c⟩,0⟩ ⟨XK ⟨a.heap.size+1,0,XJ⟩,w.Um.length⟩ ⟨XK ⟨a.heap.size+2,0,XJ⟩,w.Ux.length⟩)[j]?=XK v)=>(ab B8 j).trans (by simpa using hv);have y0:=y 0 _ rfl;have y1:=y 1 _ rfl;have y2:=y 2 _ rfl;have y3:=y 3 _ rfl;have y4:=y 4 _ rfl;have y5:=y 5 _ rfl;have y6:=y 6 _ rfl;have y7:=y 7 _ rfl;simp only at y0 y1 y2 y3 y4 y5 y6 y7;clear y;have D8:=h.Ur K8;have q6:=D8.cellAt S ho 6 (by omega);simp only[bM,List.getElem?_cons_succ,List.getElem?_cons_zero]at q6;have bl:=D8.free;have bg:=D8.lt;obtain⟨i,m⟩:∃i:List XQ,i=Gu ⟨D,p,w.Um,w.Ux,⟨f,l,c⟩,0⟩ ⟨XK ⟨a.heap.size+1,0,XJ⟩,w.Um.length⟩ ⟨XK ⟨a.heap.size+2,0,XJ⟩,w.Ux.length⟩:=⟨_,rfl⟩
 obtain⟨F,G⟩:∃F,F=(E.alloc (XE #[Xx XF D,Xy p,Xz (XK ⟨a.heap.size+1,0,XJ⟩) w.Um.length w.Um.length,Xz (XK ⟨a.heap.size+2,0,XJ⟩) w.Ux.length w.Ux.length,Xy f,Xx XF l,Xx XF c,Xx XF 0] 110)).drew:=⟨_,rfl⟩
 have K9:aa [] E F:=by rw[G];exact((aa.refl [] _).alloc _).drew
 have G9:F.heap[E.heap.size]?=XK (XE i.toArray 110):=by rw[G,m];exact PM _ _
 have O1:aE F ⟨XK ⟨a.heap.size+1,0,XJ⟩,w.Um.length⟩ (au w.Um):=aE.made (r:=au w.Um) (K9.get S8 (by simp)) (Ar _) (by simp only[au];unfold maxLen;omega);have O2:aE F ⟨XK ⟨a.heap.size+2,0,XJ⟩,w.Ux.length⟩ (eU w.Ux):=aE.made (r:=eU w.Ux) (K9.get P8 (by simp)) (Df _) (by simp only[eU];unfold maxLen;omega);have D9:XN (aO F d L o I w b):=D8.Ur K9;have s2:XN (∀j u,i[j]?=XK u->F.cell? ((⟨E.heap.size,0,XJ⟩:Addr).add j)=XK u):=by
  intro j u hj;rw[ba,ab G9];simpa using hj
 have s3:XN (∀u∈i,u.oneCell'=XL):=by rw[m];exact Ml _ _ _
 have s4:XN ((fA w.UD b).n+1<=maxLen):=by show _<=_;simp only[fA];unfold maxLen;omega
 have s5:XN (((fA w.UD b).n+1)*112<=140737488355328):=by show _<=_;simp only[fA];omega
 have AF:=fun(g s:Nat) (w1:XP) (K:aE w1 ⟨XK ⟨g,0,XJ⟩,s⟩ ⟨(fA w.UD b).e,(fA w.UD b).size,(fA w.UD b).n+1,(fA w.UD b).xs++i⟩) H k=>h.addst (K8.trans K9) ho ⟨D,p,w.Um,w.Ux,⟨f,l,c⟩,0⟩ ⟨XK ⟨a.heap.size+1,0,XJ⟩,w.Um.length⟩ ⟨XK ⟨a.heap.size+2,0,XJ⟩,w.Ux.length⟩ (a.heap.size+1) (a.heap.size+2) rfl rfl (by omega) (by omega) (by omega) O1 O2 g s (w1:=w1) (by rw[<-m];exact K) H k;have ac:XN _:=AF;have az:XN (i.length=1*(fA w.UD b).size):=by show _=_;rw[m];rfl
 rw[G]at D9 s2 ac;clear AF O1 O2 G9 K9 G F m P8 S8 B8;go_region_law (refine aP rfl (.tmp 31) (.tmp 33) 45 rfl i2 (XB #[Xx XF 0,Xy ⟨#[]⟩,Xz XJ 0 0,Xz XJ 0 0,Xy ⟨#[]⟩,Xx XF 0,Xx XF 0,Xx XF 0]) 112 (b 6) (fA w.UD b) underlying45 a5 a6 a7 a8 rfl (RK 7) (by simp[Act.eval] <;> rfl) (D9.out.own 6) ⟨E.heap.size,0,XJ⟩ 1 1 i (by simp[Act.eval]) az.out s2.out s3.out Qf s4.out s5.out ?_;intro g s w1 K H k;obtain⟨k5,f5,HP⟩:=ac.out g s w1 K H (by simpa using k);clear K H k)
 all_goals go_wp2
 all_goals go_end0
 all_goals
  obtain⟨Z,P1,P2,P3⟩:=HP.out;exact⟨rfl,Z,P1,P2,P3⟩
end Go.Proofs.YtnbalopedcgpcaaGreat
