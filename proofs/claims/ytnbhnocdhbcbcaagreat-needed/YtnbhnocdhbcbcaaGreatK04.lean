import Derived.Deep.RegionLaw
import Derived.BigQuiet
import Derived.Deep.RegionHeld3
import Derived.Test.YtnbhnocdhbcbcaaGreatK03
namespace Go.Proofs.YtnbhnocdhbcbcaaGreat
open Go.RowKit Tryz
open Value IntKind Ending
set_option maxHeartbeats 0
variable{L s z0:Nat}{yr:Nat->Bool}{i z6:World}{z7:Hd}{zt:Xt}{z4 y9:List Value}{l:Db}{x yd:Nat->Hd}(n:Nat)(a:List St)(o:Nat)(yg:World)(g:Hd)(N:Xt)(H:Nat)(d D:List Value)(w:Db)(yf:St)(b:Nat->Hd)(T:Xs)(k:Int)(I:List (Nat×Nat))(z3:Nat×Nat)(M:Xv)(y:Nat)(f:World)(z5:Nat->Hd)(ya:List (Xs×Pl))(S:Nat)
def j5(n:Int):Bool:=(decide (97<=n)&&decide (n<=122))||(decide (65<=n)&&decide (n<=90))||(decide (48<=n)&&decide (n<=57))||n==45||n==95||n==46
def iz(s:Xs):Bool:=(List.range s.size).all (fun i=>j5 (aI s i))
theorem qd :
  Calls prog 276 #[int u8 k] f fun e i=>e=returned (bool (j5 k))/\i=f:=by
 by_cases b:(97<=k/\k<=122)∨(65<=k/\k<=90)∨(48<=k/\k<=57)
 ·have a:Xr (j5 k=true):=by show j5 k=true;simp only[j5,Bool.or_eq_true,Bool.and_eq_true,decide_eq_true_eq];omega
  rcases b with b | b | b
  all_goals
   go_enter func276,ntmps276;go_wp2;go_ret;exact⟨aF a.o.symm,rfl⟩
 ·have a:Xr (j5 k=(k==45||k==95||k==46)):=by
   show j5 k=_;have c:(decide (97<=k)&&decide (k<=122))=false:=(by simp;omega);have d:(decide (65<=k)&&decide (k<=90))=false:=(by simp;omega);have g:(decide (48<=k)&&decide (k<=57))=false:=(by simp;omega);simp only[j5,c,d,g,Bool.false_or]
  go_enter func276,ntmps276;go_wp2
  all_goals go_ret
  all_goals (refine⟨aF ?_,rfl⟩;first | rfl | (rw[a.o];done) | (rw[a.o];simp[*];done))
theorem E1(h:S<L)(a:yr S=false):(List.range L).all yr=false:=by
 rw[Wr];exact⟨S,by simpa using h,by simp[a]⟩
theorem AV(h:∀i,i<L->yr i=true):(List.range L).all yr=true:=by
 rw[Uw];intro i a;exact h i (by simpa using a)
theorem oh(q:T.size<=1073741824) :
  Calls prog 264 #[string T] f fun e l=>e=returned (bool (iz T))/\l=f:=by
 go_enter func264,ntmps264;go_wp2
 go_loopg [3] T.size (fun g i wr=>∃k:Nat,k<=T.size/\g=T.size-k/\i=int i64 k/\Xr (∀i,i<k->j5 (aI T i)=true)/\wr=f)
 ·exact⟨0,by omega,by omega,rfl,fun i h=>by omega,rfl⟩
 obtain⟨k,p,n,rfl,a,rfl⟩:=hrel;by_cases b:k<T.size
 ·cases d:j5 (T[k].toNat:Int)
  ·have c:Xr (iz T=false):=E1 k b (by rw[bZ T k b];exact d);go_wp2_with fail;refine(qd _ _).mono ?_;rintro e m ⟨rfl,rfl⟩;go_wp2;go_ret;exact⟨aF c.o.symm,rfl⟩
  ·go_wp2_with fail;refine(qd _ _).mono ?_;rintro e m ⟨rfl,rfl⟩;go_wp2;go_roundg (T.size-(k+1))
   ·refine⟨k+1,by omega,rfl,by go_num,?_,rfl⟩;intro i j;by_cases e:i=k
    ·subst e;rw[bZ T i b];exact d
    ·exact a.o i (by omega)
   omega
 ·have c:Xr (iz T=true):=AV (fun i j=>a.o i (by omega));go_wp2;go_ret;exact⟨aF c.o.symm,rfl⟩
theorem lj(h:aW f n o d D w b)(c:d.length=H)(a:w.XI.length<=1073741824) :
  Calls prog 270 #[pointer (some ⟨n,H,none⟩),string T] f fun e k=>e=returned (bool (aK w.XI T))/\k=f:=by
 obtain⟨l,m,p,q,r,s,t,u,v,x,g,i,j⟩:=h.cells H c;go_enter func270,ntmps270;go_wp2_with fail;refine(fD (b 3) w.XI T _ (by exact h.X9 3) a).mono ?_;rintro e y ⟨rfl,rfl⟩;go_wp2;go_ret;exact⟨rfl,rfl⟩
theorem nK(h:aW f n o d D w b)(c:d.length=H)(a:w.XB.length<=1073741824) :
  Calls prog 271 #[pointer (some ⟨n,H,none⟩),string T] f fun e k=>e=returned (bool (aK w.XB T))/\k=f:=by
 obtain⟨l,m,p,q,r,s,t,u,v,x,g,i,j⟩:=h.cells H c;go_enter func271,ntmps271;go_wp2_with fail;refine(fD (b 1) w.XB T _ (by exact h.X9 1) a).mono ?_;rintro e y ⟨rfl,rfl⟩;go_wp2;go_ret;exact⟨rfl,rfl⟩
theorem oi(h:aW f n o d D w b)(c:d.length=H)(a:w.XL.length<=1073741824) :
  Calls prog 272 #[pointer (some ⟨n,H,none⟩),string T] f fun e k=>e=returned (bool (aK w.XL T))/\k=f:=by
 obtain⟨l,m,p,q,r,s,t,u,v,x,g,i,j⟩:=h.cells H c;go_enter func272,ntmps272;go_wp2_with fail;refine(fD (b 4) w.XL T _ (by exact h.X9 4) a).mono ?_;rintro e y ⟨rfl,rfl⟩;go_wp2;go_ret;exact⟨rfl,rfl⟩
def eD(d:Db)(x:Xs):Bool:=aK d.XH x||aK d.XB x||aK d.XC x
def fe(d:Db)(x:Xs):Bool:=aK d.XH x||aK d.XB x||aK d.XI x
theorem mz(h:aW f n o d D w b)(k:d.length=H)(a:gF w 1073741824) :
  Calls prog 255 #[pointer (some ⟨n,H,none⟩),string T] f fun e q=>e=returned (bool (eD w T))/\q=f:=by
 obtain⟨r,s,t,u,v,x,y,z,A,B,l,m,p⟩:=h.cells H k;cases i:aK w.XH T
 ·cases j:aK w.XB T
  ·have c:Xr (eD w T=aK w.XC T):=(by show eD w T=_;simp[eD,i,j]);go_enter func255,ntmps255;go_wp2_with fail;refine(fD (b 0) w.XH T _ (by exact h.X9 0) a.XH).mono ?_;rintro e g ⟨rfl,rfl⟩;go_wp2_with fail;refine(fD (b 1) w.XB T _ (by exact h.X9 1) a.XB).mono ?_;rintro e g ⟨rfl,rfl⟩;go_wp2_with fail;refine(fD (b 2) w.XC T _ (by exact h.X9 2) a.XC).mono ?_;rintro e g ⟨rfl,rfl⟩;go_wp2;go_ret;exact⟨aF (by rw[c.o]),rfl⟩
  ·have c:Xr (eD w T=true):=(by show eD w T=_;simp[eD,i,j]);go_enter func255,ntmps255;go_wp2_with fail;refine(fD (b 0) w.XH T _ (by exact h.X9 0) a.XH).mono ?_;rintro e g ⟨rfl,rfl⟩;go_wp2_with fail;refine(fD (b 1) w.XB T _ (by exact h.X9 1) a.XB).mono ?_;rintro e g ⟨rfl,rfl⟩;go_wp2;go_ret;exact⟨aF (by rw[c.o]),rfl⟩
 ·have c:Xr (eD w T=true):=by show eD w T=_;simp[eD,i]
  go_enter func255,ntmps255;go_wp2_with fail;refine(fD (b 0) w.XH T _ (by exact h.X9 0) a.XH).mono ?_;rintro e g ⟨rfl,rfl⟩;go_wp2;go_ret;exact⟨aF (by rw[c.o]),rfl⟩
theorem Bs(h:aW f n o d D w b)(k:d.length=H)(a:gF w 1073741824) :
  Calls prog 256 #[pointer (some ⟨n,H,none⟩),string T] f fun e q=>e=returned (bool (fe w T))/\q=f:=by
 obtain⟨r,s,t,u,v,x,y,z,A,B,l,m,p⟩:=h.cells H k;cases i:aK w.XH T
 ·cases j:aK w.XB T
  ·have c:Xr (fe w T=aK w.XI T):=(by show fe w T=_;simp[fe,i,j]);go_enter func256,ntmps256;go_wp2_with fail;refine(fD (b 0) w.XH T _ (by exact h.X9 0) a.XH).mono ?_;rintro e g ⟨rfl,rfl⟩;go_wp2_with fail;refine(fD (b 1) w.XB T _ (by exact h.X9 1) a.XB).mono ?_;rintro e g ⟨rfl,rfl⟩;go_wp2_with fail;refine(fD (b 3) w.XI T _ (by exact h.X9 3) a.XI).mono ?_;rintro e g ⟨rfl,rfl⟩;go_wp2;go_ret;exact⟨aF (by rw[c.o]),rfl⟩
  ·have c:Xr (fe w T=true):=(by show fe w T=_;simp[fe,i,j]);go_enter func256,ntmps256;go_wp2_with fail;refine(fD (b 0) w.XH T _ (by exact h.X9 0) a.XH).mono ?_;rintro e g ⟨rfl,rfl⟩;go_wp2_with fail;refine(fD (b 1) w.XB T _ (by exact h.X9 1) a.XB).mono ?_;rintro e g ⟨rfl,rfl⟩;go_wp2;go_ret;exact⟨aF (by rw[c.o]),rfl⟩
 ·have c:Xr (fe w T=true):=by show fe w T=_;simp[fe,i]
  go_enter func256,ntmps256;go_wp2_with fail;refine(fD (b 0) w.XH T _ (by exact h.X9 0) a.XH).mono ?_;rintro e g ⟨rfl,rfl⟩;go_wp2;go_ret;exact⟨aF (by rw[c.o]),rfl⟩
theorem mx(h:aW f n o d D w b)(a:d.length=H) :
  Calls prog 208 #[pointer (some ⟨n,H,none⟩)] f fun e j=>e=returned (bool (decide (0<w.XW.length)))/\j=f:=by
 obtain⟨k,l,m,p,q,r,s,t,u,v,c,g,i⟩:=h.cells H a;go_enter func208,ntmps208;go_wp2;go_ret;exact⟨rfl,rfl⟩
def lM(d:Db):Bool:=d.XU != 0||decide (0<d.XW.length)
theorem uh(h:aW f n o d D w b)(g:d.length=H) :
  Calls prog 159 #[pointer (some ⟨n,H,none⟩)] f fun e l=>e=returned (bool (lM w))/\l=f:=by
 obtain⟨m,p,q,r,s,t,u,v,x,y,i,j,k⟩:=h.cells H g;cases c:(w.XU != 0)
 ·have a:Xr (lM w=decide (0<w.XW.length)):=by show lM w=_;simp only[lM,c,Bool.false_or]
  go_enter func159,ntmps159;go_wp2_with fail;refine(mx n o H d D w b _ h g).mono ?_;rintro e z ⟨rfl,rfl⟩;go_wp2;go_ret;exact⟨aF (by rw[a.o]),rfl⟩
 ·have a:Xr (lM w=true):=by show lM w=_;simp only[lM,c,Bool.true_or]
  go_enter func159,ntmps159;go_wp2_with fail;go_ret;exact⟨aF (by rw[a.o]),rfl⟩
def mQ(d:Db):Int:=if(d.XU==1)=true∨(d.XU==2)=true then 2 else 1
theorem vl(h:aW f n o d D w b)(i:d.length=H) :
  Calls prog 252 #[pointer (some ⟨n,H,none⟩)] f fun e m=>e=returned (int i64 (mQ w))/\m=f:=by
 obtain⟨p,q,r,s,t,u,v,x,y,z,j,k,l⟩:=h.cells H i;cases c:(w.XU==1)
 ·cases g:(w.XU==2)
  all_goals
   have a:Xr (mQ w=if(w.XU==1)=true∨(w.XU==2)=true then 2 else 1):=rfl;go_enter func252,ntmps252;go_wp2;go_ret;exact⟨au (by rw[a.o,c,g];simp),rfl⟩
 ·have a:Xr (mQ w=2):=by show mQ w=_;simp only[mQ,c];simp
  go_enter func252,ntmps252;go_wp2;go_ret;exact⟨au (by rw[a.o]),rfl⟩
theorem JJ(o:aB f g (aE N))(r:y<=1073741824) :
  Calls prog 263 #[slice g.ao N.length g.cap,int i64 y] f fun e s=>e=returned (slice g.ao (if y<=N.length then y else N.length) g.cap)/\s=f:=by
 obtain⟨t,c⟩:=g;by_cases a:y<=N.length
 ·rcases o.XP with ⟨d,n,_⟩ | ⟨u,p,j,k,l,m,_⟩
  ·have b:N.length=0:=n;have i:y=0:=(by omega);subst i
   injection d with d k
   subst d k;simp only[if_pos a];rw[b];clear o n a b r;go_enter func263,ntmps263;go_wp2;go_ret;exact⟨rfl,rfl⟩
  ·simp only at j l m;have q:N.length<=c:=l;unfold maxLen at m;subst j;simp only[if_pos a];go_enter func263,ntmps263;go_wp2;go_ret;exact⟨rfl,rfl⟩
 ·simp only[if_neg a];go_enter func263,ntmps263;go_wp2;go_ret;exact⟨rfl,rfl⟩
theorem aB.cut(o:aB i z7 (aE zt))(c:Nat)(t:c<=zt.length):aB i z7 (aE (zt.take c)):=by
 have d:(zt.take c).length=c:=by simp;omega
 rcases o.XP with ⟨m,q,_⟩ | ⟨g,b,f,n,j,k,l,p⟩
 ·have r:zt.length=0:=q;have:c=0:=by omega
  subst this;subst m;exact⟨by simp[aE,dL],TH ⟨by simp[aE],by simp[aE]⟩⟩
 ·obtain⟨s,a⟩:=z7;simp only at f j k l;subst f;refine⟨by simp[aE,dL],TE ⟨g,a,b,rfl,Uc _,n,?_,k,l,?_⟩⟩
  ·have:zt.length<=a:=j;simp only[aE];omega
  ·have e:b.toList.take (zt.length*1)=dL zt:=p;simp only[aE,d];have:dL (zt.take c)=(dL zt).take c:=by simp[dL,List.map_take]
   rw[this,<-e,WV];congr 1;omega
theorem Sc:(prog.info? 337).map (fun i=>(i.zero,i.size,i.bytes))=some (some (agg #[int i64 0,int i64 0]),2,16):=by kernel_rfl
theorem sY:qN (I++[z3])=qN I++[int i64 z3.1,int i64 z3.2]:=by simp[qN]
theorem KZ:(⟨(pd I).e,(pd I).size,(pd I).n+1,(pd I).xs++[int i64 z3.1,int i64 z3.2]⟩:eR)=pd (I++[z3]):=by
 simp[pd,sY]
set_option maxRecDepth 100000
theorem xi(h:aW f n o d D w b)(t:d.length=H)(O:w.XW.length<=1073741824) :
  Calls prog 247 #[pointer (some ⟨n,H,none⟩)] f fun e x=>e=returned (tuple #[])/\∃q,aW x n o d D { w with XW:=w.XW++[(w.XI.length,w.XL.length)] } q/\aD n f b x q:=by
 obtain⟨E,A,l,m,p⟩:=TZ Sc;obtain⟨Q,R,S,T,U,V,W,X,Y,Z,F,G,I⟩:=h.cells H t;have z:=h.lt;have s:Xr (aW (f.alloc (.cells #[int i64 w.XI.length,int i64 w.XL.length] 337)).drew n o d D w b):=h.XE ((ae.refl [] f).alloc _).drew;have J:Xr (∀j u,([int i64 w.XI.length,int i64 w.XL.length]:List Value)[j]?=some u->(f.alloc (.cells #[int i64 w.XI.length,int i64 w.XL.length] 337)).drew.cell? ((⟨f.heap.size,0,none⟩:Addr).add j)=some u):=by
  intro j u B;rw[bY];have C:(f.alloc (.cells #[int i64 w.XI.length,int i64 w.XL.length] 337)).drew.heap[f.heap.size]?=some (.cells #[int i64 w.XI.length,int i64 w.XL.length] 337):=Tu _ _;rw[ah C];simpa using B
 have K:Xr (∀u∈([int i64 w.XI.length,int i64 w.XL.length]:List Value),u.oneCell'=true):=by
  intro u v;simp at v;rcases v with rfl | rfl <;> rfl
 have L:Xr ((pd w.XW).n+1<=maxLen):=by show _<=_;simp only[pd];unfold maxLen;omega
 have M:Xr (((pd w.XW).n+1)*16<=140737488355328):=by show _<=_;simp only[pd];omega
 clear h;go_enter func247,ntmps247;go_wp2_with fail;go_region_law (refine dd rfl (.tmp 6) (.tmp 18) 194 rfl E (agg #[int i64 0,int i64 0]) 16 (b 5) (pd w.XW) underlying194 A l m p rfl Xb (by simp[Act.eval] <;> rfl) (s.o.X9 5) ⟨f.heap.size,0,none⟩ 1 1 [int i64 w.XI.length,int i64 w.XL.length] (by simp[Act.eval]) rfl J.o K.o TR L.o M.o ?_;intro g c w1 k i a;obtain⟨P,N,r⟩:=s.o.app (d':={ w with XW:=w.XW++[(w.XI.length,w.XL.length)] }) H 5 t 5 (by omega) g c ((pd w.XW).n+1) _ k (KZ w.XW (w.XI.length,w.XL.length)) i (by simpa using a) (wa w b _) (by omega) _ rfl (by simp[cK,iJ,pd]);clear k i a)
 all_goals go_wp2
 all_goals go_end0
 all_goals exact⟨rfl,_,r.o.1,r.o.2.first ((ae.refl [] f).alloc _).drew⟩
theorem pM(l:List (Nat×Nat)):(qN l).length=l.length*2:=by
 induction l with
 | nil=>rfl
 | cons a r b=>simp only[qN,List.flatMap_cons,List.length_append,List.length_cons,List.length_nil]at *;omega
theorem yb:(qN (I++[z3]))[I.length*2]?=some (int i64 z3.1)/\(qN (I++[z3]))[I.length*2+1]?=some (int i64 z3.2):=by
 rw[sY];have:=pM I;constructor
 ·rw[TJ (by omega),this];simp
 ·rw[TJ (by omega),this];simp
theorem aB.pop{l:List (Nat×Nat)}{x:Nat×Nat}(o:aB i z7 (pd (l++[x]))):aB i z7 (pd l):=by
 rcases o.XP with ⟨t,r,_⟩ | ⟨g,b,f,n,j,k,m,p⟩
 ·have e:(l++[x]).length=0:=r;simp at e
 ·obtain⟨s,a⟩:=z7;simp only at f j k m;subst f;have c:(l++[x]).length<=a:=j;simp at c;refine⟨by simp only[pd];exact pM l,TE ⟨g,a,b,rfl,Uc _,n,?_,k,m,?_⟩⟩
  ·simp only[pd];omega
  ·have d:b.toList.take ((l++[x]).length*2)=qN (l++[x]):=p;simp only[pd];have q:qN l=(qN (l++[x])).take (l.length*2):=by rw[sY,List.take_left' (pM l)]
   rw[q,<-d,WV];congr 1;simp
def dx(d:Db)(bl:List (Nat×Nat))(x:Nat×Nat):Db:={ d with XW:=bl,XI:=d.XI.take x.1,XL:=d.XL.take x.2 }
theorem Ol:(N.take S).length=if S<=N.length then S else N.length:=by
 rw[UJ];split <;> omega
theorem aB.taken(o:aB i z7 (aE zt))(c:Nat):aB i z7 (aE (zt.take c)):=by
 by_cases a:c<=zt.length
 ·exact o.cut c a
 ·rw[Vf (by omega)];exact o
theorem xG(b:Xr ((N.take H).length=y))(c:aB f g (aE N))(a:H<=1073741824) :
  Calls prog 263 #[slice g.ao N.length g.cap,int i64 H] f fun e d=>e=returned (slice g.ao y g.cap)/\d=f:=by
 have e:y=if H<=N.length then H else N.length:=by rw[<-b.o,Ol]
 rw[e];exact JJ g N H f c a
theorem rt{d':Db}(h:aW i L s z4 y9 l x)(e:z4.length=z0)(c:y<10)(g:aB i (x y) (a8 d' x y))(a:∀j,j≠y->a8 d' x j=a8 l x j)(u:Value)(b:S<13)(d:(cK l x).set S u=cK d' (iJ x y (x y))) :
  aW (i.setCell ⟨L,z0+S,none⟩ u) L s z4 y9 d' x/\aD L i x (i.setCell ⟨L,z0+S,none⟩ u) x:=by
 have f:=Ov x y;have:=h.put (d':=d') z0 S e y c (x y) g (WW _ _) (TE (TH rfl)) a u b d;rw[f]at this;exact this
theorem Bg(h:aW f n o d D w b)(y:d.length=H)(E:w.XW=I++[z3])(hs:gF w 1073741824)(hx:z3.1<=1073741824/\z3.2<=1073741824) :
  Calls prog 249 #[pointer (some ⟨n,H,none⟩)] f fun e w'=>e=returned (tuple #[])/\aW w' n o d D (dx w I z3) b/\aD n f b w' b:=by
 obtain⟨M,N,O,P,Q,v,R,S,T,U,p,q,r⟩:=h.cells H y;obtain⟨a,i⟩:=z3;simp only at hx;have l:=h.free;have af:=h.lt;have J:=h.X9 5;have c:aB f (b 5) (pd (I++[(a,i)])):=by have:=J;simp only[a8,E]at this;exact this
 have u:=hs.XW;rw[E]at u v;simp only[List.length_append,List.length_cons,List.length_nil]at u v;rcases c.XP with ⟨e0,h0,_⟩ | ⟨g,ad,L,e2,e3,e4,e5,e6⟩
 ·have Y:(I++[(a,i)]).length=0:=h0;simp at Y
 ·have p1:=c.cell L (I.length*2) _ (yb I (a,i)).1;have p2:=c.cell L (I.length*2+1) _ (yb I (a,i)).2;have ac:I.length+1<=(b 5).cap:=by have:(I++[(a,i)]).length<=(b 5).cap:=e3;simpa using this
  have W:=rt 5 5 (d':={ w with XW:=I }) h y (by omega) c.pop (wa w b I) (slice (some ⟨g,0,none⟩) I.length (b 5).cap) (by omega) (by simp[cK,iJ,L]);obtain⟨s,j⟩:∃s,s=(f.setCell ⟨n,H+5,none⟩ (slice (some ⟨g,0,none⟩) I.length (b 5).cap)).alloc (.cells #[int i64 a,int i64 i] 337):=⟨_,rfl⟩
  have x:aW s n o d D { w with XW:=I } b:=by rw[j];exact W.1.XE (bR.alloc _)
  have T2:aD n f b s b:=by rw[j];exact W.2.XE (bR.alloc _)
  have V:s.heap[f.heap.size]?=some (.cells #[int i64 a,int i64 i] 337):=by
   rw[j];have:=Tu (f.setCell ⟨n,H+5,none⟩ (slice (some ⟨g,0,none⟩) I.length (b 5).cap)) (.cells #[int i64 a,int i64 i] 337);simpa [World.setCell] using this
  have HW:Xr ((f.setCell ⟨n,H+5,none⟩ (slice (some ⟨g,0,none⟩) I.length (b 5).cap)).alloc (.cells #[int i64 a,int i64 i] 337)=s):=j.symm;rw[L]at v;simp only at p1 p2;clear J c e3 e4 e5 e6 e2 h W j;go_enter func249,ntmps249;go_upto_region 4 with fail
  rw[HW.o];obtain⟨c0,c1⟩:=Ba V;have Z:f.heap.size≠n:=by omega
  clear HW M N O P Q v R S T U p q r p1 p2 l;obtain⟨M,N,O,P,Q,v,R,S,T,U,p,q,r⟩:=x.cells H y;have l:=x.free;obtain⟨K,F⟩:∃m,Xr ((w.XI.take a).length=m):=⟨_,rfl⟩
  obtain⟨m2,G⟩:∃m,Xr ((w.XL.take i).length=m):=⟨_,rfl⟩
  have X:=rt 3 3 (d':={ w with XW:=I,XI:=w.XI.take a }) x y (by omega) ((x.X9 3).taken a) (v9 { w with XW:=I } b (w.XI.take a)) (slice (b 3).ao K (b 3).cap) (by omega) (by simp only[cK,dI,<-F.o];rfl);obtain⟨t,k⟩:∃t,t=(s.setCell ⟨n,H+3,none⟩ (slice (b 3).ao K (b 3).cap)).drew:=⟨_,rfl⟩
  have z:Xr (aW t n o d D { w with XW:=I,XI:=w.XI.take a } b):=by rw[k];exact X.1.XE bR.drew
  have T3:Xr (aD n f b t b):=by rw[k];exact T2.trans (X.2.XE bR.drew)
  have B3:Xr (t.heap[f.heap.size]?=some (.cells #[int i64 a,int i64 i] 337)):=by
   show t.heap[f.heap.size]?=_;rw[k];exact(TM s ⟨n,H+3,none⟩ (slice (b 3).ao K (b 3).cap) f.heap.size Z).trans V
  have B:Xr ((s.setCell ⟨n,H+3,none⟩ (slice (b 3).ao K (b 3).cap)).drew=t):=k.symm;clear k X;go_region_with (go_at_call 263;refine(xG (b 3) w.XI a K _ F (by exact x.X9 3) hx.1).mono ?_;rintro e t ⟨rfl,rfl⟩)
  all_goals go_upto_region 5 with fail
  all_goals rw[B.o]
  all_goals
   clear B M N O P Q v R S T U p q r l x T2 V c0 c1;obtain⟨c0,c1⟩:=Ba B3.o;obtain⟨M,N,O,P,Q,v,R,S,T,U,p,q,r⟩:=z.o.cells H y;have l:=z.o.free;have P4:=rt 4 4 (d':=dx w I (a,i)) z.o y (by omega) ((z.o.X9 4).taken i) (yC { w with XW:=I,XI:=w.XI.take a } b (w.XL.take i)) (slice (b 4).ao m2 (b 4).cap) (by omega) (by simp only[cK,dx,dI,<-G.o];rfl);have A:Xr _:=P4;clear P4;go_region_with (go_at_call 263;refine(xG (b 4) w.XL i m2 _ G (by exact z.o.X9 4) hx.2).mono ?_;rintro e t ⟨rfl,rfl⟩)
   all_goals go_wp2
   all_goals go_end0
   all_goals exact⟨rfl,A.o.1.XE bR.drew,T3.o.trans (A.o.2.XE bR.drew)⟩
theorem Da{α:Type}(f:α->List Value)(n:Nat)(b:∀a,(f a).length=n)(l:List α):(l.flatMap f).length=l.length*n:=by
 induction l with
 | nil=>simp
 | cons a l c=>simp only[List.flatMap_cons,List.length_append,b,c,List.length_cons];rw[WH];omega
theorem C9{α:Type}(f:α->List Value)(n:Nat)(b:∀a,(f a).length=n)(l:List α)(i j:Nat)(c:i<l.length)(g:j<n):(l.flatMap f)[i*n+j]?=(f l[i])[j]?:=by
 induction l generalizing i with
 | nil=>simp at c
 | cons a l d =>
  rw[Uv];cases i with
  | zero=>rw[TQ (by rw[b];omega)];simp
  | succ i =>
   have e:(i+1)*n+j=n+(i*n+j):=(by rw[WH];omega);rw[TJ (by rw[b,e];omega),b,e,show n+(i*n+j)-n=i*n+j by omega];exact d i (by simpa using c)
theorem MP{α:Type}(f:α->List Value)(n:Nat)(b:∀a,(f a).length=n)(l:List α)(i j:Nat)(g:i<l.length)(m:j<n)(c:α)(v:Value)(d:f c=(f l[i]).set j v) :
  (l.flatMap f).set (i*n+j) v=(l.set i c).flatMap f:=by
 induction l generalizing i with
 | nil=>simp at g
 | cons a l k =>
  cases i with
  | zero =>
   rw[VU,Uv,Uv,Wc _ _ (by rw[b];omega),d];simp
  | succ i =>
   have e:(i+1)*n+j=n+(i*n+j):=(by rw[WH];omega);rw[Vi,Uv,Uv,Vw _ _ (by rw[b,e];omega),b,e,show n+(i*n+j)-n=i*n+j by omega];rw[k i (by simpa using g) (by simpa using d)]
theorem Od:(np a z5).length=a.length*8:=by
 unfold np;rw[Da _ 8 (fun _=>rfl)];simp
theorem GX:(oG ya).length=ya.length*4:=Da _ 4 (fun _=>rfl) ya
theorem IX(b:S<a.length)(j:Nat)(c:j<8):(np a z5)[S*8+j]?=(Lj a[S] (z5 (10+2*S)) (z5 (11+2*S)))[j]?:=by
 unfold np;rw[C9 _ 8 (fun _=>rfl) _ S j (by simpa using b) c];simp
theorem LL(a:S<ya.length)(j:Nat)(b:j<4):(oG ya)[S*4+j]?=(sx ya[S])[j]?:=C9 _ 4 (fun _=>rfl) ya S j a b
theorem Lv:np (a++[yf]) z5=np a z5++Lj yf (z5 (10+2*a.length)) (z5 (11+2*a.length)):=by
 unfold np;rw[List.zipIdx_append];simp
theorem G3:(a.set H yf).zipIdx=a.zipIdx.set H (yf,H):=by
 apply Vq;intro j;simp only[List.getElem?_zipIdx,List.getElem?_set,List.length_zipIdx];by_cases e:H=j
 ·subst e;by_cases b:H<a.length <;> simp[b]
 ·simp[e]
theorem Oe(b:S<a.length)(N:Nat):(np a z5).set (S*8+7) (int i64 N)=np (a.set S { a[S] with til:=N }) z5:=by
 unfold np;rw[G3];exact MP _ 8 (fun _=>rfl) _ S 7 (by simpa using b) (by omega) _ _ (by simp[Lj])
theorem Em:(dL N).length=N.length*1:=by simp[dL]
theorem Af:kj (M++[S])=kj M++[int i64 S]:=by simp[kj]
theorem l4:(⟨(bD M).e,(bD M).size,(bD M).n+1,(bD M).xs++[int i64 S]⟩:eR)=bD (M++[S]):=by simp[bD,Af]
theorem xO:(prog.info? 3).map (fun i=>(i.zero,i.size,i.bytes))=some (some (int i64 0),1,8):=by kernel_rfl
def oB(k:Int):Bool:=k==4||k==5
set_option maxRecDepth 512
theorem dB(c d f g i j l:Value)(w:World) :
  Calls prog 161 #[agg #[int i64 k,c,d,f,g,i,j,l]] w fun e m=>e=returned (bool (oB k))/\ae [] w m:=by
 cases b:(k==4)
 ·have a:Xr (oB k=(k==5)):=by show oB k=_;simp only[oB,b,Bool.false_or]
  go_enter func161,ntmps161;go_wp2;go_ret;exact⟨aF (by rw[a.o]),(ae.refl _ _).alloc _⟩
 ·have a:Xr (oB k=true):=by show oB k=_;simp only[oB,b,Bool.true_or]
  go_enter func161,ntmps161;go_wp2;go_ret;exact⟨aF (by rw[a.o]),(ae.refl _ _).alloc _⟩
set_option maxRecDepth 100000
theorem BQ(h:aW f n o d D w b)(z:d.length=H)(J:gF w 100000000) :
  Calls prog 248 #[pointer (some ⟨n,H+6,none⟩)] f fun e B=>e=returned (tuple #[])/\∃v,aW B n o d D { w with rbl:=w.rbl++[w.XQ.length] } v/\aD n f b B v:=by
 obtain⟨K,E,l,m,p⟩:=TZ xO;obtain⟨L,M,N,O,P,Q,Z,q7,R,S,q,r,s⟩:=h.cells H z;clear L M N O P Q R S q r s;have C:=h.lt;have I:=J.rbl;have y:Xr (aW (f.alloc (.cells #[int i64 w.XQ.length] 3)).drew n o d D w b):=h.XE ((ae.refl [] f).alloc _).drew;have T:Xr (∀j u,([int i64 w.XQ.length]:List Value)[j]?=some u->(f.alloc (.cells #[int i64 w.XQ.length] 3)).drew.cell? ((⟨f.heap.size,0,none⟩:Addr).add j)=some u):=by
  intro j u F;have G:(f.alloc (.cells #[int i64 w.XQ.length] 3)).drew.heap[f.heap.size]?=some (.cells #[int i64 w.XQ.length] 3):=Tu _ _;rw[bY,ah G];simpa using F
 have U:Xr (∀u∈([int i64 w.XQ.length]:List Value),u.oneCell'=true):=by intro u A;simp at A;subst A;rfl
 have V:Xr ((bD w.rbl).n+1<=maxLen):=by show _<=_;simp only[bD];unfold maxLen;omega
 have W:Xr (((bD w.rbl).n+1)*8<=140737488355328):=by show _<=_;simp only[bD];omega
 clear h;go_enter func248,ntmps248;go_wp2_with fail;go_region_law (refine dd rfl (.tmp 6) (.tmp 12) 24 rfl K (int i64 0) 8 (b 7) (bD w.rbl) underlying24 E l m p rfl TR (by simp[Act.eval] <;> rfl) (y.o.X9 7) ⟨f.heap.size,0,none⟩ 1 1 [int i64 w.XQ.length] (by simp[Act.eval]) rfl T.o U.o TR V.o W.o ?_;intro g c w1 k i a;obtain⟨Y,X,x⟩:=y.o.app (d':={ w with rbl:=w.rbl++[w.XQ.length] }) H 7 z 7 (by omega) g c ((bD w.rbl).n+1) _ k (l4 w.rbl _) i (by simpa using a) (Eb w b _) (by omega) _ rfl (by simp[cK,iJ,bD]);clear k i a)
 all_goals go_wp2
 all_goals go_end0
 all_goals exact⟨rfl,_,x.o.1,x.o.2.first ((ae.refl [] f).alloc _).drew⟩
def lK(N:Nat)(s:St):St:=if s.til=0/\oB s.XU=false then { s with til:=N } else s
def g7(l:List St)(b n:Nat):List St:=l.mapIdx (fun i s=>if b<=i/\i<n then lK l.length s else s)
def kE(l:List St)(b:Nat):List St:=g7 l b l.length
theorem kQ:(g7 a y S).length=a.length:=by simp[g7]
theorem nu:(g7 a H y)[S]?=a[S]?.map (fun s=>if H<=S/\S<y then lK a.length s else s):=by simp[g7]
theorem CY:g7 a S S=a:=by
 apply Vq;intro i;rw[nu];have:¬(S<=i/\i<S):=by omega
 simp[this]
theorem xw(c:y<=S)(d:S<a.length):g7 a y (S+1)=(g7 a y S).set S (lK a.length a[S]):=by
 apply Vq;intro i;rw[UA,nu,nu,kQ];by_cases e:S=i
 ·subst e;have b:y<=S/\S<S+1:=⟨c,by omega⟩;simp[d,b]
 ·have:(y<=i/\i<S+1) ↔ (y<=i/\i<S):=by omega
  simp[e,this]
theorem Ff(c:y<=S)(b:S<a.length)(h:lK a.length a[S]=a[S]):g7 a y (S+1)=g7 a y S:=by
 rw[xw a y S c b,h];apply Vq;intro i;rw[UA,kQ];by_cases e:S=i
 ·subst e;rw[nu];simp[b]
 ·simp[e]
theorem MI(b:S<a.length):(g7 a y S)[S]?=some a[S]:=by
 rw[nu];simp[b]
theorem yN(c:S<a.length)(N:Nat)(i:Nat):symsAt (a.set S { a[S] with til:=N }) i=symsAt a i/\um (a.set S { a[S] with til:=N }) i=um a i:=by
 unfold symsAt um;rw[UA];by_cases e:S=i
 ·subst e;simp[c]
 ·simp[e]
theorem aW.til(h:aW i L s z4 y9 l x)(g:Nat)(q:(x 6).ao=some ⟨g,0,none⟩)(n:Nat)(t:n<l.XQ.length)(N:Nat) :
  aW (i.setCell ⟨g,n*8+7,none⟩ (int i64 N)) L s z4 y9 { l with XQ:=l.XQ.set n { l.XQ[n] with til:=N } } x/\aD L i x (i.setCell ⟨g,n*8+7,none⟩ (int i64 N)) x:=by
 have b:(x 6).XS=some g:=by unfold Hd.XS;rw[q];rfl
 have r:g≠L:=by rintro rfl;exact h.off 6 b
 refine⟨⟨?_,?_,h.apart,h.off⟩,(fL.refl _ _).setCell (TH (TE ⟨6,b⟩)) _,fun _ j=>TH j⟩
 ·rw[TM _ _ _ _ (fun e=>r e.symm),h.XS];simp[cK]
 ·intro d;by_cases e:d=6
  ·subst e;have E:aB i (x 6) (jm l.XQ x):=h.X9 6;show aB _ (x 6) (jm (l.XQ.set n { l.XQ[n] with til:=N }) x);rcases E.XP with ⟨F,C,_⟩ | ⟨u,f,c,w,y,z,A,B⟩
   ·have:l.XQ.length=0:=C;omega
   ·have:u=g:=(by rw[q]at c;injection c with c;injection c with c;exact c.symm);subst this;refine⟨by simp only[jm];rw[Od],TE ⟨u,(x 6).cap,f.setIfInBounds (n*8+7) (int i64 N),?_,Uc _,ab w _ _,?_,z,?_,?_⟩⟩
    ·simp[jm,q]
    ·simpa [jm] using y
    ·simpa [jm] using A
    ·have p:f.toList.take (l.XQ.length*8)=np l.XQ x:=B;simp only[jm,List.length_set,Array.toList_setIfInBounds,List.take_set,p];exact Oe l.XQ x n t N
  ·have D:a8 { l with XQ:=l.XQ.set n { l.XQ[n] with til:=N } } x d=a8 l x d:=by
    match d,e with
    | 0,_=>rfl
    | 1,_=>rfl
    | 2,_=>rfl
    | 3,_=>rfl
    | 4,_=>rfl
    | 5,_=>rfl
    | 6,e=>exact absurd rfl e
    | 7,_=>rfl
    | 8,_=>rfl
    | 9,_=>rfl
    | m+10,_=>simp only[a8,inner,(yN l.XQ n t N (m / 2)).1,(yN l.XQ n t N (m / 2)).2]
   rw[D];refine(h.X9 d).XJ (fun k j=>TM _ _ _ _ ?_);rintro rfl;rcases h.apart d 6 e with a | a
   ·rw[a]at j;cases j
   ·exact a (j.trans b.symm)
theorem aW.stmt(h:aW i L s z4 y9 l x)(g:Nat)(b:(x 6).ao=some ⟨g,0,none⟩)(n:Nat)(a:St)(f:l.XQ[n]?=some a) :
  i.cell? ⟨g,n*8,none⟩=some (int i64 a.XU)/\i.cell? ⟨g,n*8+1,none⟩=some (string a.XV)/\i.cell? ⟨g,n*8+2,none⟩=some (slice (x (10+2*n)).ao a.Xz.length (x (10+2*n)).cap) /\
  i.cell? ⟨g,n*8+3,none⟩=some (slice (x (11+2*n)).ao a.XK.length (x (11+2*n)).cap)/\i.cell? ⟨g,n*8+4,none⟩=some (string a.XY.XZ)/\i.cell? ⟨g,n*8+5,none⟩=some (int i64 a.XY.X0) /\
  i.cell? ⟨g,n*8+6,none⟩=some (int i64 a.XY.X3)/\i.cell? ⟨g,n*8+7,none⟩=some (int i64 a.til):=by
 obtain⟨e,rfl⟩:=TA.1 f;have m:aB i (x 6) (jm l.XQ x):=h.X9 6;have c:=fun j (d:j<8) v (k:(Lj l.XQ[n] (x (10+2*n)) (x (11+2*n)))[j]?=some v)=>m.cell b (n*8+j) v ((IX l.XQ x n e j d).trans k);exact⟨c 0 (by omega) _ rfl,c 1 (by omega) _ rfl,c 2 (by omega) _ rfl,c 3 (by omega) _ rfl,c 4 (by omega) _ rfl,c 5 (by omega) _ rfl,c 6 (by omega) _ rfl,c 7 (by omega) _ rfl⟩
theorem DF:(kj M).length=M.length*1:=by simp[kj]
theorem aB.popN{l:Xv}(o:aB i z7 (bD (l++[L]))):aB i z7 (bD l):=by
 rcases o.XP with ⟨t,r,_⟩ | ⟨g,b,f,n,j,k,m,p⟩
 ·have e:(l++[L]).length=0:=r;simp at e
 ·obtain⟨s,a⟩:=z7;simp only at f j k m;subst f;have c:(l++[L]).length<=a:=j;simp at c;refine⟨by simp only[bD];exact DF l,TE ⟨g,a,b,rfl,Uc _,n,?_,k,m,?_⟩⟩
  ·simp only[bD];omega
  ·have d:b.toList.take ((l++[L]).length*1)=kj (l++[L]):=p;simp only[bD];have q:kj l=(kj (l++[L])).take (l.length*1):=by rw[Af,List.take_left' (DF l)]
   rw[q,<-d,WV];congr 1;simp
theorem Gf(h:aW f n o d D w b)(ho:d.length=H)(Q:w.rbl=M++[y])(hs:gF w 100000000)(hx:y<=w.XQ.length) :
  Calls prog 250 #[pointer (some ⟨n,H+6,none⟩)] f fun e w'=>e=returned (tuple #[])/\aW w' n o d D { w with rbl:=M,XQ:=kE w.XQ y } b/\aD n f b w' b:=by
 obtain⟨S,U,V,W,X,Y,F,x,Z,q9,l,m,p⟩:=h.cells H ho;clear S U V W X Y Z q9 l m p;have C:=h.free;have t:aB f (b 7) (bD (M++[y])):=by have:=h.X9 7;simp only[a8,Q]at this;exact this
 have v:=hs.rbl;have ai:=hs.XQ;rw[Q]at v x;simp only[List.length_append,List.length_cons,List.length_nil]at v x;rcases t.XP with ⟨e0,h0,_⟩ | ⟨g,ap,e1,e2,e3,e4,e5,z⟩
 ·have ad:(M++[y]).length=0:=h0;simp at ad
 ·have p1:=t.cell e1 M.length (int i64 y) (by simp[bD,kj]);have ao:M.length+1<=(b 7).cap:=by have:(M++[y]).length<=(b 7).cap:=e3;simpa using this
  have P1:=rt 7 7 (d':={ w with rbl:=M }) h ho (by omega) t.popN (Eb w b M) (slice (some ⟨g,0,none⟩) M.length (b 7).cap) (by omega) (by simp[cK,iJ,e1]);rw[e1]at x;have HP:Xr _:=P1;clear t e3 e4 e5 z e2 h P1;go_enter func250,ntmps250;go_wp2
  go_loopg [4] (w.XQ.length-y) (fun g i wr=>∃k:Nat,y<=k/\k<=w.XQ.length/\g=w.XQ.length-k/\i=int i64 k/\aW wr n o d D { w with rbl:=M,XQ:=g7 w.XQ y k } b/\aD n f b wr b)
  ·exact⟨y,by omega,hx,rfl,rfl,by rw[CY];exact HP.o.1,HP.o.2⟩
  obtain⟨k,j,ar,hg,rfl,c,T⟩:=hrel;clear HP F x p1 C;obtain⟨S,U,V,W,X,Y,F,x,Z,q9,l,m,p⟩:=c.cells H ho;clear S U V W X Y x Z q9 l m p;have C:=c.free;simp only[kQ]at F;by_cases r:k<w.XQ.length
  ·have q:=MI w.XQ y k r;have R:aB wr (b 6) (jm (g7 w.XQ y k) b):=c.X9 6;rcases R.XP with ⟨_,h0,_⟩ | ⟨L,an,z,A,ac,-⟩
   ·have:(g7 w.XQ y k).length=0:=h0;rw[kQ]at this;omega
   ·obtain⟨c0,c1,c2,c3,c4,c5,c6,c7⟩:=c.stmt L z k _ q;rw[z]at F;have B:=am A;have HS:Xr (∀N:Nat,aW wr n o d D { w with rbl:=M,XQ:=g7 w.XQ y k } b->∀G,ae [] wr G->aW (G.setCell ⟨L,k*8+7,none⟩ (int i64 N)) n o d D { w with rbl:=M,XQ:=(g7 w.XQ y k).set k { w.XQ[k] with til:=N } } b/\aD n f b (G.setCell ⟨L,k*8+7,none⟩ (int i64 N)) b):=by
     intro N c G j;have I:=c.XE j;have hn:k<(g7 w.XQ y k).length:=by rw[kQ];exact r
     have P:=I.til L z k hn N;have es:(g7 w.XQ y k)[k]=w.XQ[k]:=(by have:=q;rw[Tn hn]at this;simpa using this);simp only[es]at P;exact⟨P.1,(T.XE j).trans P.2⟩
    have J:Xr (lK w.XQ.length w.XQ[k]=w.XQ[k]->g7 w.XQ y (k+1)=g7 w.XQ y k):=Ff w.XQ y k j r;have H2:Xr (g7 w.XQ y (k+1)=(g7 w.XQ y k).set k (lK w.XQ.length w.XQ[k])):=xw w.XQ y k j r;have ag:=A;have O:Xr _:=q;clear q R A ac;generalize w.XQ[k]=s at *;cases hz:((s.til:Int)==0)
    ·have K:Xr (g7 w.XQ y (k+1)=g7 w.XQ y k):=J.o (by
      have:¬s.til=0:=by intro e;simp[e]at hz
      simp[lK,this])
     clear HS J H2 B;go_wp2;go_roundg (w.XQ.length-(k+1))
     ·exact⟨k+1,by omega,by omega,rfl,by go_num,by rw[K.o];exact c,T⟩
     omega
    ·have E:s.til=0:=(by have:=Wh hz;omega);cases ha:oB s.XU
     ·have K:Xr (g7 w.XQ y (k+1)=(g7 w.XQ y k).set k { s with til:=w.XQ.length }):=by
       show _=_;rw[H2.o];simp[lK,E,ha]
      clear J H2 E;go_wp2_with (go_at_call 161;refine(dB s.XU _ _ _ _ _ _ _ _).mono ?_;rintro e G ⟨rfl,a⟩;have af:=a.get ag (by simp));have I:=c.XE a;have PS:Xr _:=(fun N=>HS.o N c _ a);obtain⟨S,U,V,W,X,Y,F,x,Z,q9,l,m,p⟩:=I.cells H ho;clear S U V W X Y x Z q9 l m p;simp only[kQ,z]at F;obtain⟨c0,c1,c2,c3,c4,c5,c6,c7⟩:=I.stmt L z k _ O.o;clear c0 c1 c2 c3 c4 c5 c6;have B:=am af;have C:=I.free;go_region
      all_goals go_wp2
      all_goals
       go_roundg (w.XQ.length-(k+1))
       ·exact⟨k+1,by omega,by omega,rfl,by go_num,by rw[K.o];exact(PS.o _).1.XE bR.drew,(PS.o _).2.XE bR.drew⟩
       omega
     ·have K:Xr (g7 w.XQ y (k+1)=g7 w.XQ y k):=J.o (by simp[lK,ha]);clear HS J H2 B E;go_wp2_with (go_at_call 161;refine(dB s.XU _ _ _ _ _ _ _ _).mono ?_;rintro e G ⟨rfl,a⟩);go_roundg (w.XQ.length-(k+1))
      ·exact⟨k+1,by omega,by omega,rfl,by go_num,by rw[K.o];exact c.XE a,T.XE a⟩
      omega
  ·have e:k=w.XQ.length:=(by omega);subst e;go_wp2;go_end0;exact⟨rfl,c,T⟩
theorem Se:(prog.info? 158).map (fun i=>(i.zero,i.size,i.bytes))=some (some (agg #[int i64 0,string ⟨#[]⟩,slice none 0 0,slice none 0 0,string ⟨#[]⟩,int i64 0,int i64 0,int i64 0]),8,112):=by kernel_rfl
theorem QK:(prog.info? 229).map (fun i=>(i.zero,i.size,i.bytes))=some (some (agg #[string ⟨#[]⟩,string ⟨#[]⟩,int i64 0,int i64 0]),4,48):=by kernel_rfl
theorem wb(h:∀j,j<10+2*a.length->z5 j=b j):np a z5=np a b:=by
 unfold np;rw[VQ,VQ];congr 1;apply VH;intro p c;have:p.2<a.length:=by
  have:=List.snd_lt_add_of_mem_zipIdx c;omega
 rw[h _ (by omega),h _ (by omega)]
theorem NZ(o:aB yg g (aE N)):aB yg g (aE []):=by
 have:=o.taken 0;simpa using this
theorem N1(o:aB yg g (iB ya)):aB yg g (iB []):=by
 rcases o.XP with ⟨f,n,_⟩ | ⟨k,b,c,i,j,d,e,m⟩
 ·subst f;exact⟨by simp[iB,oG],TH ⟨by simp[iB],by simp[iB]⟩⟩
 ·obtain⟨l,a⟩:=g;simp only at c j d e;subst c;exact⟨by simp[iB,oG],TE ⟨k,a,b,rfl,Uc _,i,by simp[iB],d,e,by simp[iB,oG]⟩⟩
theorem aW.addst{w1:World}(Q:aW i L s z4 y9 l x)(D:ae [] i z6)(ho:z4.length=z0)(p:St)(A z:Hd)(J I:Nat)(X:A.XS=some J)(V:z.XS=some I)(W:i.heap.size<=J)(U:i.heap.size<=I)(E:J≠I)(os:aB z6 A (aE p.Xz))(op:aB z6 z (iB p.XK))(g d:Nat)(Y:aB w1 ⟨some ⟨g,0,none⟩,d⟩ ⟨(jm l.XQ x).e,(jm l.XQ x).size,(jm l.XQ x).n+1,(jm l.XQ x).xs++Lj p A z⟩)(C:z6.grownBy w1 (x 6).XS)(y:(x 6).XS=some g∨z6.heap.size<=g) :
  w1.cell? ⟨L,z0+6,none⟩=some (slice (x 6).ao l.XQ.length (x 6).cap)/\w1.frozen? ⟨L,z0+6,none⟩=false /\
  Xr (∃N,aW (w1.setCell ⟨L,z0+6,none⟩ (slice (some ⟨g,0,none⟩) ((jm l.XQ x).n+1) d)) L s z4 y9 { l with XQ:=l.XQ++[p] } N /\
   aD L i x (w1.setCell ⟨L,z0+6,none⟩ (slice (some ⟨g,0,none⟩) ((jm l.XQ x).n+1) d)) N/\∀j,j<10->j≠6->N j=x j):=by
 have h:=Q.XE D;have K:=(C.block L h.lt (fun e=>h.off 6 e.symm)).trans h.XS;refine⟨(ah K (z0+6)).trans (BC z4 (cK l x) y9 z0 6 ho (by simp[cK])),am K _,?_⟩;have S:=fun {k} (K:ik x k)=>Q.inlt K;have ac:=Q.lt;obtain⟨b,w⟩:∃b,b=iJ (iJ x (10+2*l.XQ.length) A) (11+2*l.XQ.length) z:=⟨_,rfl⟩
 have o:∀j,j≠10+2*l.XQ.length->j≠11+2*l.XQ.length->b j=x j:=fun j a c=>by rw[w,cd _ _ _ _ c,cd _ _ _ _ a]
 have G:b (10+2*l.XQ.length)=A:=by rw[w,cd _ _ _ _ (by omega),dI]
 have H:b (11+2*l.XQ.length)=z:=by rw[w,dI]
 have e4:np l.XQ b=np l.XQ x:=wb _ _ _ (fun j t=>o j (by omega) (by omega));clear w;have el:cK l b=cK l x:=by
  unfold cK;rw[o 0 (by omega) (by omega),o 1 (by omega) (by omega),o 2 (by omega) (by omega),o 3 (by omega) (by omega),o 4 (by omega) (by omega),o 5 (by omega) (by omega),o 6 (by omega) (by omega),o 7 (by omega) (by omega),o 8 (by omega) (by omega),o 9 (by omega) (by omega)]
 have er:∀j,a8 l b j=a8 l x j:=by
  intro j;unfold a8;split <;> first | rfl | (simp only[jm,e4])
 have F:∀j,(b j).XS=(x j).XS∨((b j).XS=some J/\j=10+2*l.XQ.length)∨((b j).XS=some I/\j=11+2*l.XQ.length):=by
  intro j;by_cases a:j=10+2*l.XQ.length
  ·subst a;rw[G];exact TE (TH ⟨X,rfl⟩)
  ·by_cases c:j=11+2*l.XQ.length
   ·subst c;rw[H];exact TE (TE ⟨V,rfl⟩)
   ·rw[o j a c];exact TH rfl
 have D1:aW z6 L s z4 y9 l b:=by
  refine⟨by rw[el];exact h.XS,?_,?_,?_⟩
  ·intro j;rw[er j];by_cases a:j=10+2*l.XQ.length
   ·subst a;rw[G];have:a8 l x (10+2*l.XQ.length)=aE []:=by
     rw[show 10+2*l.XQ.length=2*l.XQ.length+10 by omega];simp[a8,inner,symsAt]
    rw[this];exact NZ z6 A _ os
   ·by_cases c:j=11+2*l.XQ.length
    ·subst c;rw[H];have:a8 l x (11+2*l.XQ.length)=iB []:=by
      rw[show 11+2*l.XQ.length=(2*l.XQ.length+1)+10 by omega];have q:(2*l.XQ.length+1) % 2=1:=by omega
      have Z:(2*l.XQ.length+1) / 2=l.XQ.length:=(by omega);simp[a8,inner,um,q,Z]
     rw[this];exact N1 z6 z _ op
    ·rw[o j a c];exact h.X9 j
  ·intro v j R;have f:∀v k,(x v).XS=some k->k<i.heap.size:=fun v k e=>S ⟨v,e⟩;rcases F v with a | ⟨a,ai⟩ | ⟨a,ai⟩ <;> rcases F j with c | ⟨c,cj⟩ | ⟨c,cj⟩ <;> rw[a,c]
   ·exact h.apart v j R
   ·cases e:(x v).XS with
    | none=>exact TH rfl
    | some k=>right;intro r;cases r;have:=f v _ e;omega
   ·cases e:(x v).XS with
    | none=>exact TH rfl
    | some k=>right;intro r;cases r;have:=f v _ e;omega
   ·right;intro r;have:=f j _ r.symm;omega
   ·omega
   ·right;intro r;cases r;exact E rfl
   ·right;intro r;have:=f j _ r.symm;omega
   ·right;intro r;cases r;exact E rfl
   ·omega
  ·intro j;rcases F j with a | ⟨a,_⟩ | ⟨a,_⟩ <;> rw[a]
   ·exact h.off j
   ·intro e;cases e;omega
   ·intro e;cases e;omega
 have T1:aD L i x z6 b:=by
  refine⟨D.toP (by simp),?_⟩;rintro k ⟨j,t⟩;rcases F j with a | ⟨a,_⟩ | ⟨a,_⟩ <;> rw[a]at t
  ·exact TH ⟨j,t⟩
  ·cases t;exact TE W
  ·cases t;exact TE U
 have h6:b 6=x 6:=o 6 (by omega) (by omega);have O:a8 { l with XQ:=l.XQ++[p] } b 6=⟨(jm l.XQ x).e,(jm l.XQ x).size,(jm l.XQ x).n+1,(jm l.XQ x).xs++Lj p A z⟩:=by
  simp only[a8,jm,Lv,G,H,e4,List.length_append,List.length_cons,List.length_nil]
 have P:=D1.putG (d':={ l with XQ:=l.XQ++[p] }) z0 6 ho 6 (by omega) ⟨some ⟨g,0,none⟩,d⟩ (by rw[O];exact Y) (by rw[h6];exact C)
  (by
    rcases y with e | e
    ·exact TE (TH (by rw[h6];exact e.symm))
    ·exact TE (TE ⟨g,rfl,e⟩))
  (by
   intro j t;by_cases a:j=10+2*l.XQ.length
   ·subst a;rw[G];have:a8 { l with XQ:=l.XQ++[p] } b (10+2*l.XQ.length)=aE p.Xz:=by
     rw[show 10+2*l.XQ.length=2*l.XQ.length+10 by omega];simp[a8,inner,symsAt]
    rw[this];exact os
   ·by_cases c:j=11+2*l.XQ.length
    ·subst c;rw[H];have:a8 { l with XQ:=l.XQ++[p] } b (11+2*l.XQ.length)=iB p.XK:=by
      rw[show 11+2*l.XQ.length=(2*l.XQ.length+1)+10 by omega];have q:(2*l.XQ.length+1) % 2=1:=by omega
      have Z:(2*l.XQ.length+1) / 2=l.XQ.length:=(by omega);simp[a8,inner,um,q,Z]
     rw[this];exact op
    ·have:a8 { l with XQ:=l.XQ++[p] } b j=a8 l b j:=by
      match j,t,a,c with
      | 0,_,_,_=>rfl
      | 1,_,_,_=>rfl
      | 2,_,_,_=>rfl
      | 3,_,_,_=>rfl
      | 4,_,_,_=>rfl
      | 5,_,_,_=>rfl
      | 6,t,_,_=>exact absurd rfl t
      | 7,_,_,_=>rfl
      | 8,_,_,_=>rfl
      | 9,_,_,_=>rfl
      | m+10,_,a,c =>
       have hm:m / 2≠l.XQ.length:=(by omega);have e:(l.XQ++[p])[m / 2]?=l.XQ[m / 2]?:=by
        rcases Xm (m / 2) l.XQ.length with M | M
        ·exact TQ M
        ·rw[TJ M,Un M,Un (by simp;omega)]
       simp only[a8,inner,symsAt,um,e]
     rw[this];exact D1.X9 j)
  (slice (some ⟨g,0,none⟩) ((jm l.XQ x).n+1) d) (by omega) (by
   rw[el];have u:∀j,j<10->j≠6->iJ b 6 (⟨some ⟨g,0,none⟩,d⟩:Hd) j=x j:=fun j t T=>by rw[cd _ _ _ _ T];exact o j (by omega) (by omega)
   unfold cK;rw[u 0 (by omega) (by omega),u 1 (by omega) (by omega),u 2 (by omega) (by omega),u 3 (by omega) (by omega),u 4 (by omega) (by omega),u 5 (by omega) (by omega),u 7 (by omega) (by omega),u 8 (by omega) (by omega),u 9 (by omega) (by omega),dI];simp[jm])
 exact⟨_,P.1,T1.trans P.2,fun j t T=>by rw[cd _ _ _ _ T];exact o j (by omega) (by omega)⟩
theorem GY:∀u∈oG ya,u.oneCell'=true:=by
 intro u a;simp only[oG,List.mem_flatMap]at a;obtain⟨p,_,a⟩:=a;simp only[sx,List.mem_cons,List.not_mem_nil,or_false]at a;rcases a with rfl | rfl | rfl | rfl <;> rfl
theorem Qn(a b:Hd):∀u∈Lj yf a b,u.oneCell'=true:=by
 intro u c;simp only[Lj,List.mem_cons,List.not_mem_nil,or_false]at c;rcases c with rfl | rfl | rfl | rfl | rfl | rfl | rfl | rfl <;> rfl
theorem te(q f:Xs)(l c:Int)(a:World)(h:aW a n o d D w b)(ho:d.length=H)(hs:gF w 100000000) :
  Calls prog 269 #[pointer (some ⟨n,H+6,none⟩),agg #[int i64 k,string q,slice (b 8).ao w.Xz.length (b 8).cap,slice (b 9).ao w.XK.length (b 9).cap,string f,int i64 l,int i64 c,int i64 0]] a fun e w' =>
   e=returned (tuple #[])/\∃Y,aW w' n o d D { w with XQ:=w.XQ++[⟨k,q,w.Xz,w.XK,⟨f,l,c⟩,0⟩] } Y/\aD n a b w' Y/\∀j,j<10->j≠6->Y j=b j:=by
 obtain⟨i0,hi,a6,ax,a7⟩:=TZ kg;obtain⟨i1,ap,a4,av,a5⟩:=TZ QK;obtain⟨i2,a0,a1,a2,a3⟩:=TZ Se;have be:=hs.Xz;have bf:=hs.XK;have bd:=hs.XQ;have m1:=fun a=>dG (P:=prog) a 61 9 i0 _ underlying61 hi a6 w.Xz.length 1 ax (by rw[a7];omega) (by omega);have m2:=fun a=>dG (P:=prog) a 156 229 i1 _ underlying156 ap a4 w.XK.length 4 av (by rw[a5];omega) (by omega);obtain⟨E,B⟩:∃mc,mc=madeCells (string ⟨#[]⟩).cells (w.Xz.length*1):=⟨_,rfl⟩
 obtain⟨N,C⟩:∃mc,mc=madeCells (agg #[string ⟨#[]⟩,string ⟨#[]⟩,int i64 0,int i64 0]).cells (w.XK.length*4):=⟨_,rfl⟩
 have z1:E.size=w.Xz.length*1:=by rw[B,U7]
 have z2:N.size=w.XK.length*4:=by rw[C,U7]
 rw[<-B]at m1;rw[<-C]at m2;clear B C;obtain⟨bx,s⟩:∃bx:Array Value,bx=#[int i64 k,string q,slice (b 8).ao w.Xz.length (b 8).cap,slice (b 9).ao w.XK.length (b 9).cap,string f,int i64 l,int i64 c,int i64 0]:=⟨_,rfl⟩
 obtain⟨O,x⟩:∃O,O=(a.alloc (.cells #[int i64 k,string q,slice (b 8).ao w.Xz.length (b 8).cap,slice (b 9).ao w.XK.length (b 9).cap,string f,int i64 l,int i64 c,int i64 0] 158)).alloc (.cells E 9):=⟨_,rfl⟩
 have K2:ae [] a O:=by rw[x];exact(bR.alloc _).alloc _
 have D2:=h.XE K2;have Z2:O.heap.size=a.heap.size+2:=by rw[x];simp
 have B2:O.heap[a.heap.size]?=some (.cells bx 158):=by
  rw[x,s];exact(bR.alloc _).get (Tu _ _) (by simp)
 have G2:O.heap[a.heap.size+1]?=some (.cells E 9):=by
  rw[x];have:=Tu (a.alloc (.cells #[int i64 k,string q,slice (b 8).ao w.Xz.length (b 8).cap,slice (b 9).ao w.XK.length (b 9).cap,string f,int i64 l,int i64 c,int i64 0] 158)) (.cells E 9);simpa using this
 have ac:Xr _:=x.symm;have ag:Xr ((prog.info? (aE w.Xz).e).map (·.size)=some (aE w.Xz).size):=ci (by simp[aE,hi,ax]);have ai:Xr ((prog.info? (iB w.XK).e).map (·.size)=some (iB w.XK).size):=ci (by simp[iB,ap,av]);clear x;go_enter func269,ntmps269;go_upto_region 2 with fail
 rw[ac.o];have b2:O.cell? ⟨a.heap.size,2,none⟩=some (slice (b 8).ao w.Xz.length (b 8).cap):=by rw[ah B2,s];rfl
 clear ac m1;obtain⟨w3,al,R,T,M⟩:=rm (P:=prog) O 61 61 3 (a.heap.size+1) w.Xz.length (b 8) (aE w.Xz) E 9 underlying61 ag.o G2 (D2.X9 8) z1 (mM _);simp only[aE]at al R;have K3:ae [] a w3:=((K2.mono (S':=[a.heap.size+1]) (by simp)).trans T).mono (by simp);have B3:=T.get B2 (by simp);rw[Z2]at M;have b3:w3.cell? ⟨a.heap.size,3,none⟩=some (slice (b 9).ao w.XK.length (b 9).cap):=by rw[ah B3,s];rfl
 clear G2 B2 D2 T K2;obtain⟨Q,z⟩:∃Q,Q=w3.alloc (.cells N 229):=⟨_,rfl⟩
 have K4:ae [] a Q:=by rw[z];exact K3.alloc _
 have U:=fI z.symm;have D4:=h.XE K4;have B4:=U.get B3 (by simp);have S4:=U.get R (by simp);have G4:Q.heap[a.heap.size+2]?=some (.cells N 229):=by rw[z,<-M];exact Tu _ _
 have ad:Xr _:=z.symm;have Z4:Q.heap.size=a.heap.size+3:=by rw[z];simp[M]
 clear z U;go_upto_region 4 with fail
 clear al b2;rw[ad.o];have b4:Q.cell? ⟨a.heap.size,3,none⟩=some (slice (b 9).ao w.XK.length (b 9).cap):=by rw[ah B4,s];rfl
 clear ad m2 b3;obtain⟨X,an,S,K,ba⟩:=rm (P:=prog) Q 156 156 3 (a.heap.size+2) w.XK.length (b 9) (iB w.XK) N 229 underlying156 ai.o G4 (D4.X9 9) z2 (GY _);simp only[iB]at an S;have K5:ae [] a X:=((K4.mono (S':=[a.heap.size+2]) (by simp)).trans K).mono (by simp);have W:=K.get B4 (by simp);have S5:=K.get S4 (by simp);rw[Z4]at ba;clear G4 B4 D4 K K4 S4;have az:X.cell? ⟨a.heap.size,2,none⟩=some (slice (b 8).ao w.Xz.length (b 8).cap):=by rw[ah W,s];rfl
 have aS:X.cell? ⟨a.heap.size,3,none⟩=some (slice (b 9).ao w.XK.length (b 9).cap):=by rw[ah W,s];rfl
 have aT:X.cell? ⟨a.heap.size,7,none⟩=some (int i64 0):=by rw[ah W,s];rfl
 have fx:=am W;obtain⟨F,A⟩:∃F,F=((X.setCell ⟨a.heap.size,2,none⟩ (slice (some ⟨a.heap.size+1,0,none⟩) w.Xz.length w.Xz.length)).setCell ⟨a.heap.size,3,none⟩ (slice (some ⟨a.heap.size+2,0,none⟩) w.XK.length w.XK.length)).setCell ⟨a.heap.size,7,none⟩ (int i64 0):=⟨_,rfl⟩
 have af:Xr _:=A.symm;have K8:ae [] a F:=by rw[A];exact((K5.sr1 (Tq _) _).sr1 (Tq _) _).sr1 (Tq _) _
 have V:ae [a.heap.size] X F:=by rw[A];exact(((ae.refl _ _).sl1 _).sl1 _).sl1 _
 have B8:F.heap[a.heap.size]?=some (.cells (Lj ⟨k,q,w.Xz,w.XK,⟨f,l,c⟩,0⟩ ⟨some ⟨a.heap.size+1,0,none⟩,w.Xz.length⟩ ⟨some ⟨a.heap.size+2,0,none⟩,w.XK.length⟩).toArray 158):=by
  rw[A,ab (ab (ab W _ _) _ _),s];rfl
 have S8:=V.get S5 (by simp);have P8:=V.get S (by simp);clear A V S5 S W;go_upto_region 8 with fail
 rw[af.o];clear af an az aS aT fx b4 K5 s R M B3 K3;have y:=fun j v (hv:(Lj ⟨k,q,w.Xz,w.XK,⟨f,l,c⟩,0⟩ ⟨some ⟨a.heap.size+1,0,none⟩,w.Xz.length⟩ ⟨some ⟨a.heap.size+2,0,none⟩,w.XK.length⟩)[j]?=some v)=>(ah B8 j).trans (by simpa using hv);have y0:=y 0 _ rfl;have y1:=y 1 _ rfl;have y2:=y 2 _ rfl;have y3:=y 3 _ rfl;have y4:=y 4 _ rfl;have y5:=y 5 _ rfl;have y6:=y 6 _ rfl;have y7:=y 7 _ rfl;simp only at y0 y1 y2 y3 y4 y5 y6 y7;clear y;have D8:=h.XE K8;have q6:=D8.cellAt H ho 6 (by omega);simp only[cK,List.getElem?_cons_succ,List.getElem?_cons_zero]at q6;have bc:=D8.lt;obtain⟨i,p⟩:∃i:List Value,i=Lj ⟨k,q,w.Xz,w.XK,⟨f,l,c⟩,0⟩ ⟨some ⟨a.heap.size+1,0,none⟩,w.Xz.length⟩ ⟨some ⟨a.heap.size+2,0,none⟩,w.XK.length⟩:=⟨_,rfl⟩
 obtain⟨G,I⟩:∃G,G=(F.alloc (.cells #[int i64 k,string q,slice (some ⟨a.heap.size+1,0,none⟩) w.Xz.length w.Xz.length,slice (some ⟨a.heap.size+2,0,none⟩) w.XK.length w.XK.length,string f,int i64 l,int i64 c,int i64 0] 158)).drew:=⟨_,rfl⟩
 have K9:ae [] F G:=by rw[I];exact(bR.alloc _).drew
 have G9:G.heap[F.heap.size]?=some (.cells i.toArray 158):=by rw[I,p];exact Tu _ _
 have O1:aB G ⟨some ⟨a.heap.size+1,0,none⟩,w.Xz.length⟩ (aE w.Xz):=aB.made (r:=aE w.Xz) (K9.get S8 (by simp)) (Em _) (by simp only[aE];unfold maxLen;omega);have O2:aB G ⟨some ⟨a.heap.size+2,0,none⟩,w.XK.length⟩ (iB w.XK):=aB.made (r:=iB w.XK) (K9.get P8 (by simp)) (GX _) (by simp only[iB];unfold maxLen;omega);have D9:Xr (aW G n o d D w b):=D8.XE K9;have s2:Xr (∀j u,i[j]?=some u->G.cell? ((⟨F.heap.size,0,none⟩:Addr).add j)=some u):=by
  intro j u hj;rw[bY,ah G9];simpa using hj
 have s3:Xr (∀u∈i,u.oneCell'=true):=by rw[p];exact Qn _ _ _
 have s4:Xr ((jm w.XQ b).n+1<=maxLen):=by show _<=_;simp only[jm];unfold maxLen;omega
 have s5:Xr (((jm w.XQ b).n+1)*112<=140737488355328):=by show _<=_;simp only[jm];omega
 have AF:=fun(g t:Nat) (w1:World) (L:aB w1 ⟨some ⟨g,0,none⟩,t⟩ ⟨(jm w.XQ b).e,(jm w.XQ b).size,(jm w.XQ b).n+1,(jm w.XQ b).xs++i⟩) J m=>h.addst (K8.trans K9) ho ⟨k,q,w.Xz,w.XK,⟨f,l,c⟩,0⟩ ⟨some ⟨a.heap.size+1,0,none⟩,w.Xz.length⟩ ⟨some ⟨a.heap.size+2,0,none⟩,w.XK.length⟩ (a.heap.size+1) (a.heap.size+2) rfl rfl (by omega) (by omega) (by omega) O1 O2 g t (w1:=w1) (by rw[<-p];exact L) J m;have Z:Xr _:=AF;have ar:Xr (i.length=1*(jm w.XQ b).size):=ci (by rw[p];rfl);rw[I]at D9 s2 Z;clear AF O1 O2 G9 K9 I G p P8 S8 B8;go_region_law (refine dd rfl (.tmp 31) (.tmp 33) 74 rfl i2 (agg #[int i64 0,string ⟨#[]⟩,slice none 0 0,slice none 0 0,string ⟨#[]⟩,int i64 0,int i64 0,int i64 0]) 112 (b 6) (jm w.XQ b) underlying74 a0 a1 a2 a3 rfl (WS 7) (by simp[Act.eval] <;> rfl) (D9.o.X9 6) ⟨F.heap.size,0,none⟩ 1 1 i (by simp[Act.eval]) ar.o s2.o s3.o TR s4.o s5.o ?_;intro g t w1 L J m;obtain⟨k5,f5,HP⟩:=Z.o g t w1 L J (by simpa using m);clear L J m)
 all_goals go_wp2
 all_goals go_end0
 all_goals
  obtain⟨Y,P1,P2,P3⟩:=HP.o;exact⟨rfl,Y,P1,P2,P3⟩
def nG(d:Db)(p:Pl):Db:={ d with XQ:=d.XQ++[⟨d.XU,d.XV,d.Xz,d.XK,p,0⟩] }
def nX(d:Db):Db:=if(d.XU==2)=true/\1<d.Xz.length then { d with XL:=d.XL++[d.Xz.getD 1 ⟨#[]⟩] } else d
def aX(d:Db)(p:Pl):Db :=
 if(d.XU==7)=true then { d with XB:=d.XB++d.Xz }
 else if(d.XU==8)=true then eF d d.Xz.length
 else nG (nX d) p
theorem AN(D:aW i L s z4 y9 l x)(e:z4.length=z0)(c:x 8=yd 8)(d:x 9=yd 9) :
  i.cell? ⟨L,z0+8,none⟩=some (int i64 l.XU)/\i.cell? ⟨L,z0+9,none⟩=some (string l.XV)/\i.cell? ⟨L,z0+10,none⟩=some (slice (yd 8).ao l.Xz.length (yd 8).cap)/\i.cell? ⟨L,z0+12,none⟩=some (slice (yd 9).ao l.XK.length (yd 9).cap):=by
 obtain⟨k,m,n,o,p,q,r,t,g,j,a,f,b⟩:=D.cells z0 e;rw[c]at a;rw[d]at b;exact⟨g,j,a,b⟩
theorem AM{f:Xs}{l c:Int}(T:aD L i x z6 yd)(B:i.heap[s]?=some (.cells #[string f,int i64 l,int i64 c] 36))(b:s≠L)(d:∀k,ik x k->k≠s) :
  z6.cell? ⟨s,0,none⟩=some (string f)/\z6.cell? ⟨s,1,none⟩=some (int i64 l)/\z6.cell? ⟨s,2,none⟩=some (int i64 c):=by
 have a:=T.1.get B (by rintro (e | e);exact b e;exact d _ e rfl);refine⟨?_,?_,?_⟩ <;> rw[ah a] <;> rfl
theorem CU(c:Int)(g:World)(h:aW g n o d D w b)(i:d.length=H)(hm:0<w.Xz.length)(f:gF w 10000000) :
  Calls prog 253 #[pointer (some ⟨n,H,none⟩),agg #[string T,int i64 k,int i64 c]] g fun e a=>e=returned (tuple #[])/\∃H',aW a n o d D (aX w ⟨T,k,c⟩) H'/\aD n g b a H':=by
 obtain⟨W,Y⟩:∃W,W=g.alloc (.cells #[string T,int i64 k,int i64 c] 36):=⟨_,rfl⟩
 have K:=fI Y.symm;have s:=h.XE K;have M:Xr _:=Y.symm;have B:=f9 Y.symm;have m:g.heap.size≠n:=by have:=h.lt;omega
 have A:Xr (∀q,ik b q->q≠g.heap.size):=fun q hk=>by have:=h.inlt hk;omega
 have p:=(show Xr (gF w 100000000) from⟨by have:=f.XH;omega,by have:=f.XB;omega,by have:=f.XC;omega,by have:=f.XI;omega,by have:=f.XL;omega,by have:=f.XW;omega,by have:=f.XQ;omega,by have:=f.rbl;omega,by have:=f.Xz;omega,by have:=f.XK;omega⟩);clear Y;obtain⟨q0,q1,q2,q3,q4,q5,q6,q7,q8,q9,r,F,G⟩:=s.cells H i;clear q0 q1 q2 q3 q4 q5 q6 q7 F;have al:=f.Xz;cases Z:(w.XU==7)
 ·cases k8:(w.XU==8)
  ·by_cases J:(w.XU==2)=true/\1<w.Xz.length
   ·have l:Xr (aX w ⟨T,k,c⟩=nG { w with XL:=w.XL++[w.Xz.getD 1 ⟨#[]⟩] } ⟨T,k,c⟩):=(by show aX w ⟨T,k,c⟩=_;unfold aX nX;rw[Z,k8,Tr J];simp);obtain⟨O,C⟩:=J;have hx:w.Xz.getD 1 ⟨#[]⟩=w.Xz[1]:=(by rw[To,Tn C];rfl);rw[hx]at l;have E:aB W (b 8) (aE w.Xz):=s.X9 8;rcases E.XP with ⟨_,h0,_⟩ | ⟨g8,af,e8,-,ag,-⟩
    ·have:w.Xz.length=0:=h0;omega
    ·have c1:=E.cell e8 1 (string w.Xz[1]) (uG w.Xz 1 C);rw[e8]at r;have an:=f.XL;clear E hx;generalize w.Xz[1]=x at *;go_enter func253,ntmps253;(go_upto_region 1 with fail);rw[M.o];(go_upto_region 3 with fail);go_region_with (go_at_call 268;refine(AU n o H d D w b x _ (by exact s.XE bR.drew) i (by omega)).mono ?_;rintro e V ⟨rfl,j,I,v⟩)
     all_goals
      have z:=A;have X:=v.1.get (by exact B) (by rintro (e | e);exact m e;exact z.o _ e rfl);have ai:=aj B;have N:Xr (∀q,ik j q->q≠g.heap.size):=fun q hk=>by
       rcases v.2 q hk with h' | h'
       ·exact z.o q h'
       ·rintro rfl;have h2:W.heap.size<=g.heap.size:=h';omega
      have ac:Xr _:=(v.first bR.drew).first K;clear q8 q9 r G c1 v s B;obtain⟨q0,q1,q2,q3,q4,q5,q6,q7,q8,q9,r,F,G⟩:=I.cells H i;clear q0 q1 q2 q3 q4 q5 q6 q7 F;simp only at q8 q9 r G;have P:V.cell? ⟨g.heap.size,0,none⟩=some (string T):=(by rw[ah X];rfl);have Q:V.cell? ⟨g.heap.size,1,none⟩=some (int i64 k):=(by rw[ah X];rfl);have R:V.cell? ⟨g.heap.size,2,none⟩=some (int i64 c):=(by rw[ah X];rfl);have ad:=(show Xr (gF { w with XL:=w.XL++[x] } 100000000) from⟨by have:=f.XH;simp only;omega,by have:=f.XB;simp only;omega,by have:=f.XC;simp only;omega,by have:=f.XI;simp only;omega,by simp;omega,by have:=f.XW;simp only;omega,by have:=f.XQ;simp only;omega,by have:=f.rbl;simp only;omega,by have:=f.Xz;simp only;omega,by have:=f.XK;simp only;omega⟩)
     all_goals go_upto_region 4 with fail
     all_goals go_region_held3 (fun a=>a.cell? ⟨n,H+8,none⟩=some (int i64 w.XU)/\a.cell? ⟨n,H+9,none⟩=some (string w.XV)/\a.cell? ⟨n,H+10,none⟩=some (slice (j 8).ao w.Xz.length (j 8).cap)/\a.cell? ⟨n,H+12,none⟩=some (slice (j 9).ao w.XK.length (j 9).cap)/\a.cell? ⟨g.heap.size,0,none⟩=some (string T)/\a.cell? ⟨g.heap.size,1,none⟩=some (int i64 k)/\a.cell? ⟨g.heap.size,2,none⟩=some (int i64 c)) (go_keep) (first | (go_at_call 269;refine(te n o H d D { w with XL:=w.XL++[x] } j w.XU w.XV T k c _ (by exact I.XE bR.drew) i ad.o).mono ?_;rintro e w9 ⟨rfl,L,t,y,u⟩;obtain⟨r8,r9,S,U⟩:=AN t i (u 8 (by omega) (by omega)) (u 9 (by omega) (by omega));obtain⟨P,Q,R⟩:=AM y (by exact X) m N.o))
     all_goals go_wp2
     all_goals go_end0
     all_goals exact⟨rfl,L,by rw[l.o];exact t,aD.trans ac.o (y.first bR.drew)⟩
   ·have l:Xr (aX w ⟨T,k,c⟩=nG w ⟨T,k,c⟩):=(by show aX w ⟨T,k,c⟩=_;unfold aX nX;rw[Z,k8,Tp J];simp);cases O:(w.XU==2)
    ·clear J;go_enter func253,ntmps253;(go_upto_region 1 with fail);rw[M.o];(go_upto_region 4 with fail);obtain⟨P,Q,R⟩:=wn B;go_region_held3 (fun a=>a.cell? ⟨n,H+8,none⟩=some (int i64 w.XU)/\a.cell? ⟨n,H+9,none⟩=some (string w.XV)/\a.cell? ⟨n,H+10,none⟩=some (slice (b 8).ao w.Xz.length (b 8).cap)/\a.cell? ⟨n,H+12,none⟩=some (slice (b 9).ao w.XK.length (b 9).cap)/\a.cell? ⟨g.heap.size,0,none⟩=some (string T)/\a.cell? ⟨g.heap.size,1,none⟩=some (int i64 k)/\a.cell? ⟨g.heap.size,2,none⟩=some (int i64 c)) (go_keep) (first | (go_at_call 269;refine(te n o H d D w b w.XU w.XV T k c _ (by exact s.XE bR.drew) i p.o).mono ?_;rintro e w9 ⟨rfl,L,t,y,u⟩;obtain⟨r8,r9,S,U⟩:=AN t i (u 8 (by omega) (by omega)) (u 9 (by omega) (by omega));obtain⟨P,Q,R⟩:=AM y (by exact B) m A.o))
     all_goals go_wp2
     all_goals go_end0
     all_goals exact⟨rfl,L,by rw[l.o];exact t,(y.first bR.drew).first K⟩
    ·have C:¬1<w.Xz.length:=fun hh=>J ⟨O,hh⟩;clear J;go_enter func253,ntmps253;(go_upto_region 1 with fail);rw[M.o];(go_upto_region 4 with fail);obtain⟨P,Q,R⟩:=wn B;go_region_held3 (fun a=>a.cell? ⟨n,H+8,none⟩=some (int i64 w.XU)/\a.cell? ⟨n,H+9,none⟩=some (string w.XV)/\a.cell? ⟨n,H+10,none⟩=some (slice (b 8).ao w.Xz.length (b 8).cap)/\a.cell? ⟨n,H+12,none⟩=some (slice (b 9).ao w.XK.length (b 9).cap)/\a.cell? ⟨g.heap.size,0,none⟩=some (string T)/\a.cell? ⟨g.heap.size,1,none⟩=some (int i64 k)/\a.cell? ⟨g.heap.size,2,none⟩=some (int i64 c)) (go_keep) (first | (go_at_call 269;refine(te n o H d D w b w.XU w.XV T k c _ (by exact s.XE bR.drew) i p.o).mono ?_;rintro e w9 ⟨rfl,L,t,y,u⟩;obtain⟨r8,r9,S,U⟩:=AN t i (u 8 (by omega) (by omega)) (u 9 (by omega) (by omega));obtain⟨P,Q,R⟩:=AM y (by exact B) m A.o))
     all_goals go_wp2
     all_goals go_end0
     all_goals exact⟨rfl,L,by rw[l.o];exact t,(y.first bR.drew).first K⟩
  ·have l:Xr (aX w ⟨T,k,c⟩=eF w w.Xz.length):=(by show aX w ⟨T,k,c⟩=_;unfold aX;rw[Z,k8];simp);go_enter func253,ntmps253;(go_upto_region 1 with fail);rw[M.o];go_wp2_with fail;go_region_with (go_at_call 267;refine(uN n o H d D w b _ (by exact s.XE bR.drew) i hm p.o).mono ?_;rintro e V ⟨rfl,j,I,v⟩)
   all_goals go_wp2
   all_goals go_end0
   all_goals exact⟨rfl,j,by rw[l.o];exact I,(v.first bR.drew).first K⟩
 ·have l:Xr (aX w ⟨T,k,c⟩={ w with XB:=w.XB++w.Xz }):=by show aX w ⟨T,k,c⟩=_;unfold aX;rw[Z];simp
  go_enter func253,ntmps253;go_upto_region 1 with fail
  rw[M.o];go_wp2_with fail;go_region_with (go_at_call 266;refine(uM n o H d D w b _ (by exact s.XE bR.drew) i hm p.o).mono ?_;rintro e V ⟨rfl,j,I,v⟩)
  all_goals go_wp2
  all_goals go_end0
  all_goals exact⟨rfl,j,by rw[l.o];exact I,(v.first bR.drew).first K⟩
end Go.Proofs.YtnbhnocdhbcbcaaGreat
