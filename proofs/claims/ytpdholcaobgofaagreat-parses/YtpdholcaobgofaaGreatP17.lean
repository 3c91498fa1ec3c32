import Derived.Deep.RegionHeld3
import Derived.Laws.OwnMore
import Derived.BigQuiet
import Derived.Laws.IdiomStrings
import Derived.Deep.RegionLaw
import Derived.Test.YtpdholcaobgofaaGreatP16
namespace Go.Proofs.YtpdholcaobgofaaGreat
open Go.RowKit Tryz
open Value IntKind Ending
set_option maxHeartbeats 0
variable{d s:Nat}{I:Xr}{n v L:World}{i t c:Hd}{z1:Xs}{z0:Xt}{o:Xu}(D x:Nat)(k:Xr)(T:Nat)(b:List Tk)(M:Xt)(N:Nat)(w:List Sm)(z2:Xt)(y:Nat)(H:Xr)(l:Nat)(S:World)
set_option maxRecDepth 100000
theorem vo(D:H.size<=1073741824) :
  Calls prog 51 #[string H] S fun e z=>e=returned (bool (ip H))/\z=S:=by
 by_cases t:H.size=0
 ·have l:Xq (ip H=false):=oE H (XQ (by omega));have n:((H.size:Int)==0)=true:=by simpa using t
  go_enter func51,ntmps51;go_wp2;go_ret;exact⟨aH l.o.symm,rfl⟩
 ·have n:((H.size:Int)==0)=false:=by simpa using t
  by_cases A:8<H.size
  ·have l:Xq (ip H=false):=oE H (XK (by omega));have p:(8:Int)<(H.size:Int):=(by omega);go_enter func51,ntmps51;go_wp2;go_ret;exact⟨aH l.o.symm,rfl⟩
  ·have p:¬(8:Int)<(H.size:Int):=(by omega);have s:Xq (ip H=(List.range H.size).all (fun i=>mg (aL H i))):=by
    show _=_;unfold ip;rw[show decide (1<=H.size)=true by simp;omega,show decide (H.size<=8)=true by simp;omega];rfl
   go_enter func51,ntmps51;go_wp2
   go_loopg [3] H.size (fun g i wr=>∃k:Nat,k<=H.size/\g=H.size-k/\i=int i64 k/\Xq (∀i,i<k->mg (aL H i)=true)/\wr=S)
   ·exact⟨0,by omega,by omega,rfl,fun i h=>by omega,rfl⟩
   obtain⟨k,C,B,rfl,b,rfl⟩:=hrel;by_cases d:k<H.size
   ·have c:Xq (mg (H[k].toNat:Int)=(gG (H[k].toNat:Int) && !((H[k].toNat:Int)==36))):=rfl;have j:Xq (mg (H[k].toNat:Int)=false->ip H=false):=fun q=>by rw[s.o];exact JC k d (by rw[cw H k d];exact q)
    have m:Xq (mg (H[k].toNat:Int)=true->∀i,i<k+1->mg (aL H i)=true):=fun q i x=>by
     by_cases e:i=k
     ·subst e;rw[cw H i d];exact q
     ·exact b.o i (by omega)
    have y:(k:Int)<(H.size:Int):=(by omega);cases r:gG (H[k].toNat:Int)
    ·have f:Xq _:=j.o (by rw[c.o,r];rfl);go_wp2_with (go_at_call 77;refine(m8 _ _).mono ?_;rintro e v ⟨rfl,a⟩;rw[a];clear a);go_ret;exact⟨aH f.o.symm,rfl⟩
    ·cases u:((H[k].toNat:Int)==36)
     ·have f:Xq _:=m.o (by rw[c.o,r,u];rfl);go_wp2_with (go_at_call 77;refine(m8 _ _).mono ?_;rintro e v ⟨rfl,a⟩;rw[a];clear a);go_roundg (H.size-(k+1))
      ·exact⟨k+1,by omega,rfl,by go_num,f,rfl⟩
      omega
     ·have f:Xq _:=j.o (by rw[c.o,r,u];rfl);go_wp2_with (go_at_call 77;refine(m8 _ _).mono ?_;rintro e v ⟨rfl,a⟩;rw[a];clear a);go_ret;exact⟨aH f.o.symm,rfl⟩
   ·have w:Xq (ip H=true):=(by show _=_;rw[s.o];exact DW (fun i x=>b.o i (by omega)));go_wp2;go_ret;exact⟨aH w.o.symm,rfl⟩
set_option maxRecDepth 512
theorem Gw(f:k.size<=1073741824)(l:H.size<=4294967296) :
  Calls prog 33 #[string k,string H] S fun e j=>e=returned (int i64 (dE k H))/\j=S:=by
 cases c:ip k
 ·have b:Xq (dE k H=2):=by show _=_;unfold dE;rw[XA c]
  go_enter func33,ntmps33;go_wp2_with (go_at_call 51;refine(vo k _ f).mono ?_;rintro e i ⟨rfl,a⟩;rw[a];clear a);go_ret;exact⟨au b.o.symm,rfl⟩
 ·by_cases g:1024<H.size
  ·have b:Xq (dE k H=3):=(by show _=_;unfold dE;rw[Xz (by rw[c];simp),XA g]);have d:(1024:Int)<(H.size:Int):=(by omega);go_enter func33,ntmps33;go_wp2_with (go_at_call 51;refine(vo k _ f).mono ?_;rintro e i ⟨rfl,a⟩;rw[a];clear a);go_ret;exact⟨au b.o.symm,rfl⟩
  ·have b:Xq (dE k H=0):=(by show _=_;unfold dE;rw[Xz (by rw[c];simp),Xz g]);have d:¬(1024:Int)<(H.size:Int):=(by omega);go_enter func33,ntmps33;go_wp2_with (go_at_call 51;refine(vo k _ f).mono ?_;rintro e i ⟨rfl,a⟩;rw[a];clear a);go_ret;exact⟨au b.o.symm,rfl⟩
structure pE(T:List Tk)(S:List Sm)(n:Nat):Prop where
 ok:jF T S n
 sm:S.length<=10000
 tm:T.length<=10000
 e:∀j,j<n->cD (ay S j).k=false->dA T (ay S j).h
 f:oi T S n
theorem pE.mono{T:List Tk}{S:List Sm}(h:pE T S d)(g:s<=d):pE T S s :=
 ⟨⟨XF g h.ok.m,h.ok.s,h.ok.t,fun j b=>h.ok.c j (by omega),fun j b=>h.ok.v j (by omega),fun j b=>h.ok.a j (by omega)⟩,h.sm,h.tm,fun j b=>h.e j (by omega),fun j b=>h.f j (by omega)⟩
def apP(T:List Tk)(S:List Sm)(x y:Xr)(a j:Nat):Bool:=((ay S j).k.toList == [36,100])&&(!(x.toList==y.toList)&&(aN (bC T (ay S j).h) x&&(aN (bC T (ay S j).h) y&&bn S j a)))
def jq(T:List Tk)(S:List Sm)(x y:Xr)(a:Nat):Bool:=(List.range a).any (apP T S x y a)
theorem iq{l:List UInt8}(h:(I.toList==l)=true)(a:(l == [36,46])=false/\(l == [36,123])=false/\(l == [36,125])=false):cD I=false:=by
 have:I.toList=l:=by simpa using h
 unfold cD;rw[this,a.1,a.2.1,a.2.2];rfl
set_option maxRecDepth 100000
theorem zM(T:List Tk)(r:Xt)(W:Nat)(S:List Sm)(U:Xt)(V:Nat)(w:World)(hD:gM w D T r W S U V)(G:pE T S x) :
  Calls prog 93 #[pointer (some ⟨D,0,none⟩),string k,string H,int i64 x] w fun e I=>e=returned (bool (jq T S k H x))/\aa [] w I:=by
 have P:Xq _:=hD;have hn:=G.ok.m;have hS:=G.ok.s;have hT:=G.ok.t;have Q:Xq _:=G;clear hD G;go_enter func93,ntmps93;go_wp2
 go_loopg [9] x (fun g i wr=>∃a:Nat,a<=x/\g=x-a/\i=int i64 a/\Xq (∀j,j<a->apP T S k H x j=false)/\Xq (aa [] w wr))
 ·exact⟨0,by omega,rfl,rfl,(fun j hj=>by omega),aa.refl _ _⟩
 obtain⟨a,hk,hg,rfl,J,u⟩:=hrel;by_cases E:a<x
 ·have f:a<S.length:=by omega
  have A:Xq _:=gM.Zbj P.o u.o;obtain⟨-,c1,hb⟩:=A.o.cells;obtain⟨gs,rfl,ag,-,-,-,q3⟩:=A.o.s.2 a S[a] (Xv f);have ai:(a:Int)<(x:Int):=by omega
  have ad:(a:Int)<S.length:=by omega
  have n:Xq (apP T S k H x a=((S[a].k.toList == [36,100])&&(!(k.toList==H.toList)&&(aN (bC T S[a].h) k&&(aN (bC T S[a].h) H&&bn S a x))))):=cm (by unfold apP;rw[bA S a f]);have C:Xq ((S[a].k.toList == [36,100])=true->dA T S[a].h):=fun h=>by have:=Q.o.e a E;rw[<-bA S a f]at this;exact this (iq h (by decide))
  have O:Xq ((S[a].k.toList == [36,100])=true->∀c,aa [] w c->Calls prog 71 #[pointer (some ⟨D,0,none⟩),int i64 a] c fun e I=>∃X,e=returned (slice X.ao (bC T S[a].h).length X.cap)/\xf c I X (bC T S[a].h)):=fun h c Z=>jI D a T r W S _ V c (gM.Zbj P.o Z) f hT (C.o h);have af:=jO T S[a].h;have v:Xq (∀c,aa [] w c->Calls prog 91 #[pointer (some ⟨D,0,none⟩),int i64 a,int i64 x] c fun e I=>e=returned (bool (bn S a x))/\I=c):=fun c Z=>mR D a x T r W S _ V c (gM.Zbj P.o Z) (by omega) hn hS;clear C;generalize bC T S[a].h=B at *;generalize S[a].k=sk at *;obtain⟨ac,R⟩:=aP (bn S a x);rw[R.o]at n v;cases Y:(sk.toList == [36,100])
  ·have d:Xq _:=fm J.o (by rw[n.o,Y];rfl);go_wp2;go_roundg (x-(a+1))
   ·exact⟨a+1,by omega,rfl,by go_num,d,u⟩
   omega
  ·cases h2:(k.toList==H.toList)
   ·have N:Xq _:=O.o Y;(go_upto_region 6 with (go_at_call 71;refine(N.o _ (by exact u.o)).mono ?_;rintro e w2 ⟨K,rfl,L⟩));have l:Xq _:=u.o.trans L.Zbw;have y:Xq _:=(kH B K.ao K.cap k w2 L.ZbH.srcX (by omega));have z:Xq _:=(kH B K.ao K.cap H w2 L.ZbH.srcX (by omega));have M:Xq _:=v.o w2 l.o;clear L c1 q3;obtain⟨p,Hp⟩:=aP (aN B k);rw[Hp.o]at y n;obtain⟨q,Hq⟩:=aP (aN B H);rw[Hq.o]at z n;(go_upto_region 7 with (go_at_call 92;refine Xx y.o ?_;rintro e w9 ⟨rfl,b⟩;rw[b];clear b));(go_upto_region 8 with (go_at_call 92;refine Xx z.o ?_;rintro e w9 ⟨rfl,b⟩;rw[b];clear b));(go_upto_region 9 with (go_at_call 91;refine Xx M.o ?_;rintro e w9 ⟨rfl,b⟩;rw[b];clear b));cases F:(p&&(q&&ac))
    ·have d:Xq _:=fm J.o (by rw[n.o,F];simp);cases p <;> cases q <;> cases ac <;> first | (exact absurd F (by decide)) | skip
     all_goals
      go_wp2;go_roundg (x-(a+1))
      ·exact⟨a+1,by omega,rfl,by go_num,d,l⟩
      omega
    ·have d:Xq (jq T S k H x=true):=pK a E (by rw[n.o,Y,h2,F];rfl);simp only[Bool.and_eq_true]at F;obtain⟨rfl,rfl,rfl⟩:=F;go_wp2;go_ret;exact⟨aH d.o.symm,l.o⟩
   ·have d:Xq _:=fm J.o (by rw[n.o,h2];simp);go_wp2;go_roundg (x-(a+1))
    ·exact⟨a+1,by omega,rfl,by go_num,d,u⟩
    omega
 ·have d:Xq (jq T S k H x=false):=zL (fun j hj=>J.o j (by omega));go_wp2;go_ret;exact⟨aH d.o.symm,u.o⟩
theorem xf.toL(a:xf n v i z1):iG n v i (aE z1):=⟨a.ZbH,a.far,a.Zbw⟩
def n8(w:World)(ao:Xt)(L:Xu):Prop:=∀(k n:Nat),L[k]?=some n->∃g,ao=some ⟨g,0,none⟩/\g<w.heap.size/\w.cell? ⟨g,k,none⟩=some (int i64 n)
theorem n8.Zbj(h:n8 n z0 o)(k:aa [] n v):n8 v z0 o:=by
 intro j x c;obtain⟨g,e,a,b⟩:=h j x c;exact⟨g,e,XB a k.size,by rw[XJ (k.block g a (by simp))];exact b⟩
theorem iB.Zbj(h:iB n z0 z1)(k:aa [] n v):iB v z0 z1:=by
 intro j x c;obtain⟨g,e,a,b⟩:=h j x c;exact⟨g,e,XB a k.size,by rw[XJ (k.block g a (by simp))];exact b⟩
theorem aD.srcN(d:aD n i (bK o)):n8 n i.ao o:=by
 intro k x c;rcases d.Zbu with ⟨_,b,_⟩ | ⟨g,e,a,f,j,-⟩
 ·have b:o.length=0:=b;have:=(XL.1 c).1;omega
 ·exact⟨g,a,ah f,d.cell a k (int i64 x) (by simp[bK,eR,c])⟩
theorem wP(L:Xu)(n:Nat):(⟨(bK L).e,(bK L).size,(bK L).n+1,(bK L).xs++[int i64 n]⟩:eD)=bK (L++[n]):=by
 simp[bK,eR]
theorem Bd(L M:Xs):(⟨(aE L).e,(aE L).size,(aE L).n+M.length,(aE L).xs++dc M⟩:eD)=aE (L++M):=by
 simp[aE,dc]
theorem ru:(prog.info? 3).map (fun i=>(i.zero,i.size,i.bytes))=some (some (int i64 0),1,8):=by kernel_rfl
theorem iB.cells(h:iB n z0 z1):∀b,z0=some b->∀j u,(dc z1)[j]?=some u->n.cell? (b.add j)=some u:=by
 intro b e j u a;rw[dc,Yi]at a;cases d:z1[j]? with
 | none=>rw[d]at a;cases a
 | some x =>
  rw[d]at a;cases a
  obtain⟨g,f,-,c⟩:=h j x d;rw[e]at f;cases f
  rw[bE];simpa using c
def Cz(S:List Sm)(a j:Nat):Bool:=((ay S j).k.toList == [36,101])&&bn S j a
def ny(T:List Tk)(S:List Sm)(a k:Nat):Xs:=bC T (ay S a).h++((List.range k).filter (Cz S a)).flatMap (fun j=>bC T (ay S j).h)
def Bz(T:List Tk)(S:List Sm)(a:Nat):Xs:=ny T S a a
def vi(T:List Tk)(S:List Sm)(a:Nat)(U:Xs)(j:Nat):Bool:=bn S j a&&(((ay S j).k.toList == [36,101])||(((ay S j).k.toList == [36,102])&&aN U (tS T ((ay S j).h+1))))
def bW(T:List Tk)(S:List Sm)(a:Nat):Xu:=(List.range a).filter (vi T S a (Bz T S a))
theorem Uh(h:Cz w y l=true):ny b w y (l+1)=ny b w y l++bC b (ay w l).h:=by
 unfold ny;rw[jm,XA h,YZ,Y2];simp
theorem WE(h:Cz w y l=false):ny b w y (l+1)=ny b w y l:=by
 unfold ny;rw[jm,Xz (by rw[h];simp),Ya]
theorem U5(c:(I.toList == [36,101])=true)(a:(I.toList == [36,102])=true):False:=by
 have b:I.toList=[36,101]:=by simpa using c
 rw[b]at a;exact absurd a (by decide)
theorem oM(hD:gM S x b M N w z2 l)(X:pE b w T)(hn:T<w.length)(hE:dA b (ay w T).h) :
  Calls prog 61 #[pointer (some ⟨x,0,none⟩),int i64 T] S fun e R=>∃c,e=returned (slice c.ao (bW b w T).length c.cap)/\iG S R c (bK (bW b w T)):=by
 have HD:Xq _:=hD;have hS:=X.ok.s;have hT:=X.ok.t;have bk:=X.sm;have bl:=X.tm;have am:Xq _:=X;have ad:Xq (∀E,aa [] S E->Calls prog 71 #[pointer (some ⟨x,0,none⟩),int i64 T] E fun e R=>∃c,e=returned (slice c.ao (bC b w[T].h).length c.cap)/\xf E R c (bC b w[T].h)):=fun E kx=>jI x T b M N w _ l E (hD.Zbj kx) hn hT (by rw[bA w T hn];exact hE);have K:Xq _:=ad.o S (aa.refl _ _);rw[bA w T hn]at K;have a2:Xq (ny b w T 0=bC b (ay w T).h):=cm (by unfold ny;simp);have bq:=jO b (ay w T).h;obtain⟨iS,bc,av,ax,az⟩:=XV i9;obtain⟨iN,ap,H,I,J⟩:=XV ru;clear hD X ad;generalize bC b (ay w T).h=B0 at *;go_enter func61,ntmps61;go_upto_region 2 with (go_at_call 71;refine Xx K.o ?_;rintro e w0 ⟨h0,rfl,x0⟩)
 have a3:Xq _:=x0.toL;clear x0 K;go_wp2
 go_loopg [5,6] T (fun g u i wr=>∃(k:Nat) (c:Hd) (O:Xs),k<=T/\g=T-k/\u=slice c.ao O.length c.cap/\i=int i64 k/\O.length<=10000*(k+1)/\Xq (O=ny b w T k)/\Xq (iG S wr c (aE O)))
 ·exact⟨0,h0,B0,by omega,rfl,rfl,rfl,by omega,a2.o.symm,a3⟩
 obtain⟨k,c,O,hk,hg,rfl,rfl,hO,G,r⟩:=hrel;by_cases be:k<T
 ·have p:k<w.length:=by omega
  have n:Xq _:=gM.Zbj HD.o r.o.Zbw;obtain⟨-,c1,hb⟩:=n.o.cells;obtain⟨gs,rfl,ba,-,-,-,q3⟩:=n.o.s.2 k w[k] (Xv p);have bd:(k:Int)<(T:Int):=by omega
  have aq:(k:Int)<w.length:=by omega
  have A:Xq (Cz w T k=((w[k].k.toList == [36,101])&&bn w k T)):=cm (by unfold Cz;rw[bA w k p]);have aT:Xq ((w[k].k.toList == [36,101])=true->Calls prog 71 #[pointer (some ⟨x,0,none⟩),int i64 k] wr fun e R=>∃c,e=returned (slice c.ao (bC b w[k].h).length c.cap)/\xf wr R c (bC b w[k].h)):=fun h=>jI x k b M N w _ l wr n.o p hT (by have:=am.o.e k be;rw[<-bA w k p]at this;exact this (iq h (by decide)));have HY:Xq (Cz w T k=true->O++bC b w[k].h=ny b w T (k+1)):=fun h=>by rw[Uh b w T k h,<-G.o,bA w k p]
  have W:Xq (Cz w T k=false->O=ny b w T (k+1)):=fun h=>by rw[WE b w T k h,<-G.o]
  have bg:=jO b w[k].h;have j:Xq _:=(mR x k T b M N w _ l wr n.o (by omega) (by omega) hS);generalize bC b w[k].h=B at *;generalize w[k].k=Y at *;obtain⟨ac,Q⟩:=aP (bn w k T);rw[Q.o]at A j;cases F:(Y.toList == [36,101])
  ·have y:Xq _:=W.o (by rw[A.o,F];rfl);go_wp2_with (go_at_call 91;refine Xx j.o ?_;rintro e V ⟨rfl,a⟩;rw[a];clear a);go_roundg (T-(k+1))
   ·exact⟨k+1,c,O,by omega,rfl,rfl,by go_num,by omega,y,r⟩
   omega
  ·cases ac
   ·have y:Xq _:=W.o (by rw[A.o,F];rfl);go_wp2_with (go_at_call 91;refine Xx j.o ?_;rintro e V ⟨rfl,a⟩;rw[a];clear a);go_roundg (T-(k+1))
    ·exact⟨k+1,c,O,by omega,rfl,rfl,by go_num,by omega,y,r⟩
    omega
   ·have y:Xq _:=HY.o (by rw[A.o,F];rfl);have aS:Xq _:=aT.o F;(go_upto_region 8 with (first | (go_at_call 91;refine Xx j.o ?_;rintro e V ⟨rfl,a⟩;rw[a];clear a) | (go_at_call 71;refine Xx aS.o ?_;rintro e w2 ⟨z,rfl,x2⟩)));have al:Xq _:=r.o.Zbj x2.Zbw;have a6:Xq _:=x2.ZbH.srcX.cells;have ag:Xq _:=x2.Zbw;have bf:z.ao=none->B.length=0/\z.cap=0:=fun e=>by
     rcases x2.ZbH.Zbu with ⟨q1,q2,q3⟩ | ⟨g,bj,q1,-⟩
     ·exact⟨q2,by rw[q1]⟩
     ·rw[e]at q1;cases q1
    clear x2 c1 q3;go_wp2_with (at_builtin;refine dK _ rfl (.tmp 40) (.tmp 41) 61 rfl iS (string ⟨#[]⟩) 16 c (aE O) underlying61 bc av ax az rfl XR rfl al.o.ZbH z.ao B.length z.cap (dc B) rfl (by simp[aE,dc]) bf a6.o (mw B) (by simp only[aE];omega) (by omega) ?_;intro h5 w5 d q;rw[Bd]at d;have C:Xq _:=al.o.Zbt q d;clear d q);go_roundg (T-(k+1))
    ·exact⟨k+1,h5,O++B,by omega,rfl,by simp[aE],by go_num,by simp;omega,y,C⟩
    omega
 ·have e:k=T:=by omega
  subst e;obtain⟨U,HU⟩:=aP (Bz b w k);have e2:O=U:=by rw[<-HU.o,G.o];rfl
  subst e2;have HX:Xq _:=r.o.ZbH.srcX;have ai:Xq _:=r.o.Zbw;have HR:Xq (bW b w k=(List.range k).filter (vi b w k O)):=cm (by unfold bW;rw[HU.o]);have a1:Xq (iG wr wr ⟨none,0⟩ (bK [])):=⟨XE _ _ _ _,(by intro k hk;cases hk),aa.refl _ _⟩;clear r G;go_wp2
  go_loopg [9,10] k (fun g o i w2=>∃(m:Nat) (z:Hd) (L:Xu),m<=k/\g=k-m/\o=slice z.ao L.length z.cap/\i=int i64 m/\L.length<=m/\Xq (L=(List.range m).filter (vi b w k O))/\Xq (iG wr w2 z (bK L)))
  ·exact⟨0,⟨none,0⟩,[],by omega,rfl,rfl,rfl,by simp,rfl,a1⟩
  obtain⟨m,z,L,hm,bo,rfl,rfl,hL,G,r⟩:=hrel;by_cases ar:m<k
  ·have p:m<w.length:=(by omega);have ag:Xq _:=ai.o.trans r.o.Zbw;have n:Xq _:=gM.Zbj HD.o ag.o;obtain⟨c0,c1,hb⟩:=n.o.cells;obtain⟨gs,rfl,ba,-,-,q2,q3⟩:=n.o.s.2 m w[m] (Xv p);have bd:(m:Int)<(k:Int):=(by omega);have aq:(m:Int)<w.length:=(by omega);have A:Xq (vi b w k O m=(bn w m k&&((w[m].k.toList == [36,101])||((w[m].k.toList == [36,102])&&aN O (tS b (w[m].h+1)))))):=cm (by unfold vi;rw[bA w m p]);have a0:Xq ((w[m].k.toList == [36,102])=true->w[m].h+1<b.length):=fun h=>by have:=am.o.f m ar;rw[<-bA w m p]at this;exact this h
   have HY:Xq (vi b w k O m=true->L++[m]=(List.range (m+1)).filter (vi b w k O)):=fun h=>by rw[jm,XA h,<-G.o]
   have W:Xq (vi b w k O m=false->L=(List.range (m+1)).filter (vi b w k O)):=fun h=>by rw[jm,Xz (by rw[h];simp),Ya,<-G.o]
   have j:Xq _:=(mR x m k b M N w _ l wr n.o (by omega) (by omega) hS);obtain⟨ac,Q⟩:=aP (bn w m k);rw[Q.o]at A j;generalize w[m].k=Y at *;generalize w[m].h=D at *;obtain⟨v,Hv⟩:=aP (tS b (D+1));rw[Hv.o]at A;have Z:Xq (∀E,aa [] wr E->Calls prog 92 #[slice c.ao O.length c.cap,string v] E fun e R=>e=returned (bool (aN O v))/\R=E):=fun E kx=>kH O c.ao c.cap v E (iB.Zbj HX.o (r.o.Zbw.trans kx)) (by omega);obtain⟨hs,a4⟩:=aP (aN O v);rw[a4.o]at Z A;have a5:=r.o.ZbH;cases ac
   ·have y:Xq _:=W.o (by rw[A.o];rfl);go_wp2_with (go_at_call 91;refine Xx j.o ?_;rintro e V ⟨rfl,a⟩;rw[a];clear a);go_roundg (k-(m+1))
    ·exact⟨m+1,z,L,by omega,rfl,rfl,by go_num,by omega,y,r⟩
    omega
   ·cases F:(Y.toList == [36,101])
    ·cases h3:(Y.toList == [36,102])
     ·have y:Xq _:=W.o (by rw[A.o,F,h3];rfl);go_wp2_with (go_at_call 91;refine Xx j.o ?_;rintro e V ⟨rfl,a⟩;rw[a];clear a);go_roundg (k-(m+1))
      ·exact⟨m+1,z,L,by omega,rfl,rfl,by go_num,by omega,y,r⟩
      omega
     ·have a7:=a0.o h3;obtain⟨gT,rfl,bp,t0,-⟩:=n.o.t.2 (D+1) _ (jN b (D+1) a7);replace t0:wr.cell? ⟨gT,(D+1)*5,none⟩=some (string (tS b (D+1))):=t0;rw[Hv.o]at t0;have bm:(D:Int)+1<b.length:=(by omega);have bv:IntKind.i64.wrap ((D:Int)+1)=(D:Int)+1:=(by rw[YS];omega);have bs:((D:Int)+1).toNat=D+1:=(by omega);have br:(0:Int)<=(D:Int)+1:=(by omega);(go_upto_region 17 with (go_at_call 91;refine Xx j.o ?_;rintro e V ⟨rfl,a⟩;rw[a];clear a));have P:Xq _:=r.o.Zbj (aa.refl [] wr).drew;have an:=P.o.ZbH;go_region_with (go_at_call 92;refine(Z.o _ (by exact(aa.refl [] wr).drew)).mono ?_;rintro e V ⟨rfl,a⟩;rw[a];clear a)
      all_goals
       clear c0 q2 t0;cases hs
       ·have y:Xq _:=W.o (by rw[A.o,F,h3];rfl);go_wp2;go_roundg (k-(m+1))
        ·exact⟨m+1,z,L,by omega,rfl,rfl,by go_num,by omega,y,P⟩
        omega
       ·have y:Xq _:=HY.o (by rw[A.o,F,h3];rfl);go_wp2_with (at_builtin;refine qW _ rfl (.tmp 93) (.tmp 95) 25 rfl iN (int i64 0) 8 z (bK L) [int i64 m] underlying25 ap H I J rfl XR rfl an (by simp only[bK];omega) (by omega) rfl rfl (by simp[Value.oneCell']) ?_;intro h5 w5 d q;rw[wP]at d;have C:Xq _:=P.o.Zbt q d;clear d q);go_roundg (k-(m+1))
        ·exact⟨m+1,h5,L++[m],by omega,rfl,by simp[bK],by go_num,by simp;omega,y,C⟩
        omega
    ·have y:Xq _:=HY.o (by rw[A.o,F];rfl);have h3:(Y.toList == [36,102])=false:=by
      cases h:(Y.toList == [36,102])
      ·rfl
      ·exact(U5 F h).elim
     go_wp2_with (first | (go_at_call 91;refine Xx j.o ?_;rintro e V ⟨rfl,a⟩;rw[a];clear a) | (at_builtin;refine qW _ rfl (.tmp 93) (.tmp 95) 25 rfl iN (int i64 0) 8 z (bK L) [int i64 m] underlying25 ap H I J rfl XR rfl a5 (by simp only[bK];omega) (by omega) rfl rfl (by simp[Value.oneCell']) ?_;intro h5 w5 d q;rw[wP]at d;have C:Xq _:=r.o.Zbt q d;clear d q));go_roundg (k-(m+1))
     ·exact⟨m+1,h5,L++[m],by omega,rfl,by simp[bK],by go_num,by simp;omega,y,C⟩
     omega
  ·have e:m=k:=(by omega);subst e;rw[<-HR.o]at G;have af:Xq (bW b w m=L):=G.o.symm;go_wp2;go_ret;exact⟨z,by rw[af.o];rfl,by rw[af.o];exact r.o.base ai.o⟩
def fV(T:List Tk)(S:List Sm)(a:Nat)(x:Xr):Int :=
 if bU T S x a<0 then -1 else if(aG (ay S (bU T S x a).toNat).k||bn S (bU T S x a).toNat a)=true then bU T S x a else -1
theorem uJ:bU b w H l=-1∨∃k,k<l/\bU b w H l=(k:Int):=by
 unfold bU;cases h:(List.range l).find? (uB b w H) with
 | none=>exact XQ rfl
 | some j=>exact XK ⟨j,XI.1 (XS h),rfl⟩
theorem tM:fV b w y H=-1∨∃k,k<y/\fV b w y H=(k:Int):=by
 unfold fV;split
 ·exact XQ rfl
 ·next h =>
  split
  ·rcases uJ b w H y with e | ⟨k,a,e⟩
   ·omega
   ·exact XK ⟨k,a,e⟩
  ·exact XQ rfl
theorem By(G:gM S D b M N w z2 l)(B:pE b w x) :
  Calls prog 127 #[pointer (some ⟨D,0,none⟩),int i64 x,string k] S fun e i=>e=returned (int i64 (fV b w x k))/\aa [] S i:=by
 have n:Xq _:=rA D x k b M N w z2 l S G B.ok.m B.ok.s B.ok.a;have d:Xq (fV b w x k=if bU b w k x<0 then -1 else if(aG (ay w (bU b w k x).toNat).k||bn w (bU b w k x).toNat x)=true then bU b w k x else -1):=rfl;generalize fV b w x k=R at *;have Y:=B.ok.m;have X:=B.ok.s;rcases uJ b w k x with e | ⟨g,hk,e⟩
 ·rw[e]at n d;rw[XA (by omega)]at d;go_enter func127,ntmps127;go_wp2_with (go_at_call 170;refine Xx n.o ?_;rintro e T ⟨rfl,A⟩;have f:Xq _:=A;clear A);go_ret;exact⟨au d.o.symm,f.o⟩
 ·rw[e]at n d;rw[Xz (by omega),YO]at d;have y:g<w.length:=by omega
  have P:(g:Int)<w.length:=by omega
  have Q:(0:Int)<=(g:Int):=by omega
  obtain⟨C,r⟩:=aP ((ay w g).k);have U:Xq (∀i,aa [] S i->∃q,z2=some ⟨q,0,none⟩/\q<i.heap.size/\i.cell? ⟨q,g*4+3,none⟩=some (string C)/\i.cell? ⟨D,1,none⟩=some (slice z2 w.length l)/\D<i.heap.size/\Calls prog 91 #[pointer (some ⟨D,0,none⟩),int i64 g,int i64 x] i fun e J=>e=returned (bool (bn w g x))/\J=i):=fun i Z=>by
   have H:=G.Zbj Z;obtain⟨-,L,O⟩:=H.cells;obtain⟨q,V,v,-,-,-,I⟩:=H.s.2 g w[g] (Xv y);rw[bA w g y,r.o]at I;exact⟨q,V,v,I,L,O,mR D g x b M N w _ l i H (by omega) Y X⟩
  rw[r.o]at d;clear G;go_enter func127,ntmps127;go_upto_region 4 with (go_at_call 170;refine Xx n.o ?_;rintro e T ⟨rfl,A⟩;have f:Xq _:=A;clear A)
  obtain⟨q,rfl,v,I,L,O,u⟩:=U.o T f.o;have j:Xq _:=u;clear u;obtain⟨K,F⟩:=aP (bn w g x);rw[F.o]at j d;obtain⟨t,p⟩:=aP (aG C);rw[p.o]at d;cases z:(t||K)
  ·rw[z]at d;simp only[Bool.or_eq_false_iff]at z;obtain⟨rfl,rfl⟩:=z;rw[Xz (by simp)]at d;go_wp2_with (first | (go_at_call 91;refine Xx j.o ?_;rintro e E ⟨rfl,c⟩;rw[c];clear c) | (go_at_call 121;refine(im C _).mono ?_;rintro e E ⟨rfl,c⟩;rw[c,p.o];clear c));go_ret;exact⟨au d.o.symm,f.o⟩
  ·rw[z,XA rfl]at d;cases t
   ·have W:K=true:=(by simpa using z);subst W;go_wp2_with (first | (go_at_call 91;refine Xx j.o ?_;rintro e E ⟨rfl,c⟩;rw[c];clear c) | (go_at_call 121;refine(im C _).mono ?_;rintro e E ⟨rfl,c⟩;rw[c,p.o];clear c));go_ret;exact⟨au d.o.symm,f.o⟩
   ·go_wp2_with (first | (go_at_call 91;refine Xx j.o ?_;rintro e E ⟨rfl,c⟩;rw[c];clear c) | (go_at_call 121;refine(im C _).mono ?_;rintro e E ⟨rfl,c⟩;rw[c,p.o];clear c));go_ret;exact⟨au d.o.symm,f.o⟩
def jW(T:List Tk)(S:List Sm)(j:Int):Nat:=if j<0 then 0 else if aG (ay S j.toNat).k=true then(bW T S j.toNat).length else 0
set_option maxRecDepth 512
theorem OE(v:Value)(T:List Tk)(S:List Sm)(w:World) :
  Calls prog 128 #[v,int i64 (-1)] w fun e b=>e=returned (int i64 (jW T S (-1):Nat))/\aa [] w b:=by
 have a:Xq (jW T S (-1)=0):=rfl;go_enter func128,ntmps128;go_wp2;go_ret;exact⟨by rw[a.o];rfl,aa.refl _ _⟩
set_option maxRecDepth 100000
theorem Dd(j:gM S D b M N w z2 l)(k:pE b w x)(C:T<x) :
  Calls prog 128 #[pointer (some ⟨D,0,none⟩),int i64 T] S fun e q=>e=returned (int i64 (jW b w T:Nat))/\aa [] S q:=by
 have K:=k.ok.m;have c:T<w.length:=by omega
 have p:¬(T:Int)<0:=by omega
 have v:(T:Int)<w.length:=by omega
 have y:(0:Int)<=(T:Int):=by omega
 have d:Xq (jW b w T=if aG (ay w T).k=true then(bW b w T).length else 0):=cm (by unfold jW;rw[Xz p,YO]);obtain⟨-,G,J⟩:=j.cells;obtain⟨I,rfl,B,-,-,-,E⟩:=j.s.2 T w[T] (Xv c);rw[bA w T c]at E
 have A:Xq (aG (ay w T).k=true->Calls prog 61 #[pointer (some ⟨D,0,none⟩),int i64 T] S fun e q=>∃f,e=returned (slice f.ao (bW b w T).length f.cap)/\iG S q f (bK (bW b w T))):=fun h=>oM D T b M N w _ l S j (k.mono (by omega)) c (k.e T C (by
  unfold aG at h
  rcases Yo _ _ ▸ h with h | h <;> exact iq h (by decide)))
 have r:Xq (aG (ay w T).k=(((ay w T).k.toList == [36,97])||((ay w T).k.toList == [36,112]))):=rfl;clear j k;generalize jW b w T=R at *;generalize (ay w T).k=z at *;generalize aG z=n at *;cases n
 ·rw[Xz (by simp)]at d;have i:=r.o.symm;simp only[Bool.or_eq_false_iff]at i;obtain⟨u,H⟩:=i;go_enter func128,ntmps128;go_wp2;go_ret;exact⟨by rw[d.o];rfl,aa.refl _ _⟩
 ·rw[XA rfl]at d;have t:Xq _:=A.o rfl;have i:=r.o.symm;cases u:(z.toList == [36,97])
  ·rw[u,Y7]at i;go_enter func128,ntmps128;go_wp2_with (go_at_call 61;refine Xx t.o ?_;rintro e F ⟨f,rfl,g⟩;have a:Xq _:=g.Zbw;clear g);go_ret;exact⟨by rw[d.o];rfl,a.o⟩
  ·go_enter func128,ntmps128;go_wp2_with (go_at_call 61;refine Xx t.o ?_;rintro e F ⟨f,rfl,g⟩;have a:Xq _:=g.Zbw;clear g);go_ret;exact⟨by rw[d.o];rfl,a.o⟩
def zaL(m:Nat):Xr:=⟨#[UInt8.ofNat (65+m % 20)]⟩
def On(m:Nat):Xr:=⟨#[UInt8.ofNat (85+m % 5)]⟩
def C8:Nat->Nat->Xr->Xr
 | 0,_,s=>s
 | f+1,h,s=>if 0<h then C8 f ((h-1) / 5) (On (h-1)++s) else s
def pd(m:Nat):Xr:=C8 (m+1) (m / 20) (zaL m)
theorem Om:(convert 312 9 (slice (some ⟨S.heap.size,0,none⟩) 1 1)).run prog (S.alloc (.cells #[int u8 (65+(l:Int) % 20)] 5))=.ok (string (zaL l)) (S.alloc (.cells #[int u8 (65+(l:Int) % 20)] 5)):=by
 have e:(65+(l:Int) % 20)=((UInt8.ofNat (65+l % 20)).toNat:Int):=by
  rw[UInt8.toNat_ofNat'];omega
 rw[e]
 exact Zas (S.alloc (.cells #[int u8 ((UInt8.ofNat (65+l % 20)).toNat:Int)] 5)) 312 9 5 ⟨S.heap.size,0,none⟩ 1 [UInt8.ofNat (65+l % 20)] underlying312 underlying5 underlying9 (by
  intro j a
  match j,a with
  | 0,_=>simp[Addr.add])
theorem Oo:(convert 312 9 (slice (some ⟨S.heap.size,0,none⟩) 1 1)).run prog (S.alloc (.cells #[int u8 (85+(l:Int) % 5)] 5))=.ok (string (On l)) (S.alloc (.cells #[int u8 (85+(l:Int) % 5)] 5)):=by
 have e:(85+(l:Int) % 5)=((UInt8.ofNat (85+l % 5)).toNat:Int):=by
  rw[UInt8.toNat_ofNat'];omega
 rw[e]
 exact Zas (S.alloc (.cells #[int u8 ((UInt8.ofNat (85+l % 5)).toNat:Int)] 5)) 312 9 5 ⟨S.heap.size,0,none⟩ 1 [UInt8.ofNat (85+l % 5)] underlying312 underlying5 underlying9 (by
  intro j a
  match j,a with
  | 0,_=>simp[Addr.add])
theorem Ke:C8 y 0 H=H:=by cases y <;> rfl
theorem GU(z:l<=1000000000) :
  Calls prog 239 #[int i64 ((l:Int)+1)] S fun e v=>e=returned (string (pd l))/\aa [] S v:=by
 have a:=fun k=>Om l k;have b:0<=(l:Int) % 20/\(l:Int) % 20<=19:=by omega
 go_enter func239,ntmps239;go_wp2
 go_loopg [3,4] (l / 20) (fun g u t wr=>∃(f h:Nat) (s:Xr),g=h/\t=int i64 h/\u=string s/\h<=f/\h<=1000000000/\s.size+f<=1000000003/\Xq (C8 f h s=pd l)/\Xq (aa [] S wr))
 ·exact⟨l+1,l / 20,zaL l,rfl,by simp,rfl,by omega,by omega,(by show 1+_<=_;omega),rfl,(aa.refl _ _).alloc _⟩
 obtain⟨f,h,s,x,rfl,rfl,w,y,A,m,n⟩:=hrel;clear a b;cases h with
 | zero =>
  have d:Xq (s=pd l):=cm (by rw[<-m.o,Ke]);go_wp2;go_ret;exact⟨by rw[<-d.o];rfl,n.o⟩
 | succ q =>
  obtain⟨c,rfl⟩:∃c,f=c+1:=⟨f-1,by omega⟩
  have a:=fun k=>Oo q k;have p:0<=(q:Int) % 5/\(q:Int) % 5<=4:=by omega
  have r:(0:Int)<(q:Int)+1:=by omega
  have d:Xq (C8 c (q / 5) (On q++s)=pd l):=by
   show _=_;rw[<-m.o,C8,XA (by omega),Za]
  have j:(On q).size=1:=rfl;have i:Xq ((On q++s).size=1+s.size):=cm (by rw[ByteArray.size_append,j]);go_wp2;go_roundg (q / 5)
  ·exact⟨c,q / 5,On q++s,rfl,by simp,rfl,by omega,by omega,by have:=i.o;omega,d,n.o.alloc _⟩
  omega
def EP(s:Xr)(i:Nat):Bool:=((pd i).toList==s.toList)
def j9(s:Xr)(top:Nat):Nat:=match (List.range top).find? (EP s) with
 | some i=>i+1
 | none=>0
theorem Ku(c:s<d)(h:EP I s=true)(a:∀j,j<s->EP I j=false):j9 I d=s+1:=by
 have e:(List.range d).find? (EP I)=some s:=by
  rw[Y3];exact⟨h,XI.2 c,fun j b=>by rw[a j b];rfl⟩
 unfold j9;rw[e]
theorem OJ(a:∀j,j<d->EP I j=false):j9 I d=0:=by
 have e:(List.range d).find? (EP I)=none:=by
  rw[YD];intro j b;rw[a j (XI.1 b)];simp
 unfold j9;rw[e]
theorem Kt(y:l<=1000000000) :
  Calls prog 212 #[string H,int i64 l] S fun e u=>e=returned (int i64 (j9 H l:Nat))/\aa [] S u:=by
 go_enter func212,ntmps212;go_wp2
 go_loopg [5] l (fun g i wr=>∃k:Nat,k<=l/\g=l-k/\i=int i64 ((k:Int)+1)/\Xq (∀j,j<k->EP H j=false)/\Xq (aa [] S wr))
 ·exact⟨0,by omega,rfl,by simp,(fun j s=>by omega),aa.refl _ _⟩
 obtain⟨k,x,w,rfl,f,d⟩:=hrel;by_cases n:k<l
 ·have m:(k:Int)+1<=(l:Int):=by omega
  have p:Xq _:=(GU k wr (by omega));have q:Xq (EP H k=((pd k).toList==H.toList)):=rfl;generalize pd k=t at *;cases r:(t.toList==H.toList)
  ·have b:Xq _:=fm f.o (by rw[q.o,r]);go_wp2_with (go_at_call 239;refine Xx p.o ?_;rintro e v ⟨rfl,c⟩;have a:Xq _:=d.o.trans c;clear c);go_roundg (l-(k+1))
   ·exact⟨k+1,by omega,rfl,by go_num,b,a⟩
   omega
  ·have b:Xq (j9 H l=k+1):=Ku n (by rw[q.o,r]) f.o;go_wp2_with (go_at_call 239;refine Xx p.o ?_;rintro e v ⟨rfl,c⟩;have a:Xq _:=d.o.trans c;clear c);go_ret;exact⟨by rw[b.o];rfl,a.o⟩
 ·have b:Xq (j9 H l=0):=OJ (fun j s=>f.o j (by omega));have m:¬(k:Int)+1<=(l:Int):=by omega
  go_wp2;go_ret;exact⟨by rw[b.o];rfl,d.o⟩
def lu{α:Type}(e s:Nat)(f:α->List Value)(L:List α):eD:=⟨e,s,L.length,L.flatMap f⟩
theorem Wk{α:Type}{f:α->List Value}(b:∀x,(f x).length=d)(L:List α)(j:Nat)(t:α)(h:L[j]?=some t)(c:Nat)(g:c<d):(L.flatMap f)[j*d+c]?=(f t)[c]?:=by
 induction L generalizing j with
 | nil=>cases h
 | cons a L e =>
  rw[Yz];cases j with
  | zero =>
   simp at h;subst h;rw[XP (by rw[b];omega)];simp
  | succ j =>
   rw[XO (by rw[b,Nat.succ_mul];omega),show(j+1)*d+c-(f a).length=j*d+c by rw[b,Nat.succ_mul];omega];exact e j (by simpa using h)
theorem fT{α:Type}(f:α->List Value)(L:List α)(x:α):(⟨(lu y l f L).e,(lu y l f L).size,(lu y l f L).n+1,(lu y l f L).xs++f x⟩:eD)=lu y l f (L++[x]):=by
 simp[lu]
def cW{α:Type}(w:World)(ao:Xt)(s:Nat)(f:α->List Value)(L:List α):Prop:=∀(k:Nat) (x:α),L[k]?=some x->∃g,ao=some ⟨g,0,none⟩/\g<w.heap.size/\∀(c:Nat) (u:Value),(f x)[c]?=some u->w.cell? ⟨g,k*s+c,none⟩=some u
theorem cW.Zbj{α:Type}{f:α->List Value}{L:List α}(h:cW n z0 d f L)(k:aa [] n v):cW v z0 d f L:=by
 intro j x i;obtain⟨g,e,a,b⟩:=h j x i;exact⟨g,e,XB a k.size,fun c u l=>by rw[XJ (k.block g a (by simp))];exact b c u l⟩
theorem aD.srcG{α:Type}{f:α->List Value}{L:List α}(o:aD n i (lu d s f L))(e:∀x,(f x).length=s):cW n i.ao s f L:=by
 intro k x b;have p:=(XL.1 b).1;obtain⟨g,a,m,-⟩:=t9 o (show 0<L.length by omega);refine⟨g,a,m,fun c u j=>o.cell a (k*s+c) u ?_⟩;have l:c<s:=by rw[<-e x];exact(XL.1 j).1
 show(L.flatMap f)[k*s+c]?=some u
 rw[Wk e L k x b c l];exact j
structure Lt where
 c:Int
 ZbD:Xr
 ZbE:Int
 ZbF:Int
def ltV(l:Lt):List Value:=[int u8 l.c,string l.ZbD,int i64 l.ZbE,int i64 l.ZbF]
theorem VM(l:Lt):(ltV l).length=4:=rfl
def yF(L:List Lt):eD:=lu 311 4 ltV L
theorem zaz:(prog.info? 311).map (fun i=>(i.zero,i.size,i.bytes))=some (some (agg #[int u8 0,string ⟨#[]⟩,int i64 0,int i64 0]),4,40):=by kernel_rfl
def fN(T:List Tk):Prop:=∀t∈T,t.s.size<=1024/\0<=t.ZbF/\t.ZbF<=10000
def Ou(t:Tk)(k:Nat):Lt:=⟨aL t.s k,t.ZbD,t.ZbE,t.ZbF+k⟩
def xW(t:Tk):List Lt:=(List.range t.s.size).map (Ou t)
def fU(T:List Tk)(a z:Nat):List Lt:=((T.drop a).take (z-a)).flatMap xW
theorem zcX(d:y<=l)(f:l<b.length):fU b y (l+1)=fU b y l++xW b[l]:=by
 unfold fU;have e:l+1-y=(l-y)+1:=by omega
 have c:l-y<(b.drop y).length:=by rw[Ym];omega
 rw[e,Yc c,YZ];have a:(b.drop y)[l-y]=b[l]:=by rw[Z8];congr 1;omega
 rw[a];simp
theorem PB(t:Tk)(k:Nat)(h:k<t.s.size):(xW t).take (k+1)=(xW t).take k++[Ou t k]:=by
 unfold xW;rw[Yc (by simpa using h)];simp
theorem Lm(hT:mQ S M N b)(hl:b.length<=10000)(ha:y<=l)(hz:l<=b.length)(hO:fN b) :
  Calls prog 174 #[slice M b.length N,int i64 y,int i64 l] S fun e f=>∃v,e=returned (slice v.ao (fU b y l).length v.cap)/\iG S f v (yF (fU b y l)):=by
 have HT:Xq _:=hT;have Z:Xq (iG S S ⟨none,0⟩ (yF [])):=⟨XE _ _ _ _,(by intro k hk;cases hk),aa.refl _ _⟩;obtain⟨iL,ai,H,I,J⟩:=XV zaz;have U:Xq (([]:List Lt)=fU b y y):=cm (by unfold fU;simp);clear hT;go_enter func174,ntmps174;go_wp2
 go_loopg [7,8] (l-y) (fun g o i wr=>∃(k:Nat) (v:Hd) (O:List Lt),(y<=k/\k<=l)/\g=l-k/\o=slice v.ao O.length v.cap/\i=int i64 k/\O.length<=1024*k/\Xq (O=fU b y k)/\Xq (iG S wr v (yF O)))
 ·exact⟨y,⟨none,0⟩,[],⟨by omega,by omega⟩,rfl,rfl,rfl,by simp,U,Z⟩
 obtain⟨k,v,O,⟨al,aq⟩,hg,rfl,rfl,an,HE,HW⟩:=hrel;by_cases av:k<l
 ·have x:k<b.length:=by omega
  have ar:(k:Int)<(l:Int):=by omega
  have am:(k:Int)<b.length:=by omega
  have ac:Xq (O++xW b[k]=fU b y (k+1)):=cm (by rw[zcX b y k al x,<-HE.o]);obtain⟨o1,o2,o3⟩:=hO b[k] (XM x);obtain⟨j,rfl,ag,-⟩:=HT.o.2 k b[k] (Xv x);have HC:Xq (∀f,aa [] S f->f.cell? ⟨j,k*5,none⟩=some (string b[k].s)/\f.cell? ⟨j,k*5+2,none⟩=some (string b[k].ZbD)/\f.cell? ⟨j,k*5+3,none⟩=some (int i64 b[k].ZbE)/\f.cell? ⟨j,k*5+4,none⟩=some (int i64 b[k].ZbF)):=fun f kw=>by
   obtain⟨g,e,hg,c0,c1,c2,c3,c4⟩:=(mQ.Zbj HT.o kw).2 k b[k] (Xv x);cases e
   exact⟨c0,c2,c3,c4⟩
  generalize b[k]=t at *;obtain⟨c,K,q,r,p⟩:=t;simp only at o1 o2 o3 HC;go_wp2_with fail
  go_loopg [7,9] c.size (fun g o i wr=>∃(m:Nat) (A:Hd) (P:List Lt),m<=c.size/\g=c.size-m/\o=slice A.ao P.length A.cap/\i=int i64 m/\P.length<=O.length+m/\Xq (P=O++(xW ⟨c,K,q,r,p⟩).take m)/\Xq (iG S wr A (yF P)))
  ·exact⟨0,v,O,by omega,rfl,rfl,rfl,by omega,by show _=_;simp,HW⟩
  obtain⟨m,A,P,hm,ap,rfl,rfl,hP,D,d⟩:=hrel;obtain⟨c0,c2,c3,c4⟩:=HC.o wr d.o.Zbw;have G:j<wr.heap.size:=XB ag d.o.Zbw.size;rcases kn m c.size with ⟨a,ax⟩ | ⟨a,-⟩
  ·have V:Xq (P++[Ou ⟨c,K,q,r,p⟩ m]=O++(xW ⟨c,K,q,r,p⟩).take (m+1)):=(by show _=_;rw[D.o,PB _ m a,Y2]);have X:Xq (ltV (Ou ⟨c,K,q,r,p⟩ m)=[int u8 ((c[m]'a).toNat:Int),string q,int i64 r,int i64 (p+m)]):=cm (by unfold ltV Ou;simp only;rw[cw c m a]);obtain⟨W,z⟩:=aP (wr.alloc (.cells #[string q,int i64 r,int i64 (p+m)] 36));have R:=dx z.o;have L:=dC z.o;have E:Xq _:=d.o.Zbj R;have af:=E.o.ZbH;have d0:W.cell? ⟨j,k*5,none⟩=some (string c):=(by rw[XJ (R.block j G (by simp))];exact c0);obtain⟨d1,d2,d3⟩:=zT L;have HS:Xq (∀w h5,bL W w A h5->w.cell? ⟨j,k*5,none⟩=some (string c)/\w.cell? ⟨wr.heap.size,0,none⟩=some (string q)/\w.cell? ⟨wr.heap.size,1,none⟩=some (int i64 r)/\w.cell? ⟨wr.heap.size,2,none⟩=some (int i64 (p+m))):=fun w h5 gr=>by
    have q1:w.heap[j]?=W.heap[j]?:=gr.Zbw.block j (XB G R.size) (fun hq=>by have:=d.o.far _ (aX hq);omega);have T:w.heap[wr.heap.size]?=W.heap[wr.heap.size]?:=gr.Zbw.block _ (ah L) (fun hq=>by have:=d.o.ZbH.lt (aX hq);omega);exact⟨by rw[XJ q1];exact d0,by rw[XJ T];exact d1,by rw[XJ T];exact d2,by rw[XJ T];exact d3⟩
   have az:wr.heap.size<W.heap.size:=ah L;clear L R;(go_upto_region 10 with fail);rw[z.o];have s3:Xq (∀u∈([int u8 ((c[m]'a).toNat:Int),string q,int i64 r,int i64 (p+m)]:List Value),u.oneCell'=true):=by
    intro u hu;simp only[List.mem_cons,List.not_mem_nil,or_false]at hu;rcases hu with rfl | rfl | rfl | rfl <;> rfl
   have s4:Xq ((yF P).n<=900000000):=(by show P.length<=_;omega);go_region_held3 (fun f=>f.cell? ⟨j,k*5,none⟩=some (string c)/\f.cell? ⟨wr.heap.size,0,none⟩=some (string q)/\f.cell? ⟨wr.heap.size,1,none⟩=some (int i64 r)/\f.cell? ⟨wr.heap.size,2,none⟩=some (int i64 (p+m))) (go_keep) ((refine ci W (by rfl) (.tmp 37) (.tmp 47) 267 (by rfl) iL (agg #[int u8 0,string ⟨#[]⟩,int i64 0,int i64 0]) 40 A (yF P) [int u8 ((c[m]'a).toNat:Int),string q,int i64 r,int i64 (p+m)] underlying267 ai H I J rfl (show 0<4 by omega) (by simp[Act.eval] <;> rfl) af s4.o (by omega) (by simp[Act.eval]) rfl s3.o ?_;intro ad F w C B;obtain⟨q1,T,q3,q4⟩:=HS.o w _ B));rw[<-X.o,yF,fT]at C;have Y:Xq _:=E.o.Zbt B C;clear C B;go_wp2;go_roundg (c.size-(m+1))
   ·exact⟨m+1,⟨ad,F⟩,P++[Ou ⟨c,K,q,r,p⟩ m],by omega,rfl,by simp[yF,lu],by go_num,by simp;omega,V,Y⟩
   omega
  ·have e:m=c.size:=(by omega);subst e;have Q:Xq (P=fU b y (k+1)):=by
    show _=_;rw[D.o,<-ac.o];congr 1;rw[YV (by unfold xW;simp)]
   go_wp2;go_roundg (l-(k+1))
   ·exact⟨k+1,A,P,⟨by omega,by omega⟩,rfl,rfl,by go_num,by omega,Q,d⟩
   omega
 ·have e:k=l:=by omega
  subst e;have Q:Xq (fU b y k=O):=HE.o.symm;go_wp2;go_ret;exact⟨v,by rw[Q.o];rfl,by rw[Q.o];exact HW.o⟩
structure dV where
  ref:Int
  back:Nat
  need:Nat
  ZbD:Xr
  ZbE:Int
  ZbF:Int
def mG(s:dV):List Value:=[int i64 s.ref,int i64 s.back,int i64 s.need,string s.ZbD,int i64 s.ZbE,int i64 s.ZbF]
theorem TM(s:dV):(mG s).length=6:=rfl
def fI(L:List dV):eD:=lu 162 6 mG L
theorem pj(L:List dV)(x:dV):(⟨(fI L).e,(fI L).size,(fI L).n+1,(fI L).xs++mG x⟩:eD)=fI (L++[x]):=fT _ _ _ _ _
theorem wX(x:dV):∀u∈mG x,u.oneCell'=true:=by
  intro u a;simp only[mG,List.mem_cons,List.not_mem_nil,or_false]at a;rcases a with rfl | rfl | rfl | rfl | rfl | rfl <;> rfl
structure lF where
  st:List dV
  why:Int
  ZbD:Xr
  ZbE:Int
  ZbF:Int
def zb8(p:lF)(h:Hd):Value:=agg #[slice h.ao p.st.length h.cap,int i64 p.why,string p.ZbD,int i64 p.ZbE,int i64 p.ZbF]
theorem RY:(prog.info? 162).map (fun i=>(i.zero,i.size,i.bytes))=some (some (agg #[int i64 0,int i64 0,int i64 0,string ⟨#[]⟩,int i64 0,int i64 0]),6,56):=by kernel_rfl
theorem gB{l m o p q:Value}(h:n.heap[d]?=some (.cells #[l,m,o,p,q] 122))(a b c e f:Value) :
    (n.setCell ⟨d,0,none⟩ a).cell? ⟨d,0,none⟩=some a/\((n.setCell ⟨d,0,none⟩ a).setCell ⟨d,1,none⟩ b).cell? ⟨d,1,none⟩=some b/\(((n.setCell ⟨d,0,none⟩ a).setCell ⟨d,1,none⟩ b).setCell ⟨d,2,none⟩ c).cell? ⟨d,2,none⟩=some c/\((((n.setCell ⟨d,0,none⟩ a).setCell ⟨d,1,none⟩ b).setCell ⟨d,2,none⟩ c).setCell ⟨d,3,none⟩ e).cell? ⟨d,3,none⟩=some e/\(((((n.setCell ⟨d,0,none⟩ a).setCell ⟨d,1,none⟩ b).setCell ⟨d,2,none⟩ c).setCell ⟨d,3,none⟩ e).setCell ⟨d,4,none⟩ f).cell? ⟨d,4,none⟩=some f:=by
  have g:=ae h 0 a;have i:=ae g 1 b;have j:=ae i 2 c;have k:=ae j 3 e;have r:=ae k 4 f;exact⟨by rw[ab g];rfl,by rw[ab i];rfl,by rw[ab j];rfl,by rw[ab k];rfl,by rw[ab r];rfl⟩
def Jn(c:Int):Xr:=⟨#[UInt8.ofNat c.toNat]⟩
theorem UU(c:Int)(d:0<=c/\c<256)(a:World):(convert 312 9 (slice (some ⟨a.heap.size,0,none⟩) 1 1)).run prog (a.alloc (.cells #[int u8 c] 5))=.ok (string (Jn c)) (a.alloc (.cells #[int u8 c] 5)):=by
  have e:c=((UInt8.ofNat c.toNat).toNat:Int):=by
    rw[UInt8.toNat_ofNat'];omega
  unfold Jn;generalize UInt8.ofNat c.toNat=u at *;rw[e]
  exact Zas (a.alloc (.cells #[int u8 (u.toNat:Int)] 5)) 312 9 5 ⟨a.heap.size,0,none⟩ 1 [u] underlying312 underlying5 underlying9 (by
    intro j b
    match j,b with
    | 0,_=>simp[Addr.add])
def qc(why:Int)(l:Lt):lF:=⟨[],why,l.ZbD,l.ZbE,l.ZbF⟩
def vG(T:List Tk)(S:List Sm)(refs tags:Xu)(n:Nat)(l:Lt):dV :=
  if n<=refs.length then⟨(refs.getD (n-1) 0:Nat),0,jW T S (refs.getD (n-1) 0:Nat),l.ZbD,l.ZbE,l.ZbF⟩ else⟨-2,tags.getD (n-refs.length-1) 0,0,l.ZbD,l.ZbE,l.ZbF⟩
def pU(T:List Tk)(S:List Sm)(refs:Xu)(en:Lt):List Lt->List dV->Xu->Xr->Bool->lF
  | [],P,_,num,_=>if(num.toList == [])=false then qc 4 en else if P.length=0 then qc 1 en else⟨P,0,⟨#[]⟩,0,0⟩
  | l :: r,P,tags,num,fr =>
    if 85<=l.c/\l.c<=89 then pU T S refs en r P tags (num++Jn l.c) false
    else if 65<=l.c/\l.c<=84 then
      (if j9 (num++Jn l.c) (refs.length+tags.length)=0 then qc 5 l
       else pU T S refs en r (P++[vG T S refs tags (j9 (num++Jn l.c) (refs.length+tags.length)) l]) tags ⟨#[]⟩ true)
    else if l.c=90/\fr=true then pU T S refs en r P (tags++[P.length-1]) num false
    else if l.c=63/\(num.toList == [])=true then pU T S refs en r (P++[⟨-1,0,0,l.ZbD,l.ZbE,l.ZbF⟩]) tags num false
    else qc 4 l
def lK(T:List Tk)(S:List Sm)(refs:Xu)(en:Lt)(L:List Lt):lF:=pU T S refs en L [] [] ⟨#[]⟩ false
theorem De:j9 H l<=l:=by
  unfold j9;cases h:(List.range l).find? (EP H) with
  | none=>exact XX _
  | some i=>have:=XI.1 (XS h);show i+1<=l;omega
structure LZ(w wr:World)(en:Lt)(P:List dV)(h:Hd)(tags:Xu)(ht:Hd):Prop where
  e:wr.heap[w.heap.size]?=some (.cells #[string en.ZbD,int i64 en.ZbE,int i64 en.ZbF] 36)
  r:wr.heap[w.heap.size+1]?=some (.cells #[slice none 0 0,int i64 0,string ⟨#[]⟩,int i64 0,int i64 0] 122)
  p:wr.heap[w.heap.size+2]?=some (.cells #[slice h.ao P.length h.cap,int i64 0,string ⟨#[]⟩,int i64 0,int i64 0] 122)
  op:aD wr h (fI P)
  ot:aD wr ht (bK tags)
  fp:∀k,h.Zbx=some k->w.heap.size+2<k
  ft:∀k,ht.Zbx=some k->w.heap.size+2<k
  ap:∀k,h.Zbx=some k->ht.Zbx≠some k
  Zbw:aa [] w wr
theorem LZ.Zbj{b:Lt}{P:List dV}(a:LZ n v b P i o t)(k:aa [] v L):LZ n L b P i o t :=
  ⟨k.get a.e (by simp),k.get a.r (by simp),k.get a.p (by simp),a.op.Zbj k,a.ot.Zbj k,a.fp,a.ft,a.ap,a.Zbw.trans k⟩
theorem sX(k:aa o v L)(c:∀q∈o,n.heap.size<=q)(a:aa [] n v):aa [] n L :=
  ⟨k.os.trans a.os,k.tape.trans a.tape,k.output.trans a.output,XF a.size k.size,fun q b _=>by
    rw[k.block q (XB b a.size) (fun d=>by have:=c q d;omega),a.block q b (by simp)]⟩
theorem LZ.addT{m:Lt}{P:List dV}{b:Xu}(a:LZ n v m P i o t)(g:bL v L t c)(u:aD L c (bK b)):LZ n L m P i b c:=by
  have l:∀q,q<=n.heap.size+2->q∉t.Zbx.toList:=fun q j s=>by have:=a.ft q (aX s);omega
  have w:=ah a.p;refine⟨g.Zbw.get a.e (l _ (by omega)),g.Zbw.get a.r (l _ (by omega)),g.Zbw.get a.p (l _ (by omega)),g.beside a.op (fun k d=>a.ap k d),u,a.fp,fun k d=>?_,fun k d f=>?_,sX g.Zbw (fun q j=>by have:=a.ft q (aX j);omega) a.Zbw⟩
  · rcases g.Zbx with e | ⟨q,e,j⟩
    · exact a.ft k (by rw[<-e];exact d)
    · rw[e]at d;cases d;omega
  · rcases g.Zbx with e | ⟨q,e,j⟩
    · exact a.ap k d (by rw[<-e];exact f)
    · rw[e]at f;cases f
      have:=a.op.lt d;omega
theorem LZ.addP{y:Lt}{P s:List dV}(a:LZ n v y P i o t)(g:bL v L i c)(z:aD L c (fI s)){m:Nat}(w:m=s.length):LZ n (L.setCell ⟨n.heap.size+2,0,none⟩ (slice c.ao m c.cap)) y s c o t:=by
  subst w;have x:∀q,q<=n.heap.size+2->q∉i.Zbx.toList:=fun q b w=>by have:=a.fp q (aX w);omega
  have E:=ah a.p;have A:=g.Zbw.get a.e (x _ (by omega));have D:=g.Zbw.get a.r (x _ (by omega));have C:=g.Zbw.get a.p (x _ (by omega));have j:∀k,c.Zbx=some k->n.heap.size+2<k:=fun k d=>by
    rcases g.Zbx with e | ⟨q,e,b⟩
    · exact a.fp k (by rw[<-e];exact d)
    · rw[e]at d;cases d;omega
  have l:aD L t (bK o):=g.beside a.ot (fun k d f=>a.ap k f d);have u:aa [n.heap.size+2] L (L.setCell ⟨n.heap.size+2,0,none⟩ (slice c.ao s.length c.cap)):=(aa.refl _ _).sl1 _;refine⟨u.get A (by simp),u.get D (by simp),by rw[ae C];rfl,z.Zbo (fun q b=>u.block q (z.lt b) (by simp;have:=j q b;omega)),l.Zbo (fun q b=>u.block q (l.lt b) (by simp;have:=a.ft q b;omega)),j,a.ft,fun k d f=>?_,?_⟩
  · rcases g.Zbx with e | ⟨q,e,b⟩
    · exact a.ap k (by rw[<-e];exact d) f
    · rw[e]at d;cases d
      have:=a.ot.lt f;omega
  · have B:aa [] n L:=sX g.Zbw (fun q b=>by have:=a.fp q (aX b);omega) a.Zbw
    exact B.sr1 (by simp) _
theorem LZ.cells{b:Lt}{P:List dV}(a:LZ n v b P i o t) :
    (v.cell? ⟨n.heap.size,0,none⟩=some (string b.ZbD)/\v.cell? ⟨n.heap.size,1,none⟩=some (int i64 b.ZbE)/\v.cell? ⟨n.heap.size,2,none⟩=some (int i64 b.ZbF)) /\
    (v.cell? ⟨n.heap.size+1,0,none⟩=some (slice none 0 0)/\v.cell? ⟨n.heap.size+1,1,none⟩=some (int i64 0)/\v.cell? ⟨n.heap.size+1,2,none⟩=some (string ⟨#[]⟩)/\v.cell? ⟨n.heap.size+1,3,none⟩=some (int i64 0)/\v.cell? ⟨n.heap.size+1,4,none⟩=some (int i64 0)) /\
    (v.cell? ⟨n.heap.size+2,0,none⟩=some (slice i.ao P.length i.cap)/\v.cell? ⟨n.heap.size+2,1,none⟩=some (int i64 0)/\v.cell? ⟨n.heap.size+2,2,none⟩=some (string ⟨#[]⟩)/\v.cell? ⟨n.heap.size+2,3,none⟩=some (int i64 0)/\v.cell? ⟨n.heap.size+2,4,none⟩=some (int i64 0)) /\
    (v.frozen? ⟨n.heap.size+1,0,none⟩=false/\v.frozen? ⟨n.heap.size+1,1,none⟩=false/\v.frozen? ⟨n.heap.size+1,2,none⟩=false/\v.frozen? ⟨n.heap.size+1,3,none⟩=false/\v.frozen? ⟨n.heap.size+1,4,none⟩=false)/\v.frozen? ⟨n.heap.size+2,0,none⟩=false/\n.heap.size+2<v.heap.size:=by
  refine⟨⟨?_,?_,?_⟩,⟨?_,?_,?_,?_,?_⟩,⟨?_,?_,?_,?_,?_⟩,⟨zcW a.r 0,zcW a.r 1,zcW a.r 2,zcW a.r 3,zcW a.r 4⟩,zcW a.p 0,ah a.p⟩
  all_goals first | (rw[ab a.e];rfl) | (rw[ab a.r];rfl) | (rw[ab a.p];rfl)
end Go.Proofs.YtpdholcaobgofaaGreat
