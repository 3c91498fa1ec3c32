import Derived.BigQuiet
import Derived.Test.YtnbhnocdhbcbcaaGreatG07
namespace Go.Proofs.YtnbhnocdhbcbcaaGreat
open Go.RowKit Tryz
open Value IntKind Ending
set_option maxHeartbeats 0
variable{H x:World}{b d M:Nat}{g:List ByteArray}{N:List Bool}{z2 I:Hd}{z6:List Nat}{zb:Nat->Prop}{o:List Value}{D:Nat->eB}{f:Nat->Hd}{zt:List Rw}(a:Nat)(l:List ByteArray)(k:List Bool)(z5 L:Hd)(z0:List ByteArray)(i:List Nat)(z3:List Bool)(z7:List St)(y n:Nat)(z4:Hd)(S:List ByteArray)(T:List Rw)(v:World)(w:Nat)
def mq(vs:List ByteArray)(x:ByteArray):Option Nat:=(List.range vs.length).find? (fun i=>(vs.getD i ⟨#[]⟩).toList==x.toList)
def sX(l:List Bool):List Value:=l.map bool
def qn(l:List Bool):eB:=⟨4,1,l.length,sX l⟩
structure li(w:World)(tb:Nat)(vs:List ByteArray)(ms:List Bool)(hv hm:Hd):Prop where
 blk:w.heap[tb]?=some (.cells #[slice hv.ao vs.length hv.cap,slice hm.ao ms.length hm.cap] 327)
 vars:aC w hv (aG vs)
 marks:aC w hm (qn ms)
 o1:hv.blk≠some tb
 o2:hm.blk≠some tb
 o3:hv.blk=none∨hv.blk≠hm.blk
theorem li.cells(h:li H b g N z2 I):H.cell? ⟨b,0,none⟩=some (slice z2.ao g.length z2.cap)/\H.cell? ⟨b,1,none⟩=some (slice I.ao N.length I.cap):=by
 refine⟨?_,?_⟩ <;> (rw[aj h.blk];rfl)
theorem li.lt(h:li H b g N z2 I):b<H.heap.size:=ae h.blk
theorem li.kept(h:li H b g N z2 I)(k:aa z6 H x)(e:b∉z6)(d:∀a,z2.blk=some a∨I.blk=some a->a∉z6):li x b g N z2 I :=
 ⟨k.get h.blk e,h.vars.Wo (fun a c=>k.block a (h.vars.lt c) (d a (R4 c))),h.marks.Wo (fun a c=>k.block a (h.marks.lt c) (d a (RZ c))),h.o1,h.o2,h.o3⟩
theorem li.Wj(h:li H b g N z2 I)(k:aa [] H x):li x b g N z2 I:=h.kept k (by simp) (by simp)
theorem tM(x:ByteArray)(w:World)(h:li w a l k L z4)(D:l.length<=1073741824) :
  Calls prog 261 #[pointer (some ⟨a,0,none⟩),string x] w fun e v=>e=returned (int i64 (qe (mq l x)))/\v=w:=by
 obtain⟨q,z⟩:=h.cells;go_enter func261,ntmps261;go_wp2
 go_loopg [5] l.length (fun g i wr=>∃b:Nat,b<=l.length/\g=l.length-b/\i=int i64 b/\Hid (∀i,i<b->((l.getD i ⟨#[]⟩).toList==x.toList)=false)/\wr=w)
 case atStart=>exact⟨0,by omega,by omega,rfl,fun i o=>by omega,rfl⟩
 case round =>
  obtain⟨b,C,B,rfl,c,rfl⟩:=hrel;by_cases d:b<l.length
  ·rcases h.vars.Wu with ⟨_,t,_⟩ | ⟨g,r,m,-,s,-⟩
   ·have:l.length=0:=t;omega
   ·have A:=h.vars.cell m b (string l[b]) (t9 l b d);rw[m]at q;have f:Hid _:=vV l b d;have u:l.length<=L.cap:=s;generalize l[b]=y at *;cases n:(y.toList==x.toList)
    ·have p:Hid (∀i,i<b+1->((l.getD i ⟨#[]⟩).toList==x.toList)=false):=by
      intro i o;by_cases e:i=b
      ·subst e;rw[f.out];exact n
      ·exact c.out i (by omega)
     clear f h;go_wp2;go_roundg (l.length-(b+1))
     case measure=>omega
     case rel=>exact⟨b+1,by omega,rfl,by go_num,p,rfl⟩
    ·have j:Hid (mq l x=some b):=qM d (by rw[f.out];exact n) c.out;clear f h;go_wp2;go_ret;exact⟨au (by rw[j.out];rfl),rfl⟩
  ·have j:Hid (mq l x=none):=pg (fun i o=>c.out i (by omega));clear h;go_wp2;go_ret;exact⟨au (by rw[j.out];rfl),rfl⟩
def bH(vs ws:List ByteArray):List Nat:=ws.filterMap (mq vs)
theorem xu(h:n<z0.length)(a:mq l z0[n]=some w):bH l (z0.take (n+1))=bH l (z0.take n)++[w]:=by
 unfold bH;rw[lS z0 n h,UT];simp[a]
theorem xt(h:w<S.length)(a:mq z0 S[w]=none):bH z0 (S.take (w+1))=bH z0 (S.take w):=by
 unfold bH;rw[lS S w h,UT];simp[a]
theorem rx:(bH z0 S).length<=S.length:=VU _ _
set_option maxRecDepth 100000
theorem yB(h:li v a l k z5 L)(hl:l.length<=1073741824)(M:kI v z4 S)(O:S.length<=1000000) :
  Calls prog 239 #[pointer (some ⟨a,0,none⟩),slice z4.ao S.length z4.cap] v fun e w'=>∃f:Hd,e=returned (slice f.ao (bH l S).length f.cap)/\aC w' f (bL (bH l S))/\(∀x,f.blk=some x->v.heap.size<=x)/\aa [] v w':=by
 obtain⟨i0,hi,P,Q,R⟩:=Sr zl;obtain⟨ao,ac⟩:=z4;rcases M with rfl | ⟨g,F,ad,t,W,e2,X,e4,e5⟩
 ·clear O;go_enter func239,ntmps239;go_wp2;refine Uh 1 ?_;rw[UD];go_wp2;go_ret;exact⟨⟨none,0⟩,rfl,Sb _ _ _ _,by intro x s;simp[Hd.blk]at s,aa.refl _ _⟩
 simp only at W;subst W;go_enter func239,ntmps239;go_wp2
 go_loopg [5,6] S.length (fun gk sv i wr=>∃(b:Nat) (f:Hd),b<=S.length/\gk=S.length-b/\i=int i64 b/\sv=slice f.ao (bH l (S.take b)).length f.cap/\aC wr f (bL (bH l (S.take b)))/\(∀x,f.blk=some x->v.heap.size<=x)/\aa [] v wr)
 case atStart=>exact⟨0,⟨none,0⟩,by omega,by omega,rfl,rfl,Sb _ _ _ _,by intro x s;simp[Hd.blk]at s,aa.refl _ _⟩
 case round =>
  obtain⟨b,f,hk,hg,rfl,rfl,C,G,A⟩:=hrel;have hr:=h.Wj A;have ag:=rx l (S.take b);have Y:(S.take b).length<=b:=by simp;omega
  by_cases r:b<S.length
  ·have c2:wr.cell? ⟨g,F+b,none⟩=some (string S[b]):=(aj (A.get e2 (by simp)) (F+b)).trans (X b S[b] (RQ r))
   ·skip
    have V:=fun p=>xu l S b p r;have U:=xt l S b r;have q:Hid _:=V;have o:Hid _:=U;have T:=tM a l k z5 L S[b] wr hr hl;have d:Hid _:=T;clear V U T X;generalize S[b]=y at *;rcases hp:mq l y with _ | p
    ·have w:Hid _:=o.out hp;rw[hp]at d;simp only[qe]at d;clear q o;go_wp2_with (go_at_call 261;refine R0 d.out ?_;rintro e w3 ⟨rfl,rfl⟩);go_roundg (S.length-(b+1))
     case measure=>omega
     case rel=>exact⟨b+1,f,by omega,rfl,by go_num,by rw[w.out],by rw[w.out];exact C,G,A⟩
    ·have w:Hid _:=q.out p hp;rw[hp]at d;simp only[qe]at d;have D:=C.Wo (fun x s=>((aa.refl [] wr).alloc (.cells #[int i64 p] 3)).block x (C.lt s) (by simp));clear q o;go_wp2_with (first | (go_at_call 261;refine R0 d.out ?_;rintro e w3 ⟨rfl,N⟩;rw[N]) | (at_builtin;refine aO _ rfl (.tmp 22) (.tmp 24) 24 rfl i0 (int i64 0) 8 f (bL (bH l (S.take b))) underlying24 hi P Q R rfl So rfl (by exact D) ⟨_,0,none⟩ 1 1 [int i64 p] rfl rfl ?d1 ?d2 So ?d3 ?d4 ?_))
     case d1=>intro j u H;match j,H with | 0,H=>simp at H;subst H;simp[Addr.add]
     case d2=>intro u Z;simp at Z;subst Z;rfl
     case d3=>simp only[bL];unfold maxLen;omega
     case d4=>simp only[bL];omega
     intro I z w5 E m c;rw[m9 (bH l (S.take b)) p,<-w.out]at E;have B:=A.alloc (.cells #[int i64 p] 3);have K:=B.grown m G;have af:v.heap.size<=I:=by
      rcases c with e | e
      ·exact G I e
      ·have:=B.size;simp at e this;omega
     have J:Hid ((bL (bH l (S.take b))).n+1=(bH l (S.take (b+1))).length):=(by show _=_;rw[w.out];simp[bL]);rw[J.out];clear m c D;go_wp2;go_roundg (S.length-(b+1))
     case measure=>omega
     case rel=>exact⟨b+1,⟨some ⟨I,0,none⟩,z⟩,by omega,rfl,by go_num,rfl,E,by intro x s;simp[Hd.blk]at s;omega,K⟩
  ·have e:b=S.length:=(by omega);subst e;rw[Tr]at C ⊢;go_wp2;go_ret;exact⟨f,rfl,C,G,A⟩
def kP(side mi:Nat)(mem:List Nat)(ms:List Bool):List Bool:=mem.foldl (fun ms mj=>ms.set (mi*side+mj) true) ms
def mh(side:Nat)(mem:List Nat)(ms:List Bool):List Bool:=mem.foldl (fun ms mi=>kP side mi mem ms) ms
def jS(side:Nat)(mem:List Nat)(ms:List Bool)(i j:Nat):List Bool:=kP side (mem.getD i 0) (mem.take j) ((mem.take i).foldl (fun ms mi=>kP side mi mem ms) ms)
theorem qd(b:List Nat)(c:List Bool):(kP n w b c).length=c.length:=by
 unfold kP
 induction b generalizing c with
 | nil=>rfl
 | cons a r d=>rw[Vx,d];simp
theorem tH(r:List Nat)(b:List Bool):(r.foldl (fun b d=>kP a d i b) b).length=b.length:=by
 induction r generalizing b with
 | nil=>rfl
 | cons e r c=>rw[Vx,c,qd]
theorem kl:(jS a i z3 n w).length=z3.length:=by
 unfold jS;rw[qd,tH]
theorem CP(b:w<i.length):jS a i z3 n (w+1)=(jS a i z3 n w).set (i.getD n 0*a+i[w]) true:=by
 unfold jS kP;rw[lS i w b,Uj];rfl
theorem EY(b:w<i.length):jS a i z3 w i.length=jS a i z3 (w+1) 0:=by
 have e:i.getD w 0=i[w]:=by rw[RT,RQ b];rfl
 unfold jS;rw[Tr,lS i w b,Uj,e];rfl
theorem EV:jS a i z3 i.length 0=mh a i z3:=by
 unfold jS mh;rw[Tr];rfl
theorem yV:(sX z3).length=z3.length*1:=by simp[sX]
theorem li.mark(h:li H b g N z2 I)(f:Nat)(e:I.ao=some ⟨f,0,none⟩)(i:Nat)(t:i<N.length) :
  li (H.setCell ⟨f,i,none⟩ (bool true)) b g (N.set i true) z2 I:=by
 have m:I.blk=some f:=by unfold Hd.blk;rw[e];rfl
 refine⟨?_,?_,?_,h.o1,h.o2,h.o3⟩
 ·rw[Sg _ _ _ _ (by rintro rfl;exact h.o2 m),h.blk];simp
 ·refine h.vars.Wo (fun x k=>Sg _ _ _ _ ?_);rintro rfl;rcases h.o3 with a | a
  ·rw[a]at k;cases k
  ·exact a (k.trans m.symm)
 ·rcases h.marks.Wu with ⟨_,s,_⟩ | ⟨l,d,c,n,o,p,q,r⟩
  ·have:N.length=0:=s;omega
  ·have:l=f:=(by rw[e]at c;injection c with c;injection c with c;exact c.symm);subst this;refine⟨by simp only[qn];rw[yV],RZ ⟨l,I.cap,d.setIfInBounds i (bool true),?_,SE _,ah n _ _,?_,p,?_,?_⟩⟩
   ·simp[qn,e]
   ·simpa [qn] using o
   ·simpa [qn] using q
   ·have j:d.toList.take (N.length*1)=sX N:=r;simp only[qn,List.length_set,Array.toList_setIfInBounds,List.take_set,j];simp[sX,List.map_set]
theorem l4(h:w<i.length):(km i)[w]?=some (int i64 i[w]):=by simp[km,h]
theorem CL(b:List Nat)(w:World)(h:li w a l k z5 L)(Q:k.length=l.length*l.length)(S:l.length<=10000)(G:aC w z4 (bL b))(R:b.length<=1000000)(s:∀i (hi:i<b.length),b[i]<l.length)(u:∀x,z4.blk=some x->L.blk≠some x) :
  Calls prog 238 #[pointer (some ⟨a,0,none⟩),slice z4.ao b.length z4.cap] w fun e w'=>e=returned (tuple #[])/\li w' a l (mh l.length b k) z5 L/\fy (fun c=>L.blk=some c) w w':=by
 obtain⟨ao,n⟩:=z4;rcases G.Wu with ⟨e0,E,_⟩ | ⟨g,ac,W,e2,X,J,-⟩
 ·have B:b.length=0:=E;have P:b=[]:=Sw B;subst P;clear G E B e0 R s u;go_enter func238,ntmps238;go_wp2;refine Uh 1 ?_;rw[UD];go_wp2;go_end0;exact⟨rfl,h,fy.refl _ _⟩
 simp only at W X J;have af:b.length<=n:=X;have ad:n<=9223372036854775807:=by unfold maxLen at J;exact J
 subst W;have al:L.blk≠some g:=u g rfl;go_enter func238,ntmps238;go_wp2
 go_loopg [4] b.length (fun gk i wr=>∃c:Nat,c<=b.length/\gk=b.length-c/\i=int i64 c/\li wr a l (jS l.length b k c 0) z5 L/\fy (fun c=>L.blk=some c) w wr)
 case atStart=>exact⟨0,by omega,by omega,rfl,h,fy.refl _ _⟩
 case round =>
  obtain⟨c,hk,hg,rfl,F,N⟩:=hrel;by_cases m:c<b.length
  ·have HR:Hid _:=EY l.length b k c m;go_wp2_with fail
   go_loopg [5] b.length (fun K i2 C=>∃j:Nat,j<=b.length/\K=b.length-j/\i2=int i64 j/\li C a l (jS l.length b k c j) z5 L/\fy (fun c=>L.blk=some c) w C)
   case atStart=>exact⟨0,by omega,by omega,rfl,F,N⟩
   case round =>
    obtain⟨j,hj,ai,rfl,d,p⟩:=hrel;clear F N;by_cases t:j<b.length
    ·have T:=s c m;have ar:=s j t;have r:aC wr ⟨some ⟨g,0,none⟩,n⟩ (bL b):=G.Wo (fun x H=>p.block x (G.lt H) (fun e=>u x H e));have p1:=r.cell rfl c (int i64 b[c]) (l4 b c m);have p2:=r.cell rfl j (int i64 b[j]) (l4 b j t);obtain⟨c0,U⟩:=d.cells;rw[kl]at U;have I:=CP l.length b k c j t;have Y:b.getD c 0=b[c]:=(by rw[RT,RQ m];rfl);rw[Y]at I;have f:b[c]*l.length+b[j]<k.length:=by
      rw[Q];have:(b[c]+1)*l.length<=l.length*l.length:=Vt _ T;rw[Vr]at this;omega
     have O:b[c]*l.length<=10000*10000:=Uy (by omega) S;have v:Hid _:=(fun M e=>d.mark M e (b[c]*l.length+b[j]) (by rw[kl];exact f));have z:Hid _:=I;rcases d.marks.Wu with ⟨_,E,_⟩ | ⟨M,V,D,o,A,-⟩
     ·have:(jS l.length b k c j).length=0:=E;rw[kl]at this;omega
     ·have Z:k.length<=L.cap:=(by have:(jS l.length b k c j).length<=L.cap:=A;rw[kl]at this;exact this);have ag:=am o;have an:=ae o;have p3:=d.marks.cell D (b[c]*l.length+b[j]) (bool ((jS l.length b k c j)[b[c]*l.length+b[j]]'(by rw[kl];exact f))) (by simp[qn,sX,kl,f]);rw[D]at U;clear I o A r;generalize (jS l.length b k c j)[b[c]*l.length+b[j]]'(by rw[kl];exact f)=old at *;generalize H:b[c]=x at *;generalize hy:b[j]=y at *;obtain⟨q,hq⟩:∃q,x*l.length=q:=⟨_,rfl⟩
      have ap:(x:Int)*(l.length:Int)=(q:Int):=(by rw[<-hq];simp);rw[hq]at f O p3 v z;clear H hy Y;go_wp2_with fail;go_quiet (fail);go_wp2;go_roundg (b.length-(j+1))
      case measure=>omega
      case rel=>exact⟨j+1,by omega,rfl,by go_num,by rw[z.out];exact(v.out M D).Wj ((aa.refl [] _).drewN nq),(p.Wj ((aa.refl [] _).drewN nq)).setCell (R4 (by unfold Hd.blk;rw[D];rfl)) _⟩
    ·have e:j=b.length:=(by omega);subst e;rw[HR.out]at d;go_wp2;go_roundg (b.length-(c+1))
     case measure=>omega
     case rel=>exact⟨c+1,by omega,rfl,by go_num,d,p⟩
  ·have e:c=b.length:=(by omega);subst e;rw[EV]at F;go_wp2;go_end0;exact⟨rfl,F,N⟩
def fk(side:Nat)(ms:List Bool)(i j:Nat):Bool:=!(i==j)&&ms.getD (i*side+j) false
theorem zH(a:b<M)(c:d<M):b*M+d<M*M:=by
 have:(b+1)*M<=M*M:=Vt _ a;rw[Vr]at this;omega
set_option maxRecDepth 512
theorem yR(h:li v a l k z5 L)(m:k.length=l.length*l.length)(o:l.length<=10000)(B:y<l.length)(C:n<l.length) :
  Calls prog 216 #[pointer (some ⟨a,0,none⟩),int i64 y,int i64 n] v fun e F=>e=returned (bool (fk l.length k y n))/\F=v:=by
 obtain⟨G,x⟩:=h.cells;have b:y*l.length+n<k.length:=by rw[m];exact zH B C
 have j:y*l.length<=10000*10000:=Uy (by omega) o;rcases h.marks.Wu with ⟨_,z,_⟩ | ⟨H,r,t,i,d,-⟩
 ·have:k.length=0:=z;omega
 ·have u:k.length<=L.cap:=d;have E:=h.marks.cell t (y*l.length+n) (bool k[y*l.length+n]) (by simp[qn,sX,b]);have s:k.getD (y*l.length+n) false=k[y*l.length+n]:=by rw[RT,RQ b];rfl
  have f:Hid (fk l.length k y n=(!(y==n)&&k[y*l.length+n])):=by show _=_;unfold fk;rw[s]
  rw[t]at x;generalize k[y*l.length+n]=p at *;obtain⟨q,w⟩:∃q,y*l.length=q:=⟨_,rfl⟩
  have D:(y:Int)*(l.length:Int)=(q:Int):=by rw[<-w];simp
  rw[w]at b j E;clear s i d h;by_cases c:y=n
  ·have A:((y:Int) != (n:Int))=false:=(by simp[c]);have g:Hid (fk l.length k y n=false):=(by show _=_;rw[f.out];simp[c]);clear f;go_enter func216,ntmps216;go_wp2;go_ret;exact⟨aE g.out.symm,rfl⟩
  ·have A:((y:Int) != (n:Int))=true:=(by simp;omega);have g:Hid (fk l.length k y n=p):=(by show _=_;rw[f.out];simp[c]);clear f;go_enter func216,ntmps216;go_wp2;go_ret;exact⟨aE g.out.symm,rfl⟩
def ti(l:List St)(a n:Nat):Bool:=match l[n]? with | some s=>(s.kind==1)&&fg l n a | none=>false
theorem N0(h:w<z7.length):ti z7 n w=((z7[w].kind==1)&&fg z7 w n):=by
 unfold ti;rw[RQ h]
def dr(l:List St)(a:Nat)(vs:List ByteArray):Nat->List Bool
 | 0=>List.replicate (vs.length*vs.length) false
 | k+1=>if ti l a k=true then mh vs.length (bH vs (symsAt l k)) (dr l a vs k) else dr l a vs k
def gq(l:List St)(a:Nat)(vs:List ByteArray):List Bool:=dr l a vs l.length
theorem mm(k:Nat):(dr z7 n S k).length=S.length*S.length:=by
 induction k with
 | zero=>simp[dr]
 | succ k a =>
  rw[dr];split
  ·unfold mh;rw[tH,a]
  ·exact a
theorem GZ{x:ByteArray}(h:mq g x=some b):b<g.length:=by
 have:=SU h;simpa using this
theorem tN(h:w<(bH z0 S).length):(bH z0 S)[w]<z0.length:=by
 have a:=Sj h;unfold bH at a;rw[VH]at a;obtain⟨x,_,b⟩:=a;exact GZ b
theorem PY:(prog.info? 4).map (fun i=>(i.zero,i.size,i.bytes))=some (some (bool false),1,1):=by kernel_rfl
theorem Mt(v:Value)(n:Nat):madeCells #[v] n=(List.replicate n v).toArray:=by
 apply Array.ext
 ·rw[TO];simp
 ·intro i a b;have h:i<n:=by rw[TO]at a;exact a
  have:=AL v n i h;rw[Array.getElem?_eq_getElem a]at this;simp at this ⊢;exact this
theorem aa.ofP{b:World}(K:aa [] H x)(g:fy zb x b)(c:∀k,zb k->H.heap.size<=k):aa [] H b :=
 ⟨g.os.trans K.os,g.tape.trans K.tape,g.output.trans K.output,Sc K.size g.size,fun k a _=>(g.block k (R6 a K.size) (fun e=>by have:=c k e;omega)).trans (K.block k a (by simp))⟩
set_option maxRecDepth 100000
theorem Ll(l:List St)(H:Nat->Hd)(hw:Hd)(a:List ByteArray)(b:World)(h:f9 b y n l H)(ok:lu l)(hO:aC b hw (aG a))(K:a.length<=10000) :
  Calls prog 210 #[pointer (some ⟨y,n,none⟩),int i64 w,slice hw.ao a.length hw.cap] b fun e w'=>∃(tb:Nat) (s p:Hd),e=returned (pointer (some ⟨tb,0,none⟩))/\li w' tb a (gq l w a) s p/\b.heap.size<=tb/\(∀x,s.blk=some x∨p.blk=some x->b.heap.size<=x)/\aa [] b w':=by
 obtain⟨i0,hi,a0,X,a1⟩:=Sr lA;obtain⟨i1,an,az,aS,aT⟩:=Sr PY;have a2:=ok.len;have a4:=h.lt;obtain⟨q,hq⟩:∃q,a.length*a.length=q:=⟨_,rfl⟩
 have a7:(a.length:Int)*(a.length:Int)=(q:Int):=by rw[<-hq];simp
 have ba:q<=10000*10000:=by rw[<-hq];exact Uy K K
 have m1:=fun b=>dH (P:=prog) b 61 9 i0 _ underlying61 hi a0 a.length 1 X (by rw[a1];omega) (by omega);have m2:=fun b=>dH (P:=prog) b 134 4 i1 _ underlying134 an az q 1 aS (by rw[aT];omega) (by omega);obtain⟨z,j⟩:∃mc,mc=madeCells (string ⟨#[]⟩).cells (a.length*1):=⟨_,rfl⟩
 obtain⟨o,m⟩:∃mc,mc=madeCells (bool false).cells (q*1):=⟨_,rfl⟩
 have z1:z.size=a.length*1:=by rw[j,TO]
 have O:Hid (o=(sX (dr l w a 0)).toArray):=by
  show _=_;rw[m,Nat.mul_one,<-hq];have:(bool false).cells=#[bool false]:=rfl;rw[this,Mt];simp[dr,sX]
 rw[<-j]at m1;rw[<-m]at m2;clear j m;have K2:aa [] b (b.alloc (.cells z 9)):=(aa.refl [] _).alloc _;have A:Hid ((prog.info? (aG a).e).map (·.size)=some (aG a).size):=by show _=_;simp[aG,hi,X]
 obtain⟨f,Q,D,U,Y⟩:=qD (P:=prog) (b.alloc (.cells z 9)) 61 61 3 b.heap.size a.length hw (aG a) z 9 underlying61 A.out (R2 _ _) (hO.Wo (fun x t=>K2.block x (hO.lt t) (by simp))) z1 (mw _);simp only[aG]at Q D;have B:f.heap.size=b.heap.size+1:=by rw[Y];simp
 have K3:aa [] b f:=((K2.mono (S':=[b.heap.size]) (by simp)).trans U).mono (by simp);obtain⟨W4,d⟩:∃W4,W4=(f.alloc (.cells o 4)).alloc (.cells #[slice (some ⟨b.heap.size,0,none⟩) a.length a.length,slice (some ⟨f.heap.size,0,none⟩) q q] 327):=⟨_,rfl⟩
 have K4:aa [] b W4:=by rw[d];exact(K3.alloc _).alloc _
 have G:Hid (q=(dr l w a 0).length):=by show _=_;rw[mm,hq]
 have Z:li W4 (f.heap.size+1) a (dr l w a 0) ⟨some ⟨b.heap.size,0,none⟩,a.length⟩ ⟨some ⟨f.heap.size,0,none⟩,q⟩:=by
  refine⟨?_,?_,?_,?_,?_,?_⟩
  ·rw[d,<-G.out];have:=R2 (f.alloc (.cells o 4)) (.cells #[slice (some ⟨b.heap.size,0,none⟩) a.length a.length,slice (some ⟨f.heap.size,0,none⟩) q q] 327);simpa using this
  ·refine aC.made (r:=aG a) ?_ (Du _) (by simp only[aG];unfold maxLen;omega);rw[d];exact(((aa.refl [] _).alloc _).alloc _).get D (by simp)
  ·have e:(⟨some ⟨f.heap.size,0,none⟩,q⟩:Hd)=⟨some ⟨f.heap.size,0,none⟩,(qn (dr l w a 0)).n⟩:=(by rw[G.out];rfl);rw[e];refine aC.made (r:=qn (dr l w a 0)) ?_ (yV _) (by simp only[qn];rw[<-G.out];unfold maxLen;omega);rw[d];have:=((aa.refl [] (f.alloc (.cells o 4))).alloc (.cells #[slice (some ⟨b.heap.size,0,none⟩) a.length a.length,slice (some ⟨f.heap.size,0,none⟩) q q] 327)).get (R2 f (.cells o 4)) (by simp);rw[this,O.out];rfl
  ·intro e;simp[Hd.blk]at e;omega
  ·intro e;simp[Hd.blk]at e
  ·right;intro e;simp[Hd.blk]at e;omega
 have C:Hid _:=d.symm;rw[B]at C Z;clear d U D O K2 hO A z1 Y;obtain⟨s,F⟩:∃s:Hd,s=⟨some ⟨b.heap.size,0,none⟩,a.length⟩:=⟨_,rfl⟩
 obtain⟨p,E⟩:∃p:Hd,p=⟨some ⟨b.heap.size+1,0,none⟩,q⟩:=⟨_,rfl⟩
 rw[<-F,<-E]at Z;have HB:Hid (∀x,s.blk=some x∨p.blk=some x->b.heap.size<=x/\x<=b.heap.size+1):=by
  intro x t;rw[F,E]at t;simp[Hd.blk]at t;omega
 clear F E;go_enter func210,ntmps210;go_upto_region 4 with fail
 rw[C.out];clear C m1 m2 Q K3 B;go_wp2
 go_loopg [9] l.length (fun gk i wr=>∃k:Nat,k<=l.length/\gk=l.length-k/\i=int i64 k/\li wr (b.heap.size+1+1) a (dr l w a k) s p/\aa [] b wr)
 case atStart=>exact⟨0,by omega,by omega,rfl,Z,K4⟩
 case round =>
  obtain⟨k,hk,hg,rfl,R,S⟩:=hrel;have I:=h.Wj S;have a3:=R.lt;clear Z K4;by_cases c:k<l.length
  ·have L:Hid _:=N0 l w k c;have bc:=ok.syms k c;have a5:=ok.pos k c;have SY:Hid (symsAt l k=l[k].We):=oD l k c;have M:Hid (dr l w a (k+1)=if ti l w k=true then mh a.length (bH a (symsAt l k)) (dr l w a k) else dr l w a k):=rfl;cases W:(l[k].kind==1)
   ·have N:Hid (dr l w a (k+1)=dr l w a k):=(by show _=_;rw[M.out,L.out,W];simp);clear L M SY;go_wp2_with (first | (go_at_call 81;refine(fe y n l H _ (by exact I)).mono ?_;rintro e wc ⟨rfl,rfl⟩) | (go_at_call 98;refine(bG y n k l H _ (by exact I) c).mono ?_;rintro e w5 ⟨rfl,g⟩;unfold fL));go_roundg (l.length-(k+1))
    case measure=>omega
    case rel=>exact⟨k+1,by omega,rfl,by go_num,by rw[N.out];exact(R.Wj g).Wj ((aa.refl [] _).alloc _),(S.trans g).alloc _⟩
   ·go_wp2_with (first | (go_at_call 81;refine(fe y n l H _ (by exact I)).mono ?_;rintro e wc ⟨rfl,ax⟩;rw[ax]) | (go_at_call 98;refine(bG y n k l H _ (by exact I) c).mono ?_;rintro e w5 ⟨rfl,g⟩;unfold fL));obtain⟨W6,v⟩:∃W6,W6=w5.alloc (.cells #[int i64 l[k].kind,string l[k].label,slice (H (10+2*k)).ao l[k].We.length (H (10+2*k)).cap,slice (H (11+2*k)).ao l[k].Wp.length (H (11+2*k)).cap,string l[k].fin.file,int i64 l[k].fin.line,int i64 l[k].fin.col,int i64 l[k].til] 158):=⟨_,rfl⟩
    rw[<-v];have k6:aa [] wr W6:=by rw[v];exact g.alloc _
    have B6:=fY v.symm;obtain⟨-,-,q2,-⟩:=vI B6;have J:=I.Wj k6;have u:=R.Wj k6;have T:=S.trans k6;have al:=(J.Wv.syms k l[k] (RQ c)).view;clear v g k6 B6 I R S;cases hh:fg l k w
    ·have N:Hid (dr l w a (k+1)=dr l w a k):=(by show _=_;rw[M.out,L.out,hh];simp);clear L M SY;go_wp2_with (go_at_call 188;refine(hZ y n k w l H _ (by exact J) c).mono ?_;rintro e w7 ⟨rfl,rfl⟩);go_roundg (l.length-(k+1))
     case measure=>omega
     case rel=>exact⟨k+1,by omega,rfl,by go_num,by rw[N.out];exact u,T⟩
    ·have N:Hid (dr l w a (k+1)=mh a.length (bH a l[k].We) (dr l w a k)):=(by show _=_;rw[M.out,L.out,W,hh,SY.out];simp);clear L M SY;go_wp2_with (first | (go_at_call 188;refine(hZ y n k w l H _ (by exact J) c).mono ?_;rintro e w7 ⟨rfl,ar⟩;rw[ar]) | (go_at_call 239;refine(yB (b.heap.size+1+1) a (dr l w a k) s p (H (10+2*k)) l[k].We _ (by exact u) (by omega) (by exact al) (by omega)).mono ?_;rintro e w8 ⟨hd,rfl,ai,ag,V⟩));have ac:=u.Wj V;have a6:=rx a l[k].We
     refine(CL (b.heap.size+1+1) a (dr l w a k) s p hd (bH a l[k].We) _ ac (mm _ _ _ _) K ai (by omega) (fun i hi=>tN a l[k].We i hi) (by
      intro x t e;have h1:=ag x t;have h2:=HB.out x (RZ e);have h3:=u.lt
      omega)).mono ?_
     rintro e w9 ⟨rfl,ad,ap⟩;have af:=(T.trans V).ofP ap (fun x t=>(HB.out x (RZ t)).1);go_wp2;go_roundg (l.length-(k+1))
     case measure=>omega
     case rel=>exact⟨k+1,by omega,rfl,by go_num,by rw[N.out];exact ad,af⟩
  ·have e:k=l.length:=(by omega);subst e;go_wp2_with (go_at_call 81;refine(fe y n l H _ (by exact I)).mono ?_;rintro e wc ⟨rfl,rfl⟩);go_ret;exact⟨b.heap.size+1+1,s,p,rfl,R,by omega,fun x t=>(HB.out x t).1,S⟩
structure bi(w:World)(b t:Nat)(cs:List Value)(rows:Nat->eB)(H:Nat->Hd):Prop where
 blk:w.heap[b]?=some (.cells cs.toArray t)
 own:∀i,aC w (H i) (rows i)
 apart:∀i j,i≠j->(H i).blk=none∨(H i).blk≠(H j).blk
 off:∀i,(H i).blk≠some b
theorem bi.lt(h:bi H b d o D f):b<H.heap.size:=ae h.blk
theorem bi.inlt(h:bi H b d o D f)(c:gO f M):M<H.heap.size:=by
 obtain⟨i,a⟩:=c;exact(h.own i).lt a
theorem bi.free(h:bi H b d o D f)(i:Nat):H.frozen? ⟨b,i,none⟩=false:=am h.blk i
theorem bi.cell(h:bi H b d o D f)(i:Nat):H.cell? ⟨b,i,none⟩=o[i]?:=by rw[aj h.blk];simp
theorem bi.keptP(h:bi H b d o D f)(c:fy zb H x)(e:¬zb b)(g:∀k,gO f k->¬zb k):bi x b d o D f :=
 ⟨c.get h.blk e,fun i=>(h.own i).Wo (fun k a=>c.block k ((h.own i).lt a) (g k ⟨i,a⟩)),h.apart,h.off⟩
theorem bi.kept(h:bi H b d o D f)(c:aa z6 H x)(a:b∉z6)(g:∀k,gO f k->k∉z6):bi x b d o D f :=
 h.keptP (c.toP (P:=(·∈z6)) (fun _ e _=>e)) a g
theorem bi.Wj(h:bi H b d o D f)(a:aa [] H x):bi x b d o D f:=h.kept a (by simp) (by simp)
theorem bi.put{rows':Nat->eB}(h:bi H b d o D f)(c i:Nat)(s:Hd)(G:aC x s (rows' i))(v:H.grownBy x (f i).blk)(m:s.blk=none∨s.blk=(f i).blk∨∃g,s.blk=some g/\H.heap.size<=g)(z:∀j,j≠i->rows' j=D j)(u:Value) :
  bi (x.setCell ⟨b,c,none⟩ u) b d (o.set c u) rows' (ip f i s)/\aB b H f (x.setCell ⟨b,c,none⟩ u) (ip f i s):=by
 have F:=h.lt;have A:x.heap[b]?=some (.cells o.toArray d):=(v.block b F (fun e=>h.off i e.symm)).trans h.blk;have t:∀j,(ip f i s j).blk≠some b:=by
  intro j;by_cases e:j=i
  ·subst e;rw[dw];intro w;rcases m with m | m | ⟨g,m,p⟩
   ·rw[m]at w;cases w
   ·exact h.off j (m ▸ w)
   ·rw[m]at w;cases w;omega
  ·rw[bX _ _ _ _ e];exact h.off j
 refine⟨⟨?_,?_,?_,t⟩,⟨v.os,v.tape,v.output,by have:=v.size;simp[World.setCell];omega,?_⟩,?_⟩
 ·rw[ah A,SV]
 ·intro j;have q:aC x (ip f i s j) (rows' j):=by
   by_cases e:j=i
   ·subst e;rw[dw];exact G
   ·rw[bX _ _ _ _ e,z j e];refine(h.own j).Wo (fun k n=>v.block k ((h.own j).lt n) ?_);intro y;rcases h.apart j i e with a | a
    ·rw[a]at n;cases n
    ·exact a (n.trans y)
  refine q.Wo (fun k n=>Sg _ _ _ _ ?_);rintro rfl;exact t j n
 ·intro j l r;by_cases e:j=i
  ·subst e;rw[dw,bX _ _ _ _ (fun e=>r e.symm)];rcases m with m | m | ⟨g,m,p⟩
   ·exact R4 m
   ·rw[m];exact h.apart j l r
   ·right;rw[m];intro y;have:=(h.own l).lt y.symm;omega
  ·rw[bX _ _ _ _ e];by_cases B:l=i
   ·subst B;rw[dw];rcases m with m | m | ⟨g,m,p⟩
    ·rw[m];cases (f j).blk <;> simp
    ·rw[m];exact h.apart j l r
    ·cases w:(f j).blk with
     | none=>exact R4 rfl
     | some k=>right;rw[m];intro y;cases y;have:=(h.own j).lt w;omega
   ·rw[bX _ _ _ _ B];exact h.apart j l r
 ·intro k n E;rw[Sg _ _ _ _ (fun e=>E (R4 e))];exact v.block k n (fun e=>E (RZ ⟨i,e.symm⟩))
 ·intro k n;obtain⟨j,e⟩:=n;by_cases C:j=i
  ·subst C;rw[dw]at e;rcases m with m | m | ⟨g,m,p⟩
   ·rw[m]at e;cases e
   ·exact R4 ⟨j,m ▸ e⟩
   ·rw[m]at e;cases e;exact RZ p
  ·rw[bX _ _ _ _ C]at e;exact R4 ⟨j,e⟩
theorem bi.set(h:bi H b d o D f)(c:Nat)(u:Value) :
  bi (H.setCell ⟨b,c,none⟩ u) b d (o.set c u) D f/\aB b H f (H.setCell ⟨b,c,none⟩ u) f:=by
 refine⟨⟨?_,?_,h.apart,h.off⟩,(fy.refl _ _).setCell (R4 (R4 rfl)) _,fun _ a=>R4 a⟩
 ·rw[ah h.blk,SV]
 ·intro j;refine(h.own j).Wo (fun k a=>Sg _ _ _ _ ?_);rintro rfl;exact h.off j a
theorem bi.app{cs':List Value}{rows':Nat->eB}(h:bi H b d o D f)(c i g a m:Nat)(r:eB)(p:aC x ⟨some ⟨g,0,none⟩,a⟩ r)(u:r=rows' i)(l:H.grownBy x (f i).blk)(k:(f i).blk=some g∨H.heap.size<=g)(n:∀j,j≠i->rows' j=D j)(s:Value)(v:o[c]?=some s)(t:o.set c (slice (some ⟨g,0,none⟩) m a)=cs') :
  x.cell? ⟨b,c,none⟩=some s/\x.frozen? ⟨b,c,none⟩=false /\
  Hid (bi (x.setCell ⟨b,c,none⟩ (slice (some ⟨g,0,none⟩) m a)) b d cs' rows' (ip f i ⟨some ⟨g,0,none⟩,a⟩) /\
   aB b H f (x.setCell ⟨b,c,none⟩ (slice (some ⟨g,0,none⟩) m a)) (ip f i ⟨some ⟨g,0,none⟩,a⟩)):=by
 have q:=(l.block b h.lt (fun e=>h.off i e.symm)).trans h.blk;subst u;subst t;refine⟨by rw[aj q];simpa using v,am q _,?_⟩;exact h.put (rows':=rows') c i ⟨some ⟨g,0,none⟩,a⟩ p l
  (by
    rcases k with e | e
    ·exact RZ (R4 e.symm)
    ·exact RZ (RZ ⟨g,rfl,by simpa using e⟩)) n _
structure rJ(w:World)(b o g:Nat)(L:List Rw):Prop where
 cell:∃arr t,w.heap[b]?=some (.cells arr t)/\arr[o+2]?=some (slice (some ⟨g,0,none⟩) L.length L.length)
 arr:w.heap[g]?=some (.cells (iI L).toArray 38)
theorem rJ.Wj(h:rJ H b d M zt)(k:aa [] H x):rJ x b d M zt:=by
 obtain⟨a,t,c,e⟩:=h.cell;exact⟨⟨a,t,k.get c (by simp),e⟩,k.get h.arr (by simp)⟩
theorem rJ.at2(h:rJ H b d M zt):H.cell? ⟨b,d+2,none⟩=some (slice (some ⟨M,0,none⟩) zt.length zt.length):=by
 obtain⟨a,t,c,e⟩:=h.cell;rw[aj c];exact e
def rs(r:Rw):Bool:=!(r.Wk==0)
def jV(L:List Rw)(k:Nat):List Rw:=(L.take k).filter rs
theorem Fr(h:T.length<=10000):(jV T w).length<=10000:=by
 have a:=TQ rs (T.take w);have b:(T.take w).length<=T.length:=by simp;omega
 unfold jV;omega
theorem Ft(a:w<T.length)(h:(T[w].Wk==0)=false):jV T (w+1)=jV T w++[T[w]]:=by
 unfold jV;rw[lS T w a,Tf];simp[rs,h]
theorem Kc(a:w<T.length)(h:(T[w].Wk==0)=true):jV T (w+1)=jV T w:=by
 unfold jV;rw[lS T w a,Tf];simp[rs,h]
theorem Fq:jV T T.length=T.filter rs:=by unfold jV;rw[Tr]
theorem Na:∀u∈iI T,u.oneCell'=true:=by
 intro u a;unfold iI at a;rw[Ua]at a;obtain⟨r,_,b⟩:=a;exact Hb r u b
theorem Ke(h:rJ v a y n T)(hL:T.length<=10000) :
  Calls prog 59 #[pointer (some ⟨a,y,none⟩)] v fun e w'=>∃Z:Option Nat,e=returned (M7 Z (T.filter rs).length)/\Lc w' Z (T.filter rs)/\(∀x,Z=some x->v.heap.size<=x)/\aa [] v w':=by
 obtain⟨i0,V,G,q,H⟩:=Sr Mh;go_enter func59,ntmps59;go_wp2
 go_loopg [3,4] T.length (fun gk sv i wr=>∃(k:Nat) (l:Hd),k<=T.length/\gk=T.length-k/\i=int i64 k/\sv=slice l.ao (jV T k).length l.cap/\aC wr l (qr (jV T k))/\(∀x,l.blk=some x->v.heap.size<=x)/\aa [] v wr)
 case atStart=>exact⟨0,⟨none,0⟩,by omega,by omega,rfl,rfl,Sb _ _ _ _,by intro x f;simp[Hd.blk]at f,aa.refl _ _⟩
 case round =>
  obtain⟨k,l,hk,hg,rfl,rfl,t,S,s⟩:=hrel;have hT:=h.Wj s;have c2:=hT.at2;have U:=Fr T k hL;by_cases p:k<T.length
  ·obtain⟨a0,a1,a2,a3,a4,a5⟩:=QW hT.arr (fun j af b=>by simpa using b) k p;have K:Hid _:=Ft T k p;have o:Hid _:=Kc T k p;have ad:(k:Int)<T.length:=(by omega);generalize T[k]=r at *;cases I:(r.Wk==0)
   ·have X:(r.Wk != 0)=true:=(by simp[bne,I]);have w:Hid _:=K.out I;have C:=t.Wo (fun x f=>((aa.refl [] wr).alloc (.cells #[string r.label,int i64 r.Wk,int i64 r.why,string r.at_.file,int i64 r.at_.line,int i64 r.at_.col] 38)).block x (t.lt f) (by simp));clear K o;(go_upto_region 6 with fail);go_wp2_with (at_builtin;refine aO _ rfl (.tmp 24) (.tmp 32) 54 rfl i0 (agg #[string ⟨#[]⟩,int i64 0,int i64 0,string ⟨#[]⟩,int i64 0,int i64 0]) 64 l (qr (jV T k)) underlying54 V G q H rfl (Vh 5) rfl (by exact C) ⟨_,0,none⟩ 1 1 (kU r) rfl rfl ?d1 ?d2 So ?d3 ?d4 ?_)
    case d1 =>
     intro j u b
     match j,b with
     | 0,b=>simp[kU]at b;subst b;simp[Addr.add]
     | 1,b=>simp[kU]at b;subst b;simp[Addr.add]
     | 2,b=>simp[kU]at b;subst b;simp[Addr.add]
     | 3,b=>simp[kU]at b;subst b;simp[Addr.add]
     | 4,b=>simp[kU]at b;subst b;simp[Addr.add]
     | 5,b=>simp[kU]at b;subst b;simp[Addr.add]
     | j+6,b=>simp[kU]at b
    case d2=>exact Hb r
    case d3=>simp only[qr];unfold maxLen;omega
    case d4=>simp only[qr];omega
    intro O A w5 F m c;rw[J4 (jV T k) r,<-w.out]at F;have B:=s.alloc (.cells #[string r.label,int i64 r.Wk,int i64 r.why,string r.at_.file,int i64 r.at_.line,int i64 r.at_.col] 38);have R:=B.grown m S;have ac:v.heap.size<=O:=by
     rcases c with e | e
     ·exact S O e
     ·have:=B.size;simp at e this;omega
    have Q:Hid ((qr (jV T k)).n+1=(jV T (k+1)).length):=(by show _=_;rw[w.out];simp[qr]);rw[Q.out];clear m c C;go_wp2;go_roundg (T.length-(k+1))
    case measure=>omega
    case rel=>exact⟨k+1,⟨some ⟨O,0,none⟩,A⟩,by omega,rfl,by go_num,rfl,F,by intro x f;simp[Hd.blk]at f;omega,R⟩
   ·have X:(r.Wk != 0)=false:=(by simp[bne,I]);have w:Hid _:=o.out I;clear K o;go_wp2;go_roundg (T.length-(k+1))
    case measure=>omega
    case rel=>exact⟨k+1,l,by omega,rfl,by go_num,by rw[w.out],by rw[w.out];exact t,S,s⟩
  ·have e:k=T.length:=(by omega);subst e;obtain⟨M,J⟩:∃M,Hid (T.filter rs=M):=⟨_,rfl⟩
   rw[Fq,J.out]at U t ⊢;by_cases hm:M.length=0
   ·have W:((M.length:Int)==0)=true:=(by simp[hm]);have hM:M=[]:=Sw hm;go_wp2;go_ret;rw[J.out];exact⟨none,rfl,hM,by simp,s⟩
   ·have W:((M.length:Int)==0)=false:=(by rw[Sp];omega);have m1:=fun v=>dH (P:=prog) v 54 38 i0 _ underlying54 V G M.length 6 q (by rw[H];omega) (by omega);obtain⟨g,d⟩:∃mc,mc=madeCells (agg #[string ⟨#[]⟩,int i64 0,int i64 0,string ⟨#[]⟩,int i64 0,int i64 0]).cells (M.length*6):=⟨_,rfl⟩
    have z1:g.size=M.length*6:=(by rw[d,TO]);rw[<-d]at m1;clear d;have L:aa [] wr (wr.alloc (.cells g 38)):=(aa.refl [] _).alloc _;have z:Hid ((prog.info? (qr M).e).map (·.size)=some (qr M).size):=by show _=_;simp[qr,V,q]
    obtain⟨w3,N,D,E,Y⟩:=qD (P:=prog) (wr.alloc (.cells g 38)) 54 54 3 wr.heap.size M.length l (qr M) g 38 underlying54 z.out (R2 _ _) (t.Wo (fun x f=>L.block x (t.lt f) (by simp))) z1 (Na _);simp only[qr]at N D;have K3:aa [] wr w3:=((L.mono (S':=[wr.heap.size]) (by simp)).trans E).mono (by simp);have hs:=s.size;clear E Y L;go_wp2;go_ret;rw[J.out];exact⟨some wr.heap.size,rfl,⟨by omega,D⟩,fun x f=>by cases f;exact hs,s.trans K3⟩
set_option maxRecDepth 512
theorem Kf(h:v.cell? ⟨y,n+2,none⟩=some (slice none 0 0)) :
  Calls prog 59 #[pointer (some ⟨y,n,none⟩)] v fun e a=>e=returned (slice none 0 0)/\a=v:=by
 go_enter func59,ntmps59;go_wp2;refine Uh 1 ?_;rw[UD];go_wp2;go_ret;exact⟨rfl,rfl⟩
structure kK where
 kind:Int
 Wf:Nat
 at_:Pl
def lD(s:kK):List Value:=[int i64 s.kind,int i64 s.Wf,string s.at_.file,int i64 s.at_.line,int i64 s.at_.col]
def xO(l:List kK):List Value:=l.flatMap lD
def gU(l:List kK):eB:=⟨174,5,l.length,xO l⟩
theorem uL(l:List kK)(s:kK):(⟨(gU l).e,(gU l).size,(gU l).n+1,(gU l).xs++lD s⟩:eB)=gU (l++[s]):=by simp[gU,xO]
theorem uQ(s:kK):∀u∈lD s,u.oneCell'=true:=by
 intro u a;simp only[lD,List.mem_cons,List.not_mem_nil,or_false]at a;rcases a with rfl | rfl | rfl | rfl | rfl <;> rfl
theorem Pv:(prog.info? 174).map (fun i=>(i.zero,i.size,i.bytes))=some (some (agg #[int i64 0,int i64 0,string ⟨#[]⟩,int i64 0,int i64 0]),5,48):=by kernel_rfl
structure lj where
 names:List Nat
 Wr:List Nat
 steps:List kK
 Wl:Nat
 behind:Bool
def xC(c:lj):Nat->eB
 | 0=>bL c.names
 | 1=>bL c.Wr
 | 2=>gU c.steps
 | _+3=>bL []
def lX(c:lj)(H:Nat->Hd):List Value :=
 [slice (H 0).ao c.names.length (H 0).cap,slice (H 1).ao c.Wr.length (H 1).cap,slice (H 2).ao c.steps.length (H 2).cap,int i64 c.Wl,bool c.behind]
def dY(w:World)(b:Nat)(c:lj)(H:Nat->Hd):Prop:=bi w b 279 (lX c H) (xC c) H
theorem dY.cells{c:lj}(h:dY H b c f) :
  H.cell? ⟨b,0,none⟩=some (slice (f 0).ao c.names.length (f 0).cap)/\H.cell? ⟨b,1,none⟩=some (slice (f 1).ao c.Wr.length (f 1).cap)/\H.cell? ⟨b,2,none⟩=some (slice (f 2).ao c.steps.length (f 2).cap) /\
  H.cell? ⟨b,3,none⟩=some (int i64 c.Wl)/\H.cell? ⟨b,4,none⟩=some (bool c.behind) :=
 ⟨bi.cell h 0,bi.cell h 1,bi.cell h 2,bi.cell h 3,bi.cell h 4⟩
structure iY(c:lj)(N:Nat):Prop where
 names:c.names.length<=N
 Wr:c.Wr.length<=N
 steps:c.steps.length<=N
 Wl:c.Wl<=10*N+5
 behind:c.behind=true->0<c.steps.length
def dB(c:lj)(s:kK):lj:={ c with steps:=c.steps++[s],behind:=false }
set_option maxRecDepth 100000
theorem pM(c:lj)(H:Nat->Hd)(k:Int)(n:Nat)(f:ByteArray)(l b:Int)(v:World)(h:dY v w c H)(ok:iY c 10000000) :
  Calls prog 245 #[pointer (some ⟨w,0,none⟩),agg #[int i64 k,int i64 n,string f,int i64 l,int i64 b]] v fun e I=>e=returned (tuple #[])/\∃x,dY I w (dB c ⟨k,n,⟨f,l,b⟩⟩) x/\aB w v H I x/\∀j,j≠2->x j=H j:=by
 obtain⟨Y,T,C,D,E⟩:=Sr Pv;have V:=ok.steps;obtain⟨W,t⟩:∃W,W=v.alloc (.cells #[int i64 k,int i64 n,string f,int i64 l,int i64 b] 174):=⟨_,rfl⟩
 have K:=fN t.symm;have s:dY W w c H:=bi.Wj h K;have B:=fY t.symm;obtain⟨y0,y1,y2,y3,y4⟩:=nR B;obtain⟨L,M,N,O,P⟩:=s.cells;clear L M O;have z:=bi.free s;have R:=bi.lt s;have X:=ae B;have G:Hid (dY (W.alloc (.cells #[int i64 k,int i64 n,string f,int i64 l,int i64 b] 174)).drew w c H):=bi.Wj s ((aa.refl [] W).alloc _).drew;have s2:Hid (∀j u,(lD ⟨k,n,⟨f,l,b⟩⟩)[j]?=some u->(W.alloc (.cells #[int i64 k,int i64 n,string f,int i64 l,int i64 b] 174)).drew.cell? ((⟨W.heap.size,0,none⟩:Addr).add j)=some u):=by
  intro j u o;have U:(W.alloc (.cells #[int i64 k,int i64 n,string f,int i64 l,int i64 b] 174)).drew.heap[W.heap.size]?=some (.cells #[int i64 k,int i64 n,string f,int i64 l,int i64 b] 174):=R2 _ _;rw[bS,aj U];simpa [lD] using o
 have s4:Hid ((gU c.steps).n+1<=maxLen):=by show _<=_;simp only[gU];unfold maxLen;omega
 have s5:Hid (((gU c.steps).n+1)*48<=140737488355328):=by show _<=_;simp only[gU];omega
 have J:Hid _:=t.symm;have A:Hid (∀j,j≠2->xC { c with steps:=c.steps++[⟨k,n,⟨f,l,b⟩⟩] } j=xC c j):=by
  intro j o
  match j,o with
  | 0,_=>rfl
  | 1,_=>rfl
  | 2,o=>exact absurd rfl o
  | m+3,_=>rfl
 clear t B h;go_enter func245,ntmps245;go_upto_region 1 with fail
 rw[J.out];go_region_law (refine cO rfl (.tmp 8) (.tmp 10) 163 rfl Y (agg #[int i64 0,int i64 0,string ⟨#[]⟩,int i64 0,int i64 0]) 48 (H 2) (gU c.steps) underlying163 T C D E rfl (Vh 4) (by simp[Act.eval] <;> rfl) (bi.own G.out 2) ⟨W.heap.size,0,none⟩ 1 1 (lD ⟨k,n,⟨f,l,b⟩⟩) (by simp[Act.eval]) rfl s2.out (uQ _) So s4.out s5.out ?_;intro g i w1 q p a;obtain⟨Z,Q,r⟩:=bi.app G.out (cs':=lX { c with steps:=c.steps++[⟨k,n,⟨f,l,b⟩⟩] } (ip H 2 ⟨some ⟨g,0,none⟩,i⟩)) (rows':=xC { c with steps:=c.steps++[⟨k,n,⟨f,l,b⟩⟩] }) 2 2 g i ((gU c.steps).n+1) _ q (uL c.steps ⟨k,n,⟨f,l,b⟩⟩) p (by simpa using a) A.out (slice (H 2).ao c.steps.length (H 2).cap) rfl (by simp[lX,ip,gU]);clear q p a)
 all_goals
  have F:Hid _:=bi.set r.out.1 4 (bool false);have y:=(bi.cell r.out.1 4);have S:=bi.free r.out.1;simp only[lX,List.getElem?_cons_succ,List.getElem?_cons_zero]at y;clear N P z y0 y1 y2 y3 y4 Z Q;go_wp2;go_end0;exact⟨rfl,_,F.out.1,((r.out.2.first ((aa.refl [] _).alloc _).drew).first K).trans F.out.2,fun j o=>bX _ _ _ _ o⟩
def jx(c:lj)(d:Nat):lj:=if c.Wl<=c.names.length+c.Wr.length then { c with behind:=false,Wl:=c.Wl*5+d } else { c with behind:=false }
theorem dY.digs{c:lj}(h:dY H b c f)(n:Nat):Hid (dY (H.setCell ⟨b,3,none⟩ (int i64 n)) b { c with Wl:=n } f/\aB b H f (H.setCell ⟨b,3,none⟩ (int i64 n)) f):=bi.set h 3 (int i64 n)
theorem dY.beh{c:lj}(h:dY H b c f)(x:Bool):Hid (dY (H.setCell ⟨b,4,none⟩ (bool x)) b { c with behind:=x } f/\aB b H f (H.setCell ⟨b,4,none⟩ (bool x)) f):=bi.set h 4 (bool x)
theorem dY.Wj{c:lj}(h:dY H b c f)(k:aa [] H x):dY x b c f:=bi.Wj h k
theorem yG(c:lj)(H:Nat->Hd)(d:Nat)(p:World)(h:dY p w c H)(s:iY c 10000000)(A:d<=5) :
  Calls prog 244 #[pointer (some ⟨w,0,none⟩),int i64 d] p fun e u=>e=returned (tuple #[])/\dY u w (jx c d) H/\aB w p H u H:=by
 have x:=s.names;have y:=s.Wr;have z:=s.Wl;obtain⟨i,j,k,l,m⟩:=h.cells;have f:=bi.free h;have b:=h.beh false;obtain⟨v,g⟩:∃v,v=p.setCell ⟨w,4,none⟩ (bool false):=⟨_,rfl⟩
 have o:Hid _:=g.symm;rw[<-g]at b;clear g;by_cases n:c.Wl<=c.names.length+c.Wr.length
 ·have r:Hid (jx c d={ c with behind:=false,Wl:=c.Wl*5+d }):=RY n;go_enter func244,ntmps244;go_upto_region 1 with fail
  rw[o.out];clear i j k l m f o;obtain⟨i,j,k,l,m⟩:=b.out.1.cells;simp only at i j l;clear k m;have f:=bi.free b.out.1;have t:(c.Wl:Int)<=(c.names.length:Int)+(c.Wr.length:Int):=by omega
  go_quiet (fail);have q:=b.out.1.digs (c.Wl*5+d);rw[show((c.Wl*5+d:Nat):Int)=(c.Wl:Int)*5+(d:Int) by omega]at q;go_wp2;go_end0;exact⟨rfl,by rw[r.out];exact q.out.1.Wj ((aa.refl [] _).drewN nq),aB.trans b.out.2 (aB.Wj q.out.2 ((aa.refl [] _).drewN nq))⟩
 ·have r:Hid (jx c d={ c with behind:=false }):=RU n;go_enter func244,ntmps244;go_upto_region 1 with fail
  rw[o.out];clear i j k l m f o;obtain⟨i,j,k,l,m⟩:=b.out.1.cells;simp only at i j l;clear k m;go_quiet (fail);go_wp2;go_end0;exact⟨rfl,by rw[r.out];exact b.out.1.Wj ((aa.refl [] _).drewN nq),aB.Wj b.out.2 ((aa.refl [] _).drewN nq)⟩
def eQ(c:lj)(u:Nat)(p:Pl):Int×lj :=
 if c.Wl*20+u-1<c.names.length then(0,{ dB { c with Wl:=0 } ⟨2,c.names.getD (c.Wl*20+u-1) 0,p⟩ with behind:=true })
 else if c.Wl*20+u-1-c.names.length<c.Wr.length then(0,{ dB { c with Wl:=0 } ⟨3,c.Wr.getD (c.Wl*20+u-1-c.names.length) 0,p⟩ with behind:=true })
 else(5,{ c with Wl:=0 })
theorem QQ(h:w<i.length):i.getD w 0=i[w]:=by rw[RT,RQ h];rfl
theorem LB(f:ByteArray)(l c:Int) :
  ∃W,Hid (v.alloc (.cells #[string f,int i64 l,int i64 c] 36)=W)/\aa [] v W/\W.heap[v.heap.size]?=some (.cells #[string f,int i64 l,int i64 c] 36)/\W.cell? ⟨v.heap.size,0,none⟩=some (string f)/\W.cell? ⟨v.heap.size,1,none⟩=some (int i64 l)/\W.cell? ⟨v.heap.size,2,none⟩=some (int i64 c):=by
 have B:(v.alloc (.cells #[string f,int i64 l,int i64 c] 36)).heap[v.heap.size]?=some (.cells #[string f,int i64 l,int i64 c] 36):=R2 _ _;refine⟨_,rfl,(aa.refl [] _).alloc _,B,?_,?_,?_⟩ <;> rw[aj B] <;> rfl
theorem wK(c:lj)(H:Nat->Hd)(u:Nat)(f:ByteArray)(l d:Int)(q:World)(h:dY q w c H)(I:iY c 10000000)(hu:1<=u)(ap:u<=20) :
  Calls prog 243 #[pointer (some ⟨w,0,none⟩),int i64 u,agg #[string f,int i64 l,int i64 d]] q fun e w'=>e=returned (int i64 (eQ c u ⟨f,l,d⟩).1)/\∃H',dY w' w (eQ c u ⟨f,l,d⟩).2 H'/\aB w q H w' H':=by
 have h1:=I.names;have h2:=I.Wr;have h3:=I.Wl;obtain⟨W,HW,K,B,p0,p1,p2⟩:=LB q f l d;have hC:=h.Wj K;have ai:q.heap.size≠w:=by have:=bi.lt h;omega
 have an:Hid (∀k,gO H k->k≠q.heap.size):=fun k hk=>by have:=bi.inlt h hk;omega
 obtain⟨y,z,P,Q,R⟩:=hC.cells;have ag:=bi.free hC;have n:Hid (dY (W.setCell ⟨w,3,none⟩ (int i64 0)) w { c with Wl:=0 } H/\aB w W H (W.setCell ⟨w,3,none⟩ (int i64 0)) H):=hC.digs 0;obtain⟨A,m⟩:∃A,A=W.setCell ⟨w,3,none⟩ (int i64 0):=⟨_,rfl⟩
 have C:Hid _:=m.symm;rw[<-m]at n;have B2:A.heap[q.heap.size]?=some (.cells #[string f,int i64 l,int i64 d] 36):=by rw[m];exact(Sg _ _ _ _ ai).trans B
 obtain⟨r0,r1,r2⟩:=vH B2;clear m h;have J:iY { c with Wl:=0 } 10000000:=⟨h1,h2,I.steps,SE _,I.behind⟩;have ad:Hid (c.Wl*20+u-1=c.Wl*20+(u-1)):=by show _=_;omega
 obtain⟨v,hv⟩:∃v,u=v+1:=⟨u-1,by omega⟩
 subst hv;have p:Hid (c.Wl*20+(v+1)-1=c.Wl*20+v):=by show _=_;omega
 have G:(c.Wl:Int)*20+((v:Int)+1)-1=((c.Wl*20+v:Nat):Int):=by omega
 obtain⟨a,t⟩:∃a,c.Wl*20+v=a:=⟨_,rfl⟩
 have x:Hid (eQ c (v+1) ⟨f,l,d⟩=if a<c.names.length then(0,{ dB { c with Wl:=0 } ⟨2,c.names.getD a 0,⟨f,l,d⟩⟩ with behind:=true }) else if a-c.names.length<c.Wr.length then(0,{ dB { c with Wl:=0 } ⟨3,c.Wr.getD (a-c.names.length) 0,⟨f,l,d⟩⟩ with behind:=true }) else(5,{ c with Wl:=0 })):=by
  show _=_;unfold eQ;rw[p.out,t]
 rw[t]at G;have al:a<=4000000000:=by omega
 go_enter func243,ntmps243;go_upto_region 1 with fail
 rw[HW.out];go_upto_region 3 with fail
 rw[C.out];clear HW C y z P Q R ag p0 p1 p2 G p ad t;obtain⟨y,z,P,Q,R⟩:=n.out.1.cells;simp only at y z;clear P Q R;have N:Hid (aB w q H A H):=aB.first K n.out.2;by_cases E:a<c.names.length
 ·have F:=QQ c.names a E;have o:Hid (eQ c (v+1) ⟨f,l,d⟩=(0,{ dB { c with Wl:=0 } ⟨2,c.names[a],⟨f,l,d⟩⟩ with behind:=true })):=by show _=_;rw[x.out,RY E,F]
  have s:aC A (H 0) (bL c.names):=bi.own n.out.1 0;rcases s.Wu with ⟨_,Z,_⟩ | ⟨g,S,p,-,Y,-⟩
  ·have:c.names.length=0:=Z;omega
  ·have pe:=s.cell p a (int i64 c.names[a]) (l4 c.names a E);rw[p]at y;have ac:c.names.length<=(H 0).cap:=Y;generalize c.names[a]=nx at *;clear s x z F;(go_upto_region 4 with fail);go_region_with (go_at_call 245;refine(pM w { c with Wl:=0 } H 2 nx f l d _ (by exact n.out.1.Wj (aa.refl [] _).drew) J).mono ?_;rintro e w9 ⟨rfl,M,r,O,-⟩)
   all_goals
    have D:=r.beh true;obtain⟨T,U,V,X,d4⟩:=r.cells;have af:=bi.free r;clear T U V X pe y r0 r1 r2;go_wp2;go_ret;exact⟨au (by rw[o.out]),M,by rw[o.out];exact D.out.1,aB.trans N.out (aB.trans (aB.first (aa.refl [] _).drew O) D.out.2)⟩
 ·have ao:(a:Int)-(c.names.length:Int)=((a-c.names.length:Nat):Int):=by omega
  by_cases L:a-c.names.length<c.Wr.length
  ·have F:=QQ c.Wr (a-c.names.length) L;have o:Hid (eQ c (v+1) ⟨f,l,d⟩=(0,{ dB { c with Wl:=0 } ⟨3,c.Wr[a-c.names.length],⟨f,l,d⟩⟩ with behind:=true })):=(by show _=_;rw[x.out,RU E,RY L,F]);have s:aC A (H 1) (bL c.Wr):=bi.own n.out.1 1;rcases s.Wu with ⟨_,Z,_⟩ | ⟨g,S,p,-,Y,-⟩
   ·have:c.Wr.length=0:=Z;omega
   ·have pe:=s.cell p (a-c.names.length) (int i64 c.Wr[a-c.names.length]) (l4 c.Wr _ L);rw[p]at z;have ac:c.Wr.length<=(H 1).cap:=Y;generalize c.Wr[a-c.names.length]=nx at *;clear s x F;generalize hj:a-c.names.length=j at *;(go_upto_region 9 with fail);go_region_with (go_at_call 245;refine(pM w { c with Wl:=0 } H 3 nx f l d _ (by exact n.out.1.Wj (aa.refl [] _).drew) J).mono ?_;rintro e w9 ⟨rfl,M,r,O,-⟩)
    all_goals
     have D:=r.beh true;obtain⟨T,U,V,X,d4⟩:=r.cells;have af:=bi.free r;clear T U V X pe y z r0 r1 r2;go_wp2;go_ret;exact⟨au (by rw[o.out]),M,by rw[o.out];exact D.out.1,aB.trans N.out (aB.trans (aB.first (aa.refl [] _).drew O) D.out.2)⟩
  ·have o:Hid (eQ c (v+1) ⟨f,l,d⟩=(5,{ c with Wl:=0 })):=(by show _=_;rw[x.out,RU E,RU L]);clear x;generalize hj:a-c.names.length=j at *;go_wp2;go_ret;exact⟨au (by rw[o.out]),H,by rw[o.out];exact n.out.1,N.out⟩
def bB(c:lj)(n:Nat)(p:Pl):Int×lj :=
 if 65<=n/\n<=84 then eQ c (n-64) p
 else if 85<=n/\n<=89 then(0,jx c (n-84))
 else if n=90/\c.behind=true then(0,{ c with Wr:=c.Wr++[c.steps.length-1],behind:=false })
 else if n=63/\c.Wl=0 then(0,dB c ⟨1,0,p⟩)
 else(4,c)
theorem xU(c:lj)(H:Nat->Hd)(n:Nat)(f:ByteArray)(l i:Int)(S:World)(h:dY S w c H)(D:iY c 10000000)(hn:n<256) :
  Calls prog 218 #[pointer (some ⟨w,0,none⟩),int u8 n,agg #[string f,int i64 l,int i64 i]] S fun e y=>e=returned (int i64 (bB c n ⟨f,l,i⟩).1)/\∃H',dY y w (bB c n ⟨f,l,i⟩).2 H'/\aB w S H y H':=by
 have az:=D.steps;have aS:=D.Wr;obtain⟨W,v,K,B,p0,p1,p2⟩:=LB S f l i;have p:=h.Wj K;clear h;obtain⟨F,G,I,J,C⟩:=p.cells;have ac:=bi.free p;have ar:=bi.lt p;by_cases k:65<=n/\n<=84
 ·have a:Hid (bB c n ⟨f,l,i⟩=eQ c (n-64) ⟨f,l,i⟩):=RY k;have EN:=fun(y:World) (Y:dY y w c H)=>wK w c H (n-64) f l i y Y D (by omega) (by omega);have U:Hid _:=EN;obtain⟨a1,a2⟩:=k;have he:(n:Int)-65+1=((n-64:Nat):Int):=by omega
  clear EN F G I J C;generalize hq:n-64=q at *;go_enter func218,ntmps218;go_upto_region 1 with fail
  rw[v.out];go_wp2_with fail;refine(U.out _ p).mono ?_;rintro e w2 ⟨rfl,T,t,E⟩;go_wp2;go_ret;exact⟨au (by rw[a.out]),T,by rw[a.out];exact t,aB.first K E⟩
 ·by_cases o:85<=n/\n<=89
  ·have a:Hid (bB c n ⟨f,l,i⟩=(0,jx c (n-84))):=(by show _=_;unfold bB;rw[RU k,RY o]);obtain⟨a1,a2⟩:=o;have TD:=fun(y:World) (Y:dY y w c H)=>yG w c H (n-84) y Y D (by omega);have V:Hid _:=TD;have he:(n:Int)-85+1=((n-84:Nat):Int):=(by omega);have ap:¬n<=84:=(by omega);clear TD F G I J C k;generalize hq:n-84=q at *;go_enter func218,ntmps218;(go_upto_region 1 with fail);rw[v.out];go_wp2_with fail;refine(V.out _ p).mono ?_;rintro e w2 ⟨rfl,t,E⟩;go_wp2;go_ret;exact⟨au (by rw[a.out]),H,by rw[a.out];exact t,aB.first K E⟩
  ·by_cases s:n=90/\c.behind=true
   ·have a:Hid (bB c n ⟨f,l,i⟩=(0,{ c with Wr:=c.Wr++[c.steps.length-1],behind:=false })):=(by show _=_;unfold bB;rw[RU k,RU o,RY s]);obtain⟨rfl,r⟩:=s;have an:=D.behind r;rw[r]at C;obtain⟨b,P⟩:∃b,c.steps.length-1=b:=⟨_,rfl⟩
    have he:(c.steps.length:Int)-1=(b:Int):=(by omega);rw[P]at a;have aT:IntKind.i64.wrap (b:Int)=(b:Int):=by rw[TE];omega
    obtain⟨i0,hi,af,ag,ai⟩:=Sr zl;have hD:Hid (dY (W.alloc (.cells #[int i64 b] 3)).drew w c H):=p.Wj ((aa.refl [] W).alloc _).drew;have s2:Hid (∀j u,([int i64 b]:List Value)[j]?=some u->(W.alloc (.cells #[int i64 b] 3)).drew.cell? ((⟨W.heap.size,0,none⟩:Addr).add j)=some u):=by
     intro j u O;have hk:(W.alloc (.cells #[int i64 b] 3)).drew.heap[W.heap.size]?=some (.cells #[int i64 b] 3):=R2 _ _;rw[bS,aj hk];simpa using O
    have s3:Hid (∀u∈([int i64 b]:List Value),u.oneCell'=true):=(by intro u hu;simp at hu;subst hu;rfl);have s4:Hid ((bL c.Wr).n+1<=maxLen):=(by show _<=_;simp only[bL];unfold maxLen;omega);have s5:Hid (((bL c.Wr).n+1)*8<=140737488355328):=(by show _<=_;simp only[bL];omega);have ad:Hid (∀j,j≠1->xC { c with Wr:=c.Wr++[b] } j=xC c j):=by
     intro j O
     match j,O with
     | 0,_=>rfl
     | 1,O=>exact absurd rfl O
     | 2,_=>rfl
     | m+3,_=>rfl
    clear F J k o p0 p1 p2;go_enter func218,ntmps218;(go_upto_region 1 with fail);rw[v.out];go_wp2_with fail;go_region_law (refine cO rfl (.tmp 44) (.tmp 51) 24 rfl i0 (int i64 0) 8 (H 1) (bL c.Wr) underlying24 hi af ag ai rfl So (by simp[Act.eval] <;> rfl) (bi.own hD.out 1) ⟨W.heap.size,0,none⟩ 1 1 [int i64 b] (by simp[Act.eval]) rfl s2.out s3.out So s4.out s5.out ?_;intro g x w1 Q N d;obtain⟨k5,f5,R⟩:=bi.app hD.out (cs':=lX { c with Wr:=c.Wr++[b] } (ip H 1 ⟨some ⟨g,0,none⟩,x⟩)) (rows':=xC { c with Wr:=c.Wr++[b] }) 1 1 g x ((bL c.Wr).n+1) _ Q (m9 c.Wr b) N (by simpa using d) ad.out (slice (H 1).ao c.Wr.length (H 1).cap) rfl (by simp[lX,ip,bL]);clear Q N d)
    all_goals
     have t:Hid _:=bi.set R.out.1 4 (bool false);have Z:=(bi.cell R.out.1 4);have ax:=bi.free R.out.1;simp only[lX,List.getElem?_cons_succ,List.getElem?_cons_zero,r]at Z;clear G I C ac k5 f5;go_wp2;go_ret;exact⟨au (by rw[a.out]),_,by rw[a.out];exact t.out.1,((R.out.2.first ((aa.refl [] _).alloc _).drew).first K).trans t.out.2⟩
   ·by_cases z:n=63/\c.Wl=0
    ·have a:Hid (bB c n ⟨f,l,i⟩=(0,dB c ⟨1,0,⟨f,l,i⟩⟩)):=(by show _=_;unfold bB;rw[RU k,RU o,RU s,RY z]);obtain⟨rfl,A⟩:=z;rw[A]at J;clear F G I k o s;go_enter func218,ntmps218;(go_upto_region 1 with fail);rw[v.out];go_wp2_with fail;refine(pM w c H 1 0 f l i _ p D).mono ?_;rintro e w2 ⟨rfl,T,t,E,-⟩;go_wp2;go_ret;exact⟨au (by rw[a.out]),T,by rw[a.out];exact t,aB.first K E⟩
    ·have a:Hid (bB c n ⟨f,l,i⟩=(4,c)):=(by show _=_;unfold bB;rw[RU k,RU o,RU s,RU z]);clear F G I;by_cases M:n=90
     ·have r:c.behind=false:=by
       cases hq:c.behind with
       | false=>rfl
       | true=>exact absurd ⟨M,hq⟩ s
      rw[r]at C;subst M;clear k o s z;go_enter func218,ntmps218;(go_upto_region 1 with fail);rw[v.out];go_wp2;go_ret;exact⟨au (by rw[a.out]),H,by rw[a.out];exact p,(aB.refl _ _ _).Wj K⟩
     ·by_cases L:n=63
      ·have A:¬c.Wl=0:=fun hh=>z ⟨L,hh⟩;have al:((c.Wl:Int)==0)=false:=Sp.2 (by omega);subst L;clear k o s z A;go_enter func218,ntmps218;(go_upto_region 1 with fail);rw[v.out];go_wp2;go_ret;exact⟨au (by rw[a.out]),H,by rw[a.out];exact p,(aB.refl _ _ _).Wj K⟩
      ·have e1:((n:Int)==90)=false:=Sp.2 (by omega);have e2:((n:Int)==63)=false:=Sp.2 (by omega);clear s z J C;by_cases a1:65<=n
       ·have a2:¬n<=84:=(by omega);have a3:85<=n:=(by omega);have a4:¬n<=89:=(by omega);clear k o;go_enter func218,ntmps218;(go_upto_region 1 with fail);rw[v.out];go_wp2;go_ret;exact⟨au (by rw[a.out]),H,by rw[a.out];exact p,(aB.refl _ _ _).Wj K⟩
       ·have a3:¬85<=n:=(by omega);clear k o;go_enter func218,ntmps218;(go_upto_region 1 with fail);rw[v.out];go_wp2;go_ret;exact⟨au (by rw[a.out]),H,by rw[a.out];exact p,(aB.refl _ _ _).Wj K⟩
end Go.Proofs.YtnbhnocdhbcbcaaGreat
