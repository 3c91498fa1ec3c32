import Derived.Deep.RegionLaw
import Derived.Test.YtpdholcaobgofaaGreatP28
namespace Go.Proofs.YtpdholcaobgofaaGreat
open Go.RowKit Tryz
open Value IntKind Ending
set_option maxHeartbeats 0
variable{d:World}{T S a:Nat}{k:Nat->Nat×Nat}{v:dZ}{o:Nat->Nat}(x:World)(D l:Nat)(L:Xs)(b:oy)(f y:Nat)
set_option maxRecDepth 100000
theorem FR(f:Nat->Nat)(F:Nat->Nat)(k q d S:Nat)(w:World)(hS:S<=101)(r:∀x c,x<S->aa [] w c->Calls prog 196 #[pointer (some ⟨l,0,none⟩),int i64 k,int i64 x] c fun e y=>e=returned (int i64 (f x))/\y=c)(m:∀x c,x<S->aa [] w c->Calls prog 223 #[pointer (some ⟨D,0,none⟩),zb b,int i64 k,agg #[int i64 x,int i64 d]] c fun e y=>e=returned (int i64 (F x))/\aa [] c y)(hq:q<=d)(X:d<S)(i:0<f q/\0<F q)(s:∀x,x<S->x≠q->0<f x->F x=0) :
  Calls prog 244 #[pointer (some ⟨D,0,none⟩),zb b,pointer (some ⟨l,0,none⟩),int i64 k,int i64 d] w fun e y=>e=returned (int i64 q)/\aa [] w y:=by
 unfold zb at m ⊢;obtain⟨W,G⟩:=aP (w.alloc (.cells #[string b.Zbz,int i64 b.code,slice (some ⟨b.ap,0,none⟩) b.np b.np,slice b.ag b.gs.length b.gs.length] 289));have Q:=dx G.o;have M:W.heap[w.heap.size]?=some (.cells #[string b.Zbz,int i64 b.code,slice (some ⟨b.ap,0,none⟩) b.np b.np,slice b.ag b.gs.length b.gs.length] 289):=by
  rw[<-G.o];exact XD _ _
 have p:Xq (∀c,aa [] W c->(c.cell? ⟨w.heap.size,0,none⟩=some (string b.Zbz)/\c.cell? ⟨w.heap.size,1,none⟩=some (int i64 b.code)/\c.cell? ⟨w.heap.size,2,none⟩=some (slice (some ⟨b.ap,0,none⟩) b.np b.np)/\c.cell? ⟨w.heap.size,3,none⟩=some (slice b.ag b.gs.length b.gs.length))/\w.heap.size<c.heap.size):=fun c q=>by
  have L:=q.get M (by simp);refine⟨⟨?_,?_,?_,?_⟩,ah L⟩ <;> (rw[ab L];rfl)
 have B:Xq _:=r;have C:Xq _:=m;have g:Xq _:=Q;have E:Xq _:=s;have H:Xq _:=i;obtain⟨pb,n⟩:=aP (w.heap.size);rw[n.o]at p;clear r m Q s i M;go_enter func244,ntmps244;go_upto_region 1 with fail
 rw[G.o,n.o];go_wp2
 go_loopg [11] (d+1) (fun gk xv wr=>∃x:Nat,x<=q/\gk=d+1-x/\xv=int i64 x/\Xq (aa [] W wr))
 ·exact⟨0,by omega,rfl,rfl,aa.refl _ _⟩
 obtain⟨x,hx,U,rfl,j⟩:=hrel;obtain⟨⟨p0,p1,p2,p3⟩,V⟩:=p.o _ j.o;rcases kn x d with ⟨I,ac⟩ | ⟨I,ad⟩
 ·have A:Xq _:=B.o x _ (by omega) (g.o.trans j.o);have z:Xq _:=C.o x _ (by omega) (g.o.trans j.o);by_cases t:x=q
  ·subst t;obtain⟨af,ai⟩:=H.o;generalize f x=v at *;generalize F x=u at *;have Z:(v:Int) > 0:=(by omega);have P:(u:Int) > 0:=(by omega);go_wp2_with (first | (go_at_call 196;refine Xx A.o ?_;rintro O R ⟨rfl,a⟩;rw[a];clear a) | (go_at_call 223;refine Xx z.o ?_;rintro T w4 ⟨rfl,K⟩));go_ret;exact⟨rfl,(g.o.trans j.o).trans K⟩
  ·have N:=E.o x (by omega) t;generalize f x=v at *;by_cases J:v=0
   ·subst J;clear z N;go_wp2_with (go_at_call 196;refine Xx A.o ?_;rintro O R ⟨rfl,a⟩;rw[a];clear a);go_roundg (d+1-(x+1))
    ·exact⟨x+1,by omega,rfl,by go_num,j⟩
    omega
   ·have Z:(v:Int) > 0:=(by omega);have P:=N (by omega);rw[P]at z;go_wp2_with (first | (go_at_call 196;refine Xx A.o ?_;rintro O R ⟨rfl,a⟩;rw[a];clear a) | (go_at_call 223;refine Xx z.o ?_;rintro T w4 ⟨rfl,K⟩));go_roundg (d+1-(x+1))
    ·exact⟨x+1,by omega,rfl,by go_num,j.o.trans K⟩
    omega
 ·have Y:d=q:=by omega
  go_wp2;go_ret;exact⟨rfl,g.o.trans j.o⟩
def oA(w:World)(a n:Nat)(f:Nat->Nat×Nat):Prop:=∃cur:Array Value,w.heap[a]?=some (.cells cur 242)/\cur.size=n*2/\∀v,v<n->cur[v*2]?=some (int i64 (f v).1)/\cur[v*2+1]?=some (int i64 (f v).2)
theorem oA.Zbw{c:World}{b:Xu}(h:oA d T S k)(i:aa b d c)(g:T∉b):oA c T S k:=by
 obtain⟨a,e,f⟩:=h;exact⟨a,i.get e g,f⟩
theorem oA.ext{b:Nat->Nat×Nat}(h:oA d T S k)(e:∀v,v<S->k v=b v):oA d T S b:=by
 obtain⟨a,f,g,i⟩:=h;exact⟨a,f,g,fun v c=>by rw[<-e v c];exact i v c⟩
theorem oA.cells(h:oA d T S k)(e:a<S):d.cell? ⟨T,a*2,none⟩=some (int i64 (k a).1)/\d.cell? ⟨T,a*2+1,none⟩=some (int i64 (k a).2)/\T<d.heap.size:=by
 obtain⟨f,b,g,c⟩:=h;exact⟨by rw[ab b];exact(c a e).1,by rw[ab b];exact(c a e).2,ah b⟩
theorem oA.free(h:oA d T S k)(i:Nat):d.frozen? ⟨T,i,none⟩=false:=by
 obtain⟨a,b,-⟩:=h;exact zcW b i
theorem oA.set(h:oA d T S k)(m:a<S)(x y:Nat):oA ((d.setCell ⟨T,a*2,none⟩ (int i64 x)).setCell ⟨T,a*2+1,none⟩ (int i64 y)) T S (fun u=>if u=a then(x,y) else k u):=by
 obtain⟨c,i,b,j⟩:=h;refine⟨_,ae (ae i _ _) _ _,by simp[b],fun u l=>?_⟩;obtain⟨f,g⟩:=j u l;rw[Yp,Yp,Yp,Yp];by_cases e:u=a
 ·subst e;simp[b];omega
 ·simp only[if_neg e];rw[Xz (by omega),Xz (by omega),Xz (by omega),Xz (by omega)];exact⟨f,g⟩
theorem Ow(b:y<f*2):(madeCells (agg #[int i64 0,int i64 0]).cells (f*2))[y]?=some (int i64 0):=by
 have e:(agg #[int i64 0,int i64 0]).cells=#[int i64 0,int i64 0]:=rfl;rw[e];have c:(madeCells #[int i64 0,int i64 0] (f*2)).size=f*2:=YJ _ _;rw[Zg (by rw[c];exact b)];have a:y % 2=0∨y % 2=1:=by omega
 rcases a with a | a <;> simp[madeCells,a]
theorem zaG:(prog.info? 242).map (fun i=>(i.zero,i.size,i.bytes))=some (some (agg #[int i64 0,int i64 0]),2,16):=by kernel_rfl
def Ll(P:dZ)(ct:Nat->Nat)(k v:Nat):Nat×Nat:=if k<=sx P v then(ct (sx P v),ct (sx P v+1)) else(0,0)
theorem IN(d:ki v)(c:S<v.vars.length)(a:T<v.body.length)(h:bZ v.vars v.body[T]≠some S):Ll v o T S=Ll v o (T+1) S:=by
 have b:sx v S≠T:=fun e=>by
  have:=(yl d c).2;rw[e,kK _ _ a]at this;exact h this
 unfold Ll;by_cases q:T<=sx v S
 ·rw[XA q,XA (by omega)]
 ·rw[Xz q,Xz (by omega)]
theorem TG(c:ki v)(b:S<v.vars.length)(a:T<v.body.length)(h:bZ v.vars v.body[T]=some S):Ll v o T S=(o T,o (T+1)):=by
 have e:sx v S=T:=WV c b a (by rw[kK _ _ a];exact h);unfold Ll;rw[e,XA (Xy _)]
theorem Pz(P:dZ)(d:Nat->Nat)(ac e:Nat)(w:World)(U:p9 w L b P)(ok:ki P)(R:P.body.length<=100000)(aS:P.vars.length<=100000)(he:d P.body.length=e)(E:∀k c,k<P.body.length->aa [] w c->Calls prog 244 #[pointer (some ⟨D,0,none⟩),zb b,pointer (some ⟨l,0,none⟩),int i64 k,int i64 (d (k+1))] c fun e' w'=>e'=returned (int i64 (d k))/\aa [] c w') :
  Calls prog 224 #[pointer (some ⟨D,0,none⟩),zb b,pointer (some ⟨l,0,none⟩),agg #[int i64 ac,int i64 e]] w fun e' w'=>∃a,e'=returned (slice (some ⟨a,0,none⟩) b.gs.length b.gs.length)/\oA w' a b.gs.length (fun v=>(d (sx P v),d (sx P v+1)))/\w.heap.size<=a/\aa [] w w':=by
 unfold zb at E ⊢;obtain⟨W,O⟩:=aP ((w.alloc (.cells #[string b.Zbz,int i64 b.code,slice (some ⟨b.ap,0,none⟩) b.np b.np,slice b.ag b.gs.length b.gs.length] 289)).alloc (.cells #[int i64 ac,int i64 e] 242));have k1:aa [] w (w.alloc (.cells #[string b.Zbz,int i64 b.code,slice (some ⟨b.ap,0,none⟩) b.np b.np,slice b.ag b.gs.length b.gs.length] 289)):=bH.alloc _;have kW:aa [] w W:=by rw[<-O.o];exact k1.alloc _
 have BP:W.heap[w.heap.size]?=some (.cells #[string b.Zbz,int i64 b.code,slice (some ⟨b.ap,0,none⟩) b.np b.np,slice b.ag b.gs.length b.gs.length] 289):=by
  rw[<-O.o];exact(bH.alloc _).get (XD w _) (by simp)
 have BS:W.heap[w.heap.size+1]?=some (.cells #[int i64 ac,int i64 e] 242):=by
  rw[<-O.o];have:=XD (w.alloc (.cells #[string b.Zbz,int i64 b.code,slice (some ⟨b.ap,0,none⟩) b.np b.np,slice b.ag b.gs.length b.gs.length] 289)) (.cells #[int i64 ac,int i64 e] 242);rw[show(w.alloc (.cells #[string b.Zbz,int i64 b.code,slice (some ⟨b.ap,0,none⟩) b.np b.np,slice b.ag b.gs.length b.gs.length] 289)).heap.size=w.heap.size+1 by simp]at this;exact this
 have f:Xq (∀c,aa [] W c->(c.cell? ⟨w.heap.size,0,none⟩=some (string b.Zbz)/\c.cell? ⟨w.heap.size,1,none⟩=some (int i64 b.code)/\c.cell? ⟨w.heap.size,2,none⟩=some (slice (some ⟨b.ap,0,none⟩) b.np b.np)/\c.cell? ⟨w.heap.size,3,none⟩=some (slice b.ag b.gs.length b.gs.length))/\w.heap.size<c.heap.size):=fun c q=>by
  have B2:=q.get BP (by simp);refine⟨⟨?_,?_,?_,?_⟩,ah B2⟩ <;> (rw[ab B2];rfl)
 have an:Xq (∀k (T:k<P.body.length) c,aa [] W c->c.cell? ⟨b.ap,k*2+1,none⟩=some (int i64 (iu (bZ P.vars P.body[k])))/\b.ap<c.heap.size):=fun k T c q=>by
  obtain⟨g',e1,ar,aq⟩:=((U.Zbj kW).Zbj q).parts k P.body[k] (Xv T);cases e1
  exact⟨aq 1 _ rfl,ar⟩
 obtain⟨-,s1⟩:=uY BS;have az:=ah BS;have H:Xq (∀k c,k<P.body.length->aa [] W c->_):=fun k c T q=>E k c T (kW.trans q);obtain⟨i0,av,aT,a0,a1⟩:=XV zaG;have F:b.gs.length=P.vars.length:=by rw[U.ng,U.len]
 have j:=U.np;have t:Xq _:=ok;have I:Xq _:=kW;have m2:=fun w=>bY (P:=prog) w 321 242 i0 _ underlying321 av aT b.gs.length 2 a0 (by rw[a1];omega) (by omega);obtain⟨mc,Q⟩:=aP (madeCells (agg #[int i64 0,int i64 0]).cells (b.gs.length*2));have s:Xq (mc.size=b.gs.length*2/\∀i,i<b.gs.length*2->mc[i]?=some (int i64 0)):=by
  rw[<-Q.o];exact⟨YJ _ _,fun i hi=>Ow _ i hi⟩
 rw[Q.o]at m2;obtain⟨⟨-,-,p2,p3⟩,ax⟩:=f.o W (aa.refl _ _);obtain⟨sb,N⟩:=aP (w.heap.size+1);rw[N.o]at s1 az;obtain⟨pb,K⟩:=aP (w.heap.size);rw[K.o]at f p2 p3 ax;obtain⟨p,J⟩:=aP (b.gs.length);rw[J.o]at F;have a2:p<=100000:=by omega
 have S:d b.np=e:=by rw[j];exact he
 have a7:b.np<=100000:=by rw[j];exact R
 have am:Xq _:=j;have A:Xq _:=F;rw[J.o]at O f H m2 s p3 ⊢;have ao:Xq (oA (W.alloc (.cells mc 242)) W.heap.size p (Ll P d b.np)):=by
  refine⟨mc,XD _ _,s.o.1,fun v hv=>?_⟩;have e1:Ll P d b.np v=(0,0):=by
   unfold Ll;rw[Xz];have:=(yl t.o (v:=v) (by omega)).1;rw[j];omega
  rw[e1];exact⟨s.o.2 _ (by omega),s.o.2 _ (by omega)⟩
 have ad:Xq _:=S;have ai:Xq _:=I.o.size;clear U ok E BP BS kW k1 j F he S R aS;go_enter func224,ntmps224;go_upto_region 1 with fail
 rw[O.o,N.o,K.o];go_wp2
 go_loopg [10,11] b.np (fun gk ev kv wr=>∃k:Nat,k<=b.np/\gk=k/\ev=int i64 (d k)/\kv=int i64 ((k:Int)-1)/\Xq (oA wr W.heap.size p (Ll P d k))/\Xq (aa [] W wr))
 ·exact⟨b.np,Xy _,rfl,by rw[ad.o],rfl,ao,(aa.refl _ _).alloc _⟩
 obtain⟨k,T,a4,rfl,rfl,HS,r⟩:=hrel;cases k with
 | zero =>
  have af:Xq (oA wr W.heap.size p (fun v=>(d (sx P v),d (sx P v+1)))):=HS.o.ext (fun v _=>by unfold Ll;rw[XA (XX _)]);go_wp2;go_ret;exact⟨W.heap.size,rfl,af.o,ai.o,I.o.trans r.o⟩
 | succ m =>
  have hm:((m+1:Nat):Int)-1=(m:Int):=by omega
  rw[hm];have a5:(m:Int) ≥ 0:=by omega
  have a6:(m:Int)<(b.np:Int):=by omega
  have g:m<P.body.length:=by rw[<-am.o];omega
  obtain⟨⟨p0,p1,p2,p3⟩,ba⟩:=f.o _ r.o;have HB:Xq _:=H.o m _ g r.o;have x:Xq _:=an.o m g;cases G:bZ P.vars P.body[m] with
  | none =>
   rw[G]at x;have B:Xq (∀c,oA c W.heap.size p (Ll P d (m+1))->oA c W.heap.size p (Ll P d m)):=fun c q=>q.ext (fun v hv=>(IN t.o (by have:=A.o;omega) g (by rw[G];simp)).symm);have a3:Xq _:=HS.o;(go_upto_region 7 with (go_at_call 244;refine Xx HB.o ?_;rintro e4 Z ⟨rfl,y⟩));obtain⟨⟨r0,r1,r2,r3⟩,V⟩:=f.o _ (r.o.trans y);obtain⟨Y,r6⟩:=x.o _ (r.o.trans y);replace Y:Z.cell? ⟨b.ap,m*2+1,none⟩=some (int i64 (-1)):=Y;have M:=B.o _ (HS.o.Zbw y (by simp));have C:Xq _:=M;clear M;go_wp2;go_roundg m
   ·exact⟨m,by omega,rfl,rfl,by go_num,C,r.o.trans y⟩
   omega
  | some v =>
   rw[G]at x;have hv:v<P.vars.length:=XI.1 (XS G);have X:v<p:=by have:=A.o;omega
   have bc:(v:Int)<(p:Int):=by omega
   have B:Xq (∀c,oA c W.heap.size p (fun u=>if u=v then(d m,d (m+1)) else Ll P d (m+1) u)->oA c W.heap.size p (Ll P d m)):=fun c q=>q.ext (fun u hu=>by
    by_cases e:u=v
    ·rw[XA e,e,TG t.o hv g G]
    ·rw[Xz e]
     exact(IN t.o (by have:=A.o;omega) g (fun z=>e (by rw[G]at z;cases z;rfl))).symm)
   (go_upto_region 7 with (go_at_call 244;refine Xx HB.o ?_;rintro e4 Z ⟨rfl,y⟩));obtain⟨⟨r0,r1,r2,r3⟩,V⟩:=f.o _ (r.o.trans y);obtain⟨Y,r6⟩:=x.o _ (r.o.trans y);replace Y:Z.cell? ⟨b.ap,m*2+1,none⟩=some (int i64 (v:Int)):=Y;have n:=HS.o.Zbw y (by simp);obtain⟨t0,t1,t2⟩:=n.cells X;have f0:=n.free (v*2);have f1:=n.free (v*2+1);have C:Xq (oA ((Z.setCell ⟨W.heap.size,v*2,none⟩ (int i64 (d m))).setCell ⟨W.heap.size,v*2+1,none⟩ (int i64 (d (m+1)))) W.heap.size p (Ll P d m)):=B.o _ (n.set X _ _);have al:Xq (aa [] W ((Z.setCell ⟨W.heap.size,v*2,none⟩ (int i64 (d m))).setCell ⟨W.heap.size,v*2+1,none⟩ (int i64 (d (m+1))))):=((r.o.trans y).sr1 (Xy _) _).sr1 (Xy _) _;clear n;go_wp2;go_roundg m
   ·exact⟨m,by omega,rfl,rfl,by go_num,C,al⟩
   omega
def wrL(c n:Nat)(ls:Xs)(H:Nat->Hd):List Value:=[pointer (some ⟨c,0,none⟩),int i64 n,slice (H 0).ao ls.length (H 0).cap]
def wrR(ls:Xs):Nat->eD
 | 0=>aE ls
 | _+1=>aE []
theorem Qm(b:Xs):∀j,j≠0->wrR b j=wrR L j:=by
 intro j a;cases j with
 | zero=>exact absurd rfl a
 | succ j=>rfl
structure Cg(w0 w:World)(wb c n:Nat)(ls:Xs)(H:Nat->Hd):Prop where
 bag:aO w wb 246 (wrL c n ls H) (wrR ls) H
 kp:aa [] w0 w
 lo:w0.heap.size<=wb
 hi:∀k,eG H k->w0.heap.size<=k
section
variable {w0 w w':World} {wb c n:Nat} {ls:Xs} {H H':Nat->Hd}
theorem Cg.Zbj(h:Cg w0 w wb c n ls H)(k:aa [] w w'):Cg w0 w' wb c n ls H:=⟨h.bag.Zbj k,h.kp.trans k,h.lo,h.hi⟩
theorem Cg.turned{a:Xs}(h:Cg w0 w wb c n ls H)(t:aw wb w H w' H')(g:aO w' wb 246 (wrL c T a H') (wrR a) H'):Cg w0 w' wb c T a H':=by
 refine⟨g,aa.ofP h.kp t.1 (fun k b=>?_),h.lo,fun k b=>?_⟩
 ·rcases b with rfl | b
  ·exact h.lo
  ·exact h.hi k b
 ·rcases t.2 k b with q | q
  ·exact h.hi k q
  ·exact XF h.kp.size q
theorem Cg.cells(h:Cg w0 w wb c n ls H):w.cell? ⟨wb,0,none⟩=some (pointer (some ⟨c,0,none⟩))/\w.cell? ⟨wb,1,none⟩=some (int i64 n)/\w.cell? ⟨wb,2,none⟩=some (slice (H 0).ao ls.length (H 0).cap)/\wb<w.heap.size:=by
 refine⟨?_,?_,?_,h.bag.lt⟩ <;> (rw[h.bag.cell];rfl)
end
def QG(w0:World)(wb c Gm n:Nat)(ls t:Xs)(H:Nat->Hd)(w:World)(e:Ending)(w':World):Prop:=e=returned (tuple #[])/\∃n' ls' H',Cg w0 w' wb c n' ls' H'/\DQ Gm n ls t n' ls'/\aw wb w H w' H'
theorem Qd(Y:Xs)(p:oy)(P:dZ)(J:Nat->Nat×Nat)(E:Nat->Xs)(L i j n:Nat)(R:Xs)(H:Nat->Hd)(w:World)(hw:Cg x w l f (n+1) R H)(hn:n<64)(bx:R.length<=n)(hp:p9 x Y p P)(hG:P.vars.length<=L)(bl:L<=100000)(af:∀b,aa [] w b->Calls prog 224 #[pointer (some ⟨f,0,none⟩),zb p,pointer (some ⟨y,0,none⟩),agg #[int i64 i,int i64 j]] b fun N k=>∃a,N=returned (slice (some ⟨a,0,none⟩) p.gs.length p.gs.length)/\oA k a p.gs.length J/\b.heap.size<=a/\aa [] b k)(a2:∀v (hv:v<p.gs.length) s c m b,Cg x b l f s c m->s<=10000000->c.length<=pH s->Calls prog 147 #[pointer (some ⟨l,0,none⟩),int i64 p.gs[v],agg #[int i64 (J v).1,int i64 (J v).2]] b fun N k=>QG x l f L s c (E v) m b N k) :
  Calls prog 200 #[pointer (some ⟨l,0,none⟩),zb p,pointer (some ⟨y,0,none⟩),agg #[int i64 i,int i64 j]] w fun N k=>QG x l f L n R (kT E P.vars.length++[P.Zbz]) H w N k:=by
 unfold zb at af ⊢;obtain⟨W,HW⟩:=aP ((w.alloc (.cells #[string p.Zbz,int i64 p.code,slice (some ⟨p.ap,0,none⟩) p.np p.np,slice p.ag p.gs.length p.gs.length] 289)).alloc (.cells #[int i64 i,int i64 j] 242));have k1:aa [] w (w.alloc (.cells #[string p.Zbz,int i64 p.code,slice (some ⟨p.ap,0,none⟩) p.np p.np,slice p.ag p.gs.length p.gs.length] 289)):=bH.alloc _;have kW:aa [] w W:=by rw[<-HW.o];exact k1.alloc _
 have BP:W.heap[w.heap.size]?=some (.cells #[string p.Zbz,int i64 p.code,slice (some ⟨p.ap,0,none⟩) p.np p.np,slice p.ag p.gs.length p.gs.length] 289):=by
  rw[<-HW.o];exact(bH.alloc _).get (XD w _) (by simp)
 have BS:W.heap[w.heap.size+1]?=some (.cells #[int i64 i,int i64 j] 242):=by
  rw[<-HW.o];have:=XD (w.alloc (.cells #[string p.Zbz,int i64 p.code,slice (some ⟨p.ap,0,none⟩) p.np p.np,slice p.ag p.gs.length p.gs.length] 289)) (.cells #[int i64 i,int i64 j] 242);rw[show(w.alloc (.cells #[string p.Zbz,int i64 p.code,slice (some ⟨p.ap,0,none⟩) p.np p.np,slice p.ag p.gs.length p.gs.length] 289)).heap.size=w.heap.size+1 by simp]at this;exact this
 have I:=hw.Zbj kW;have A:Xq (∀b m,aw l W H b m->(b.cell? ⟨w.heap.size,0,none⟩=some (string p.Zbz)/\b.cell? ⟨w.heap.size,1,none⟩=some (int i64 p.code)/\b.cell? ⟨w.heap.size,2,none⟩=some (slice (some ⟨p.ap,0,none⟩) p.np p.np)/\b.cell? ⟨w.heap.size,3,none⟩=some (slice p.ag p.gs.length p.gs.length))/\w.heap.size<b.heap.size):=fun b m t=>by
  have S:=t.1.get BP (fun q=>by
   rcases q with q | q
   ·have:=hw.bag.lt;omega
   ·have:=hw.bag.inlt q;omega)
  refine⟨⟨?_,?_,?_,?_⟩,ah S⟩ <;> (rw[ab S];rfl)
 have V:Xq _:=(fun b (q:aa [] W b)=>af b (kW.trans q));have bj:Xq _:=a2;have ao:Xq _:=hp;have Z:p.gs.length=P.vars.length:=by rw[hp.ng,hp.len]
 have bd:Xq (p.Zbz=P.Zbz):=hp.lab;have X:Xq _:=I;have ba:Xq _:=kW;obtain⟨s0,s1⟩:=uY BS;have aT:=ah BS;obtain⟨⟨p0,p1,p2,p3⟩,ad⟩:=A.o W H (aw.refl _ _ _);obtain⟨c0,-,-,a1⟩:=I.cells;have B:Xq (∀b,aa [] W b->(b.cell? ⟨l,0,none⟩=some (pointer (some ⟨f,0,none⟩))/\b.cell? ⟨w.heap.size+1,0,none⟩=some (int i64 i)/\b.cell? ⟨w.heap.size+1,1,none⟩=some (int i64 j))/\b.cell? ⟨w.heap.size,0,none⟩=some (string p.Zbz)/\b.cell? ⟨w.heap.size,1,none⟩=some (int i64 p.code)/\b.cell? ⟨w.heap.size,2,none⟩=some (slice (some ⟨p.ap,0,none⟩) p.np p.np)/\b.cell? ⟨w.heap.size,3,none⟩=some (slice p.ag p.gs.length p.gs.length)):=fun b q=>by
  have S:=q.get BP (by simp);have B3:=q.get BS (by simp);refine⟨⟨((I.Zbj q).cells).1,?_,?_⟩,?_,?_,?_,?_⟩
  ·rw[ab B3];rfl
  ·rw[ab B3];rfl
  ·rw[ab S];rfl
  ·rw[ab S];rfl
  ·rw[ab S];rfl
  ·rw[ab S];rfl
 obtain⟨sb,ax⟩:=aP (w.heap.size+1);rw[ax.o]at s0 s1 aT B;obtain⟨z,aq⟩:=aP (w.heap.size);rw[aq.o]at A B p0 p1 p2 p3 ad;obtain⟨r,an⟩:=aP (p.gs.length);rw[an.o]at Z HW A V B p3 ⊢;have am:Xq _:=Z;have bz:r<=100000:=by omega
 clear af a2 hp BP BS kW k1 hw I Z;go_enter func200,ntmps200;go_upto_region 1 with fail
 rw[HW.o,ax.o,aq.o];go_region_held3 (fun k=>(k.cell? ⟨l,0,none⟩=some (pointer (some ⟨f,0,none⟩))/\k.cell? ⟨sb,0,none⟩=some (int i64 i)/\k.cell? ⟨sb,1,none⟩=some (int i64 j))/\k.cell? ⟨z,0,none⟩=some (string p.Zbz)/\k.cell? ⟨z,1,none⟩=some (int i64 p.code)/\k.cell? ⟨z,2,none⟩=some (slice (some ⟨p.ap,0,none⟩) p.np p.np)/\k.cell? ⟨z,3,none⟩=some (slice p.ag r r)) (go_keep) ((go_at_call 224;refine Xx (V.o _ (by exact(aa.refl [] W).drew)) ?_;rintro e1 K ⟨a,rfl,aS,la,k1⟩;obtain⟨⟨y0,y1,y2⟩,y3,y4,y5,y6⟩:=B.o K ((aa.refl [] W).drew.trans k1)));have T:Xq (aa [] W K):=(aa.refl [] W).drew.trans k1;have av:Xq _:=aS;have bc:Xq (W.heap.size<=a):=la;have bf:Xq (Cg x K l f (n+1) R H):=X.o.Zbj T.o;have U:Xq (∀b m,aw l K H b m->oA b a r J):=fun b m t=>by
  obtain⟨bk,q1,q2⟩:=av.o;refine⟨bk,t.1.get q1 (fun q=>?_),q2⟩;have:=bc.o;rcases q with q | q
  ·have:=X.o.bag.lt;omega
  ·have:=X.o.bag.inlt q;omega
 have ar:Xq (∀b m,aw l K H b m->(b.cell? ⟨z,0,none⟩=some (string p.Zbz)/\b.cell? ⟨z,1,none⟩=some (int i64 p.code)/\b.cell? ⟨z,2,none⟩=some (slice (some ⟨p.ap,0,none⟩) p.np p.np)/\b.cell? ⟨z,3,none⟩=some (slice p.ag r r))/\z<b.heap.size):=fun b m t=>A.o b m (aw.first T.o t);clear aS la k1 y0 y1 y2 y3 y4 y5 y6 s0 s1 aT p0 p1 p2 p3 ad c0 a1 B V av A;go_wp2
 go_loopg [9] r (fun gk vv wr=>∃(v s:Nat) (c:Xs) (m:Nat->Hd),v<=r/\gk=r-v/\vv=int i64 v/\Xq (Cg x wr l f s c m)/\Xq (DP L v (n+1) R (kT E v) s c)/\Xq (aw l K H wr m))
 ·exact⟨0,n+1,R,H,by omega,rfl,rfl,bf,DP.first _ _ _,aw.refl _ _ _⟩
 obtain⟨v,s,c,m,hv,bv,rfl,C,HO,HT⟩:=hrel;obtain⟨⟨p0,p1,p2,p3⟩,ad⟩:=ar.o _ _ HT.o;have hm:pH s-pH (n+1)<=64:=by unfold pH;split <;> split <;> omega
 have az:s<=10000000:=by
  have h1:=HO.o.d;have h2:L*(pH s-pH (n+1))<=100000*64:=YF bl hm;omega
 have ac:c.length<=pH s:=by
  have h1:=HO.o.e;have h2:=AA HO.o.c;have h3:pH (n+1)=n+1:=by unfold pH;split <;> omega
  omega
 have bo:c.length<=64:=XF ac (by unfold pH;split <;> omega);rcases kn v r with ⟨D,bT⟩ | ⟨D,b0⟩
 ·have ai:v<p.gs.length:=by rw[an.o];exact D
  obtain⟨gg,e2,bw,bs⟩:=(ao.o.Zbj C.o.kp).gaps v p.gs[v] (Xv ai);have a7:Xq (∀b,aa [] x b->b.cell? ⟨gg,v,none⟩=some (int i64 p.gs[v])):=fun b q=>by
   obtain⟨g',e3,-,c3⟩:=(ao.o.Zbj q).gaps v p.gs[v] (Xv ai);rw[e2]at e3;cases e3;exact c3
  obtain⟨t0,t1,br⟩:=(U.o _ _ HT.o).cells D;have be:Xq (∀b g,aw l K H b g->b.cell? ⟨z,3,none⟩=some (slice (some ⟨gg,0,none⟩) r r)):=fun b g t=>by
   have:=(ar.o b g t).1.2.2.2;rw[e2]at this;exact this
  rw[e2]at p3;have bg:Xq (∀b,aa [] wr b->Calls prog 147 #[pointer (some ⟨l,0,none⟩),int i64 p.gs[v],agg #[int i64 (J v).1,int i64 (J v).2]] b fun N k=>N=returned (tuple #[])/\∃G F g,Cg x k l f G F g/\DP L (v+1) (n+1) R (kT E (v+1)) G F/\aw l K H k g):=fun b q=>by
   refine(bj.o v ai s c m b (C.o.Zbj q) az ac).mono ?_;rintro N k ⟨he,G,F,g,r1,r2,r3⟩;exact⟨he,G,F,g,r1,by rw[qG];exact HO.o.next r2,(HT.o.Zbj q).trans r3⟩
  have a6:Xq (∀b G F g,Cg x b l f G F g->aw l K H b g->(b.cell? ⟨z,3,none⟩=some (slice (some ⟨gg,0,none⟩) r r)/\b.cell? ⟨gg,v,none⟩=some (int i64 p.gs[v]))/\b.cell? ⟨a,v*2,none⟩=some (int i64 (J v).1)/\b.cell? ⟨a,v*2+1,none⟩=some (int i64 (J v).2)):=fun b G F g r1 r2=>⟨⟨be.o b g r2,a7.o b r1.kp⟩,((U.o b g r2).cells D).1,((U.o b g r2).cells D).2.1⟩
  generalize p.gs[v]=kc at *;generalize J v=sv at *;clear e2 az ac bo hm HO;go_upto_region 5 with fail
  go_region_held3 (fun k=>(k.cell? ⟨z,3,none⟩=some (slice (some ⟨gg,0,none⟩) r r)/\k.cell? ⟨gg,v,none⟩=some (int i64 kc))/\k.cell? ⟨a,v*2,none⟩=some (int i64 sv.1)/\k.cell? ⟨a,v*2+1,none⟩=some (int i64 sv.2)) (go_keep) ((go_at_call 147;refine Xx (bg.o _ (by exact bH.drew)) ?_;rintro e6 w6 ⟨rfl,n6,l6,H6,r1,r2,r3⟩;obtain⟨⟨z0,z1⟩,z2,z3⟩:=a6.o w6 n6 l6 H6 r1 r3));go_wp2;go_roundg (r-(v+1))
  ·exact⟨v+1,n6,l6,H6,by omega,rfl,by go_num,r1,r2,r3⟩
  omega
 ·obtain rfl:v=r:=by omega
  obtain⟨iS,bm,a3,a4,a5⟩:=XV i9;have HB:=C.o.bag;obtain⟨-,-,c2,a1⟩:=C.o.cells;have bq:=HB.free 2;have hD:Xq _:=aO.Zbj HB ((aa.refl [] wr).alloc (.cells #[string p.Zbz] 9)).drew;have s2:Xq (∀j u,([string p.Zbz]:List Value)[j]?=some u->(wr.alloc (.cells #[string p.Zbz] 9)).drew.cell? ((⟨wr.heap.size,0,none⟩:Addr).add j)=some u):=by
   intro j u hj;have hk:(wr.alloc (.cells #[string p.Zbz] 9)).drew.heap[wr.heap.size]?=some (.cells #[string p.Zbz] 9):=XD _ _;rw[bE,ab hk];simpa using hj
  have s3:Xq (∀u∈([string p.Zbz]:List Value),u.oneCell'=true):=by intro u hu;simp at hu;subst hu;rfl
  have s4:Xq ((aE c).n+1<=maxLen):=by show c.length+1<=_;unfold maxLen;omega
  have s5:Xq (((aE c).n+1)*16<=140737488355328):=by show(c.length+1)*16<=_;omega
  have al:Xq (∀wz g,aO wz l 246 (wrL f s (c++[p.Zbz]) g) (wrR (c++[p.Zbz])) g->aw l (wr.alloc (.cells #[string p.Zbz] 9)).drew m wz g->∃G F g,Cg x wz l f G F g/\DQ L n R (kT E P.vars.length++[P.Zbz]) G F/\aw l w H wz g):=fun wz g g1 g2=>by
   have g3:=g2.first ((aa.refl [] wr).alloc (.cells #[string p.Zbz] 9)).drew;refine⟨s,c++[p.Zbz],g,C.o.turned g3 g1,?_,aw.first (ba.o.trans T.o) (HT.o.trans g3)⟩;rw[bd.o,<-am.o];exact DQ.node HO.o (by have:=am.o;omega) hn
  generalize p.Zbz=bp at *;go_upto_region 6 with fail
  go_region_law (refine bB rfl (.tmp 46) (.tmp 49) 61 rfl iS (string ⟨#[]⟩) 16 (m 0) (aE c) underlying61 bm a3 a4 a5 rfl XR (by simp[Act.eval] <;> rfl) (aO.ZbH hD.o 0) ⟨wr.heap.size,0,none⟩ 1 1 [string bp] (by simp[Act.eval]) rfl s2.o s3.o XR s4.o s5.o ?_;intro g5 M w5 a0 Q O;obtain⟨k5,f5,HP⟩:=aO.app hD.o (cs':=wrL f s (c++[bp]) (gj m 0 ⟨some ⟨g5,0,none⟩,M⟩)) (rows':=wrR (c++[bp])) 2 0 g5 M (c.length+1) _ a0 (dy _ _) Q (by simpa using O) (Qm c _) _ rfl (by simp[wrL,gj]);clear a0 Q O)
  all_goals go_wp2
  all_goals go_end0
  all_goals exact⟨rfl,al.o _ _ HP.o.1 HP.o.2⟩
section
variable {tx:Xs} {C:pB} {P:dZ} {i j:Nat}
theorem US(t:l4 C)(b:i<tx.length+1)(a:mI tx C P i j=1)(k:Nat)(d:k<P.body.length) :
  od tx C P i j k<=od tx C P i j (k+1)/\od tx C P i j (k+1)<tx.length+1/\(0<Fq tx C P i k (od tx C P i j k)/\0<bX tx C P P.body[k] (od tx C P i j k) (od tx C P i j (k+1)))/\∀x,x<tx.length+1->x≠od tx C P i j k->0<Fq tx C P i k x->bX tx C P P.body[k] x (od tx C P i j (k+1))=0:=by
 have e:=wg b a k d;refine⟨?_,(lm b a (k+1)).1,⟨by unfold Fq;rw[(lm b a k).2.1];decide,by omega⟩,fun x n c m=>?_⟩
 ·refine Nat.le_of_not_lt (fun q=>?_);rw[kB P t _ _ _ q]at e;cases e
 ·refine ZI (fun q=>c ?_);refine(lm b a k).2.2.2 x n (Ra.1 m) ?_;rw[zy _ _ _ _ d];have g:=(lm b a (k+1)).2.2.1;have l:=(lm b a (k+1)).1;have:=yJ (f:=fun z=>bX tx C P P.body[k] x z*wy (tx.length+1) (bX tx C P) (P.body.drop (k+1)) z j) l;simp only[g,Nat.mul_one]at this;omega
end
theorem Qn(hs:Hd)(z b:Xs)(d:List dZ)(L:List oy)(hc hp:Hd)(cg ca:Nat)(G:Nat->Nat->Nat->Nat)(Gm:Nat)(M:Fz x y hs z b d L hc hp)(h:go x f y hs z cg ca b.length G)(bp:Cb G)(is:yT z d (CG b G))(bv:∀P∈d,ki P)(b8:∀P∈d,P.vars.length<=Gm)(cl:Gm<=100000) :
  ∀(r:Nat) (cd:Xr) (V i j n:Nat) (ls:Xs) (H:Nat->Hd) (w:World),bZ b cd=some V->i<z.length+1->j<z.length+1->CG b G cd i j=1->0<BK z d r cd i j->Cg x w l f n ls H->n<=10000000->ls.length<=pH n ->
  Calls prog 147 #[pointer (some ⟨l,0,none⟩),int i64 V,agg #[int i64 i,int i64 j]] w fun e' D=>QG x l f Gm n ls (pJ z d (CG b G) r cd i j) H w e' D:=by
 intro r
 induction r with
 | zero=>intro cd V i j n ls H w _ _ _ _ h0;exact absurd h0 (Z1 _)
 | succ r ih =>
  intro cd V i j n ls H w ax hi hj h1 b4 hw hn b5;have bT:Xq _:=Ue (r:=r) is hi hj h1;obtain⟨W,HW⟩:=aP (w.alloc (.cells #[int i64 i,int i64 j] 242));have kW:=dx HW.o;have BS:=dC HW.o;have am:=hw.Zbj kW;obtain⟨c0,c1,-,c2⟩:=am.cells;have cF:=am.bag.free 1;obtain⟨b1,t1⟩:=am.bag.set 1 (int i64 (n+1:Nat));have I:Xq (Cg x (W.setCell ⟨l,1,none⟩ (int i64 (n+1:Nat))) l f (n+1) ls H):=am.turned t1 b1;have av:Xq (aw l w H (W.setCell ⟨l,1,none⟩ (int i64 (n+1:Nat))) H):=aw.first kW t1;have an:(W.setCell ⟨l,1,none⟩ (int i64 (n+1:Nat))).heap[w.heap.size]?=some (.cells #[int i64 i,int i64 j] 242):=by
   rw[XN _ _ _ _ (by have:=hw.bag.lt;show w.heap.size≠l;omega)];exact BS
  have cq:(((n+1:Nat)):Int)=(n:Int)+1:=by omega
  rw[cq]at I av an;obtain⟨W1,bm⟩:=aP (W.setCell ⟨l,1,none⟩ (int i64 ((n:Int)+1)));rw[bm.o]at I av an;by_cases b7:64<=n
  ·have cR:(n:Int)+1 > 64:=(by omega);go_enter func147,ntmps147;(go_upto_region 1 with fail);rw[HW.o];go_wp2;go_end0;rw[bm.o];exact⟨rfl,n+1,ls,H,I.o,DQ.late b7 bT.o,av.o⟩
  ·have cV:¬(n:Int)+1 > 64:=(by omega);obtain⟨u,ac,bq,af,a3,bd⟩:=is.pick hi hj h1;have co:=M.gm.len;have ai:u<L.length:=(by omega);have bw:=bp.cg b;have Y:∀m (t:m<L.length) (s:m<d.length),p9 x b L[m] d[m]:=fun m t s=>M.gm.each m _ _ (Xv t) (Xv s);have a7:cd=d[u].code:=(ly af).symm;have ba:L[u].code=V:=by
    have:=(Y u ai ac).cod;rw[<-a7,ax]at this;cases this;rfl
   have bx:Xq (∀m (t:m<L.length) (s:m<d.length),m≠u->L[m].code=V->cp (mI z (CG b G) d[m] i j)=0):=fun m t s az he=>by
    have h2:=(Y m t s).cod;rw[he]at h2;have e1:d[m].code=cd:=(by rw[<-qM h2,<-qM ax]);have:¬0<mI z (CG b G) d[m] i j:=fun q=>az (bd m s (tK e1) q);rw[show mI z (CG b G) d[m] i j=0 by omega];rfl
   have b0:Xq (∀(m:Nat) (t:m<L.length) (s:m<d.length) (c:World),aa [] x c->Calls prog 199 #[pointer (some ⟨f,0,none⟩),zb L[m],int i64 i] c fun e D=>∃g a,e=returned (pointer (some ⟨g,0,none⟩))/\cI D g a (d[m].body.length+1) (z.length+1) (Fq z (CG b G) d[m] i)/\c.heap.size<=g/\c.heap.size<=a/\aa [] c D):=fun m t s c q =>
    Jg f y hs z b cg ca G L[m] d[m] i c (h.Zbj q) ((Y m t s).Zbj q) (M.vw.Zbj q) M.hn M.ht (M.bl _ (XM s)) hi bp.two bw
   have ck:Xq (∀(m:Nat) (t:m<L.length) (c:World),aa [] x c->Calls prog 198 #[pointer (some ⟨y,0,none⟩),int i64 m] c fun e D=>e=returned (zb L[m])/\aa [] c D):=fun m t c q=>tA y b d L hc hp m t c (M.gm.Zbj q);have ch:Xq (∀c,aa [] x c->Calls prog 197 #[pointer (some ⟨y,0,none⟩)] c fun e D=>e=returned (int i64 L.length)/\D=c):=fun c q=>Ge y b d L hc hp c (M.gm.Zbj q);have cf:Xq (∀c,aa [] x c->c.cell? ⟨f,0,none⟩=some (pointer (some ⟨y,0,none⟩))/\f<c.heap.size):=fun c q=>⟨(h.Zbj q).cells.1,(h.Zbj q).lt⟩
   have cc:Xq (∀(m:Nat) (t:m<L.length) (s:m<d.length),L[m].np=d[m].body.length/\d[m].body.length<=100000):=fun m t s=>⟨(Y m t s).np,M.bl _ (XM s)⟩
   have a4:Xq (∀(m:Nat) (s:m<d.length) (g a:Nat) (c:World),cI c g a (d[m].body.length+1) (z.length+1) (Fq z (CG b G) d[m] i)->Calls prog 196 #[pointer (some ⟨g,0,none⟩),int i64 d[m].body.length,int i64 j] c fun e D=>e=returned (int i64 (cp (mI z (CG b G) d[m] i j)))/\D=c):=fun m s g a c q=>by
    have h3:=M.bl _ (XM s);have:=CH g a (d[m].body.length+1) (z.length+1) (Fq z (CG b G) d[m] i) d[m].body.length j c q (by omega) (by have:=M.ht;omega) (by omega) hj;rw[show Fq z (CG b G) d[m] i d[m].body.length j=cp (mI z (CG b G) d[m] i j) by unfold Fq mI;rw[Yl]]at this;exact this
   have ad:Xq (∀(g a:Nat) (c:World),Cg x c l f (n+1) ls H->cI c g a (d[u].body.length+1) (z.length+1) (Fq z (CG b G) d[u] i)->Calls prog 200 #[pointer (some ⟨l,0,none⟩),zb L[u],pointer (some ⟨g,0,none⟩),agg #[int i64 i,int i64 j]] c fun e' D=>QG x l f Gm n ls (pJ z d (CG b G) (r+1) cd i j) H c e' D):=fun g a c gw gg=>by
    have cu:=bv _ (XM ac);have pI:=Y u ai ac;have cv:=M.bl _ (XM ac);have cx:=b8 _ (XM ac);have b6:ls.length<=n:=by
     have h7:pH n=n:=(by unfold pH;rw[XA (by omega)]);rw[h7]at b5;exact b5
    rw[rN bq];refine Qd x l f g b L[u] d[u] (pn z (CG b G) d[u] i j) (fun v=>pJ z d (CG b G) r (d[u].types.getD v ⟨#[]⟩) (pn z (CG b G) d[u] i j v).1 (pn z (CG b G) d[u] i j v).2) Gm i j n ls H c gw (by omega) b6 pI cx cl (fun wy q=>?_) (fun v hv n' ct H' wy q1 q2 q3=>?_)
    ·refine Pz f g b L[u] d[u] (od z (CG b G) d[u] i j) i j wy (pI.Zbj (gw.kp.trans q)) cu cv (by omega) (UW hi hj a3) (fun k wz hk q2=>?_);obtain⟨o1,o2,o3,o4⟩:=US bw hi a3 k hk;have kz:=(gw.kp.trans q).trans q2;refine FR f g L[u] (Fq z (CG b G) d[u] i k) (fun cb=>bX z (CG b G) d[u] d[u].body[k] cb (od z (CG b G) d[u] i j (k+1))) k _ _ (z.length+1) wz (by have:=M.ht;omega) (fun cb wu hx qu=>?_) (fun cb wu hx qu=>?_) o1 o2 o3 o4
     ·exact CH g a (d[u].body.length+1) (z.length+1) (Fq z (CG b G) d[u] i) k cb wu (gg.Zbj ((q.trans q2).trans qu)) (by omega) (by have:=M.ht;omega) (by omega) hx
     ·exact Gx f y hs z b cg ca G L[u] d[u] k cb _ wu (h.Zbj (kz.trans qu)) (pI.Zbj (kz.trans qu)) (M.vw.Zbj (kz.trans qu)) M.hn M.ht hk (by omega) hx o2
    ·have cs:v<d[u].vars.length:=(by rw[pI.len,<-pI.ng];exact hv);obtain⟨d1,d2,d3,d4⟩:=is.kids bv hi hj h1 b4 bq v cs;exact ih _ _ _ _ n' ct H' wy (pI.typ v hv) d1 d2 d3 d4 q1 q2 q3
   have ar:Xq (∀c,aa [] W1 c->c.cell? ⟨w.heap.size,0,none⟩=some (int i64 i)/\c.cell? ⟨w.heap.size,1,none⟩=some (int i64 j)/\w.heap.size<c.heap.size):=fun c q=>by
    have B:=q.get an (by simp);exact⟨by rw[ab B];rfl,by rw[ab B];rfl,ah B⟩
   have cE:Xq _:=co;have bj:Xq (u<L.length/\u<d.length/\∀(q:u<L.length),L[u].code=V):=⟨ai,ac,fun _=>ba⟩;have a6:Xq (∀(q:u<d.length),cp (mI z (CG b G) d[u] i j)=1):=fun _=>by rw[a3];rfl
   have cX:L.length<=100000:=(by have:=M.pl;omega);have cz:V<1000000:=by
    have h5:V<b.length:=XI.1 (XS ax);have h6:b.length<=b.length*(z.length+1):=ZC _ (ZD _);have:=M.hn;omega
   obtain⟨C,HC⟩:=aP (CG b G);rw[HC.o]at bx b0 a4 ad a6 ⊢;obtain⟨sb,bz⟩:=aP (w.heap.size);rw[bz.o]at ar;have cH:=I.o;clear bT kW BS am b1 t1 an M h bp is bv b8 af a3 bd bq bw Y a7 ba ih b4 h1 hw ax;go_enter func147,ntmps147;(go_upto_region 1 with fail);rw[HW.o,bz.o];go_wp2;rw[bm.o]
   go_loopg [6] (u+1) (fun gk mv wr=>∃m:Nat,m<=u/\gk=u+1-m/\mv=int i64 m/\Xq (aa [] W1 wr))
   ·exact⟨0,by omega,rfl,rfl,aa.refl _ _⟩
   obtain⟨m,cT,cP,rfl,HK⟩:=hrel;have aT:=I.o.Zbj HK.o;obtain⟨d0,-,-,cB⟩:=aT.cells;obtain⟨d1,cL⟩:=cf.o _ aT.kp;have t:m<L.length:=(by have:=bj.o.1;omega);have s:m<d.length:=(by have:=bj.o.2.1;omega);have cS:(m:Int)<L.length:=(by omega);have X:Xq _:=ch.o _ aT.kp;have E:Xq _:=ck.o m t _ aT.kp;have Q:Xq _:=b0.o m t s;have ao:Xq _:=a4.o m s;obtain⟨aS,cA⟩:=cc.o m t s;by_cases bc:m=u
   ·subst bc;have bf:Xq _:=bj.o.2.2 t;have b3:=a6.o s;have bg:Xq _:=ad.o;rw[b3]at ao;clear b3;unfold zb at bg;rw[aS]at bg;unfold zb at E Q;rw[aS]at E Q;generalize L[m]=p at *;generalize d[m].body.length=N at *;(go_upto_region 7 with (first | (go_at_call 197;refine Xx X.o ?_;rintro e2 w2 ⟨rfl,S⟩;rw[S];clear S) | (go_at_call 198;refine Xx E.o ?_;rintro e3 w3 ⟨rfl,k3⟩)));obtain⟨K,J⟩:∃W,Xq (w3.alloc (.cells #[string p.Zbz,int i64 p.code,slice (some ⟨p.ap,0,none⟩) N N,slice p.ag p.gs.length p.gs.length] 289)=W):=⟨_,rfl⟩
    have B4:=dC J.o;have T:=dx J.o;have A:Xq (aa [] W1 K):=(HK.o.trans k3).trans T;obtain⟨F,O⟩:=aP (w3.heap.size);rw[O.o]at B4;have U:Xq (∀c,aa [] K c->(c.cell? ⟨l,0,none⟩=some (pointer (some ⟨f,0,none⟩))/\c.cell? ⟨sb,0,none⟩=some (int i64 i)/\c.cell? ⟨sb,1,none⟩=some (int i64 j))/\(c.cell? ⟨F,0,none⟩=some (string p.Zbz)/\c.cell? ⟨F,1,none⟩=some (int i64 p.code)/\c.cell? ⟨F,2,none⟩=some (slice (some ⟨p.ap,0,none⟩) N N)/\c.cell? ⟨F,3,none⟩=some (slice p.ag p.gs.length p.gs.length))/\F<c.heap.size/\l<c.heap.size/\sb<c.heap.size):=fun c q=>by
     have B:=q.get B4 (by simp);have c9:=(I.o.Zbj (A.o.trans q)).cells;have c8:=ar.o c (A.o.trans q);refine⟨⟨c9.1,c8.1,c8.2.1⟩,⟨?_,?_,?_,?_⟩,ah B,c9.2.2.2,c8.2.2⟩ <;> (rw[ab B];rfl)
    rw[J.o,O.o];obtain⟨⟨a0,a1,a2⟩,⟨p0,p1,p2,p3⟩,l1,l2,l3⟩:=U.o K (aa.refl _ _);clear B4 T E X k3;have az:((p.code:Int) != (V:Int))=false:=by rw[bf.o];simp
    have bo:Xq _:=fun c (q:aa [] K c)=>Q.o c (I.o.Zbj (A.o.trans q)).kp;(go_upto_region 8 with fail);go_region_held3 (fun D=>(D.cell? ⟨l,0,none⟩=some (pointer (some ⟨f,0,none⟩))/\D.cell? ⟨sb,0,none⟩=some (int i64 i))/\D.cell? ⟨F,0,none⟩=some (string p.Zbz)/\D.cell? ⟨F,1,none⟩=some (int i64 p.code)/\D.cell? ⟨F,2,none⟩=some (slice (some ⟨p.ap,0,none⟩) N N)/\D.cell? ⟨F,3,none⟩=some (slice p.ag p.gs.length p.gs.length)) (go_keep) ((go_at_call 199;refine Xx (bo.o _ (by exact(aa.refl [] K).drew)) ?_;rintro e5 w5 ⟨g5,a5,rfl,Z,bs,br,k5⟩;obtain⟨⟨y0,y1,y2⟩,⟨y3,y4,y5,y6⟩,y7,y8,y9⟩:=U.o w5 ((aa.refl [] K).drew.trans k5)));have aq:Xq (aa [] K w5):=(aa.refl [] K).drew.trans k5;have be:Xq _:=ao.o g5 a5 w5 Z;have cj:Xq _:=bg.o g5 a5 w5 (I.o.Zbj (A.o.trans aq.o)) Z;clear Z bs br k5;go_wp2_with (first | (go_at_call 196;refine Xx be.o ?_;rintro e6 w6 ⟨rfl,al⟩;rw[al];clear al) | (go_at_call 200;refine Xx cj.o ?_;rintro e7 w7 ⟨rfl,n7,l7,H7,r1,r2,r3⟩));go_end0;exact⟨rfl,n7,l7,H7,r1,r2,av.o.trans (aw.first (A.o.trans aq.o) r3)⟩
   ·have bk:=bx.o m t s bc;by_cases R:L[m].code=V
    ·have b2:=bk R;have bf:Xq _:=R;rw[b2]at ao;clear bk R b2;unfold zb at E Q;rw[aS]at E Q;generalize L[m]=p at *;generalize d[m].body.length=N at *;(go_upto_region 7 with (first | (go_at_call 197;refine Xx X.o ?_;rintro e2 w2 ⟨rfl,S⟩;rw[S];clear S) | (go_at_call 198;refine Xx E.o ?_;rintro e3 w3 ⟨rfl,k3⟩)));obtain⟨K,J⟩:∃W,Xq (w3.alloc (.cells #[string p.Zbz,int i64 p.code,slice (some ⟨p.ap,0,none⟩) N N,slice p.ag p.gs.length p.gs.length] 289)=W):=⟨_,rfl⟩
     have B4:=dC J.o;have T:=dx J.o;have A:Xq (aa [] W1 K):=(HK.o.trans k3).trans T;obtain⟨F,O⟩:=aP (w3.heap.size);rw[O.o]at B4;have U:Xq (∀c,aa [] K c->(c.cell? ⟨l,0,none⟩=some (pointer (some ⟨f,0,none⟩))/\c.cell? ⟨sb,0,none⟩=some (int i64 i)/\c.cell? ⟨sb,1,none⟩=some (int i64 j))/\(c.cell? ⟨F,0,none⟩=some (string p.Zbz)/\c.cell? ⟨F,1,none⟩=some (int i64 p.code)/\c.cell? ⟨F,2,none⟩=some (slice (some ⟨p.ap,0,none⟩) N N)/\c.cell? ⟨F,3,none⟩=some (slice p.ag p.gs.length p.gs.length))/\F<c.heap.size/\l<c.heap.size/\sb<c.heap.size):=fun c q=>by
      have B:=q.get B4 (by simp);have c9:=(I.o.Zbj (A.o.trans q)).cells;have c8:=ar.o c (A.o.trans q);refine⟨⟨c9.1,c8.1,c8.2.1⟩,⟨?_,?_,?_,?_⟩,ah B,c9.2.2.2,c8.2.2⟩ <;> (rw[ab B];rfl)
     rw[J.o,O.o];obtain⟨⟨a0,a1,a2⟩,⟨p0,p1,p2,p3⟩,l1,l2,l3⟩:=U.o K (aa.refl _ _);clear B4 T E X k3;have az:((p.code:Int) != (V:Int))=false:=by rw[bf.o];simp
     have bo:Xq _:=fun c (q:aa [] K c)=>Q.o c (I.o.Zbj (A.o.trans q)).kp;(go_upto_region 8 with fail);go_region_held3 (fun D=>(D.cell? ⟨l,0,none⟩=some (pointer (some ⟨f,0,none⟩))/\D.cell? ⟨sb,0,none⟩=some (int i64 i))/\D.cell? ⟨F,0,none⟩=some (string p.Zbz)/\D.cell? ⟨F,1,none⟩=some (int i64 p.code)/\D.cell? ⟨F,2,none⟩=some (slice (some ⟨p.ap,0,none⟩) N N)/\D.cell? ⟨F,3,none⟩=some (slice p.ag p.gs.length p.gs.length)) (go_keep) ((go_at_call 199;refine Xx (bo.o _ (by exact(aa.refl [] K).drew)) ?_;rintro e5 w5 ⟨g5,a5,rfl,Z,bs,br,k5⟩;obtain⟨⟨y0,y1,y2⟩,⟨y3,y4,y5,y6⟩,y7,y8,y9⟩:=U.o w5 ((aa.refl [] K).drew.trans k5)));have aq:Xq (aa [] K w5):=(aa.refl [] K).drew.trans k5;have be:Xq _:=ao.o g5 a5 w5 Z;clear Z bs br k5;go_wp2_with (go_at_call 196;refine Xx be.o ?_;rintro e6 w6 ⟨rfl,al⟩;rw[al];clear al);go_roundg (u+1-(m+1))
     ·exact⟨m+1,by omega,rfl,by go_num,A.o.trans aq.o⟩
     omega
    ·clear bk;have cy:L[m].code≠V:=R;clear R;unfold zb at E Q;rw[aS]at E Q;generalize L[m]=p at *;generalize d[m].body.length=N at *;(go_upto_region 7 with (first | (go_at_call 197;refine Xx X.o ?_;rintro e2 w2 ⟨rfl,S⟩;rw[S];clear S) | (go_at_call 198;refine Xx E.o ?_;rintro e3 w3 ⟨rfl,k3⟩)));obtain⟨K,J⟩:∃W,Xq (w3.alloc (.cells #[string p.Zbz,int i64 p.code,slice (some ⟨p.ap,0,none⟩) N N,slice p.ag p.gs.length p.gs.length] 289)=W):=⟨_,rfl⟩
     have B4:=dC J.o;have T:=dx J.o;have A:Xq (aa [] W1 K):=(HK.o.trans k3).trans T;obtain⟨F,O⟩:=aP (w3.heap.size);rw[O.o]at B4;have U:Xq (∀c,aa [] K c->(c.cell? ⟨l,0,none⟩=some (pointer (some ⟨f,0,none⟩))/\c.cell? ⟨sb,0,none⟩=some (int i64 i)/\c.cell? ⟨sb,1,none⟩=some (int i64 j))/\(c.cell? ⟨F,0,none⟩=some (string p.Zbz)/\c.cell? ⟨F,1,none⟩=some (int i64 p.code)/\c.cell? ⟨F,2,none⟩=some (slice (some ⟨p.ap,0,none⟩) N N)/\c.cell? ⟨F,3,none⟩=some (slice p.ag p.gs.length p.gs.length))/\F<c.heap.size/\l<c.heap.size/\sb<c.heap.size):=fun c q=>by
      have B:=q.get B4 (by simp);have c9:=(I.o.Zbj (A.o.trans q)).cells;have c8:=ar.o c (A.o.trans q);refine⟨⟨c9.1,c8.1,c8.2.1⟩,⟨?_,?_,?_,?_⟩,ah B,c9.2.2.2,c8.2.2⟩ <;> (rw[ab B];rfl)
     rw[J.o,O.o];obtain⟨⟨a0,a1,a2⟩,⟨p0,p1,p2,p3⟩,l1,l2,l3⟩:=U.o K (aa.refl _ _);clear B4 T E X k3;have az:((p.code:Int) != (V:Int))=true:=by simp;omega
     go_wp2;go_roundg (u+1-(m+1))
     ·exact⟨m+1,by omega,rfl,by go_num,A⟩
     omega
end Go.Proofs.YtpdholcaobgofaaGreat
