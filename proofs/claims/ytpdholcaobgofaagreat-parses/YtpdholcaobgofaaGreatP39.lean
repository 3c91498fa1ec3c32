import Derived.Test.YtpdholcaobgofaaGreatP38
namespace Go.Proofs.YtpdholcaobgofaaGreat
open Go.RowKit Tryz
open Value IntKind Ending
set_option maxHeartbeats 0
variable{g:Xs}{S s:Nat}{u:Nat->Nat}{N t:World}{p:List mJ}{c:Hd}(T:Nat)(w:List mJ)(d L I y:Hd)(b l:Xs)(M:Nat->Nat)(H:Nat->Nat->Nat->Nat)(D:Xr)(n f:Nat)(o:World)
def CP(tx:Xs)(C:pB)(P:dZ)(i j k:Nat):Xu:=(List.range P.vars.length).map (fun v=>if sx P v<k then od tx C P i j (sx P v) else 0)
def Cw(tx:Xs)(C:pB)(P:dZ)(i j k:Nat):Xu:=(List.range P.vars.length).map (fun v=>if sx P v<k then od tx C P i j (sx P v+1) else 0)
section
variable {tx:Xs} {C:pB} {P:dZ} {i j k v m:Nat}
theorem Ij{s:Xr}(h:bZ g s=some v):v<g.length:=XI.1 (XS h)
theorem UY(t:l4 C)(b:i<tx.length+1)(a:mI tx C P i j=1)(c:k<P.body.length):od tx C P i j k<=od tx C P i j (k+1):=by
 have e:=wg b a k c;by_cases q:od tx C P i j (k+1)<od tx C P i j k
 ·rw[kB P t _ _ _ q]at e;omega
 ·omega
theorem Rb(t:l4 C)(f:i<tx.length+1)(c:mI tx C P i j=1)(k:Nat):od tx C P i j k<=j:=by
 have e:=(lm f c k).2.2.1;by_cases q:j<od tx C P i j k
 ·rw[BJ _ (fun s _ a b d=>kB P t s a b d) _ _ q]at e;omega
 ·omega
theorem UZ(b:i<tx.length+1)(a:mI tx C P i j=1)(c:k<P.body.length)(d:bZ P.vars P.body[k]=none):od tx C P i j (k+1)=od tx C P i j k+1:=by
 have e:=wg b a k c;unfold bX at e;rw[d]at e;simp only at e;split at e
 ·next q=>exact q.1
 ·omega
theorem zap(b:i<tx.length+1)(a:mI tx C P i j=1)(c:k<P.body.length)(d:bZ P.vars P.body[k]=some v):C (P.types.getD v ⟨#[]⟩) (od tx C P i j k) (od tx C P i j (k+1))=1/\cp (wy (tx.length+1) (bX tx C P) (P.body.drop (k+1)) (od tx C P i j (k+1)) j)=1:=by
 refine⟨?_,?_⟩
 ·have e:=wg b a k c;rw[qB d]at e;exact e
 ·rw[(lm b a (k+1)).2.2.1];rfl
theorem UX(g:i<tx.length+1)(n:mI tx C P i j=1)(o:k<P.body.length)(p:bZ P.vars P.body[k]=some v)(q:m<od tx C P i j (k+1)):C (P.types.getD v ⟨#[]⟩) (od tx C P i j k) m*cp (wy (tx.length+1) (bX tx C P) (P.body.drop (k+1)) m j)≠1:=by
 intro e;obtain⟨d,l⟩:=vn e;have l:=Q9.1 l;have a:=lm g n (k+1);have b:=lm g n k;have d:bX tx C P P.body[k] (od tx C P i j k) m=1:=by rw[qB p];exact d
 have c:m<tx.length+1:=by omega
 have:m=od tx C P i j (k+1):=a.2.2.2 m c (by
  rw[zz _ _ _ _ o g c];have:=yJ (f:=fun z=>wy (tx.length+1) (bX tx C P) (P.body.take k) i z*bX tx C P P.body[k] z m) b.1;simp only[b.2.1,d]at this
  omega) (by omega)
 omega
theorem zat:(CP tx C P i j k).length=P.vars.length:=by simp[CP]
theorem zbn:(Cw tx C P i j k).length=P.vars.length:=by simp[Cw]
theorem U8(f:ki P)(b:k<P.body.length)(c:bZ P.vars P.body[k]=none):CP tx C P i j (k+1)=CP tx C P i j k/\Cw tx C P i j (k+1)=Cw tx C P i j k:=by
 have d:∀u∈List.range P.vars.length,sx P u≠k:=fun u a e=>by
  have:=(yl f (XI.1 a)).2;rw[e,kK _ _ b,c]at this;cases this
 constructor
 all_goals
  refine YU (fun u a=>?_);by_cases q:sx P u<k
  ·rw[XA q,XA (by omega)]
  ·rw[Xz q,Xz (by have:=d u a;omega)]
theorem za7{v:Nat}{g:Nat->Nat}(c:v<S)(d:g v=s)(f:∀a,a<S->a≠v->g a=u a):((List.range S).map u).set v s=(List.range S).map g:=by
 apply YR;intro t;rw[Yv,XZ,YW];by_cases b:t<S
 ·by_cases e:v=t
  ·subst e;rw[XA rfl,XA c];simp[c,d]
  ·rw[Xz e];simp[b,f t b (fun q=>e q.symm)]
 ·rw[Xz (by omega),Yb (by simp;omega),Yb (by simp;omega)]
theorem zau(g:ki P)(b:k<P.body.length)(c:bZ P.vars P.body[k]=some v):(CP tx C P i j k).set v (od tx C P i j k)=CP tx C P i j (k+1)/\(Cw tx C P i j k).set v (od tx C P i j (k+1))=Cw tx C P i j (k+1):=by
 have f:=Ij c;have e:=WV g f b (by rw[kK _ _ b];exact c);have l:∀u,u<P.vars.length->u≠v->sx P u≠k:=fun u d a q=>by
  have:=(yl g d).2;rw[q,kK _ _ b,c]at this;cases this
  exact a rfl
 constructor
 all_goals
  refine za7 f (by rw[XA (by omega),e]) (fun u d a=>?_);by_cases q:sx P u<k
  ·rw[XA q,XA (by omega)]
  ·rw[Xz q,Xz (by have:=l u d a;omega)]
theorem Mo:CP tx C P i j 0=List.replicate P.vars.length 0/\Cw tx C P i j 0=List.replicate P.vars.length 0:=by
 have e:∀n,(List.range n).map (fun _=>0)=List.replicate n 0:=fun n=>by
  induction n with
  | zero=>rfl
  | succ n a=>rw[YG,Yj,a,List.replicate_succ'];rfl
 unfold CP Cw;constructor
 ·simp[e]
 ·simp[e]
theorem zp(b:ki P)(a:v<P.vars.length):(CP tx C P i j P.body.length)[v]?=some (pn tx C P i j v).1/\(Cw tx C P i j P.body.length)[v]?=some (pn tx C P i j v).2:=by
 have:=(yl b a).1;simp[CP,Cw,a,this,pn]
end
set_option maxRecDepth 100000
theorem SZ(m:mJ)(i j:Nat)(K:World)(h:ss K T w d L I y b l M H)(Y:qw K m)(ok:ki m.P)(ht:b.length<=100)(bz:l.length<=100000)(cP:i<=j)(hj:j<b.length+1)(V:Cb H)(h1:mI b (CG l H) m.P i j=1) :
  Calls prog 151 #[pointer (some ⟨T,0,none⟩),Ik m,int i64 i,int i64 j] K fun e w'=>∃D E,e=returned (tuple #[slice (some ⟨D,0,none⟩) m.P.vars.length m.P.vars.length,slice (some ⟨E,0,none⟩) m.P.vars.length m.P.vars.length])/\ce w' D (CP b (CG l H) m.P i j m.P.body.length)/\ce w' E (Cw b (CG l H) m.P i j m.P.body.length)/\aa [] K w':=by
 obtain⟨W,HW⟩:=aP (K.alloc (.cells #[string m.P.code,slice m.hb.ao m.P.body.length m.hb.cap,slice m.hv.ao m.P.vars.length m.hv.cap,slice m.ht.ao m.P.types.length m.ht.cap,string m.P.Zbz] 185));have kW:=dx HW.o;have BP:=dC HW.o;have F:Xq (∀f,aa [] W f->(f.cell? ⟨K.heap.size,0,none⟩=some (string m.P.code)/\f.cell? ⟨K.heap.size,1,none⟩=some (slice m.hb.ao m.P.body.length m.hb.cap)/\f.cell? ⟨K.heap.size,2,none⟩=some (slice m.hv.ao m.P.vars.length m.hv.cap)/\f.cell? ⟨K.heap.size,3,none⟩=some (slice m.ht.ao m.P.types.length m.ht.cap)/\f.cell? ⟨K.heap.size,4,none⟩=some (string m.P.Zbz)/\K.heap.size<f.heap.size)):=fun f q=>by
  have B:=q.get BP (by simp);exact⟨by rw[ab B];rfl,by rw[ab B];rfl,by rw[ab B];rfl,by rw[ab B];rfl,by rw[ab B];rfl,ah B⟩
 have cu:Xq (∀x f,aa [] W f->Calls prog 108 #[slice m.hv.ao m.P.vars.length m.hv.cap,string x] f fun e w'=>e=returned (int i64 (iu (bZ m.P.vars x)))/\w'=f):=fun x f q=>vE m.hv m.P.vars x f ((Y.Zbj (kW.trans q)).v) (by have:=Y.vl;omega);have bs:Xq (∀cd a ag f,a<b.length+1->ag<b.length+1->aa [] W f->Calls prog 73 #[pointer (some ⟨T,0,none⟩),string cd,int i64 a,int i64 ag] f fun e w'=>e=returned (int i64 (CG l H cd a ag))/\aa [] f w'):=fun cd a ag f ha hb q=>vy T w d L I y b l M H cd a ag f (h.Zbj (kW.trans q)) ht bz ha hb;have a2:Xq (∀k a f,k<=m.P.body.length->a<=j->aa [] W f->Calls prog 150 #[pointer (some ⟨T,0,none⟩),Ik m,int i64 k,int i64 a,int i64 j] f fun e w'=>e=returned (int i64 (cp (wy (b.length+1) (bX b (CG l H) m.P) (m.P.body.drop k) a j)))/\aa [] f w'):=fun k a f hk ha q=>xN T w d L I y b l M H m k a j f (h.Zbj (kW.trans q)) (Y.Zbj (kW.trans q)) ht bz hk ha hj V.two (V.cg l);have ck:Xq (∀s (hs:s<m.P.body.length),∃g r,m.hb.ao=some ⟨g,r,none⟩/\∀f,aa [] W f->g<f.heap.size/\f.cell? ⟨g,r+s,none⟩=some (string m.P.body[s])):=fun s hs=>by
  obtain⟨g,r,e1,-,-⟩:=(Y.Zbj kW).b.el hs;refine⟨g,r,e1,fun f q=>?_⟩;obtain⟨g2,cf,e2,l2,Z⟩:=(Y.Zbj (kW.trans q)).b.el hs;rw[e1]at e2;cases e2;exact⟨l2,Z⟩
 have cz:Xq (∀s (hs:s<m.P.types.length),∃g r,m.ht.ao=some ⟨g,r,none⟩/\∀f,aa [] W f->g<f.heap.size/\f.cell? ⟨g,r+s,none⟩=some (string m.P.types[s])):=fun s hs=>by
  obtain⟨g,r,e1,-,-⟩:=(Y.Zbj kW).t.el hs;refine⟨g,r,e1,fun f q=>?_⟩;obtain⟨g2,cf,e2,l2,Z⟩:=(Y.Zbj (kW.trans q)).t.el hs;rw[e1]at e2;cases e2;exact⟨l2,Z⟩
 have c6:=Y.bl;have dT:=Y.vl;have cx:Xq _:=Y.len;have bk:Xq _:=ok;have be:Xq (∀c a ag,CG l H c a ag<=2):=fun c a ag=>Jr V.two c a ag;have J:Xq _:=V.cg l;have ct:Xq _:=kW;have H1:Xq _:=h1;obtain⟨pb,bm⟩:=aP (K.heap.size);obtain⟨C,HC⟩:=aP (CG l H);rw[HC.o]at bs a2 be J H1 ⊢;have G:i<b.length+1:=by omega
 rw[bm.o]at F;unfold Ik at a2 ⊢;obtain⟨i0,bT,ca,cb,cc⟩:=XV ru;have m1:=fun K=>bY (P:=prog) K 25 3 i0 _ underlying25 bT ca m.P.vars.length 1 cb (by rw[cc];omega) (by omega);obtain⟨A,bx⟩:=aP (madeCells (int i64 0).cells (m.P.vars.length*1));have bj:Xq (A=(eR (List.replicate m.P.vars.length 0)).toArray):=cm (by rw[<-bx.o,qI]);rw[bx.o]at m1;obtain⟨-,-,p2,-,-,b4⟩:=F.o W (aa.refl _ _);obtain⟨-,c1,c3,-,-,b5⟩:=F.o (W.alloc (.cells A 3)) ((aa.refl [] W).alloc _);obtain⟨-,ch,-,-,-,a6⟩:=F.o ((W.alloc (.cells A 3)).alloc (.cells A 3)) (((aa.refl [] W).alloc _).alloc _);have an:Xq (ce ((W.alloc (.cells A 3)).alloc (.cells A 3)) W.heap.size (CP b C m.P i j 0)):=by
  show _=_;rw[Mo.1,<-bj.o];exact((aa.refl [] (W.alloc (.cells A 3))).alloc (.cells A 3)).get (XD _ _) (by simp)
 have az:Xq (ce ((W.alloc (.cells A 3)).alloc (.cells A 3)) (W.heap.size+1) (Cw b C m.P i j 0)):=by
  show _=_;rw[Mo.2,<-bj.o];have:=XD (W.alloc (.cells A 3)) (.cells A 3);rw[show(W.alloc (.cells A 3)).heap.size=W.heap.size+1 by simp]at this;exact this
 have bf:Xq (aa [] W ((W.alloc (.cells A 3)).alloc (.cells A 3))):=((aa.refl [] W).alloc _).alloc _;obtain⟨D,ap⟩:=aP (W.heap.size);obtain⟨E,aT⟩:=aP (W.heap.size+1);have ad:Xq (D≠E/\W.heap.size<=D/\W.heap.size<=E):=by
  show D≠E/\W.heap.size<=D/\W.heap.size<=E;rw[<-ap.o,<-aT.o];omega
 rw[ap.o]at an;rw[aT.o]at az;have cl:Xq (od b C m.P i j 0=i):=U0 G H1.o;clear h Y ok V h1 BP kW bT ca cb cc;go_enter func151,ntmps151;go_upto_region 1 with fail
 rw[HW.o,bm.o];go_upto_region 3 with fail
 rw[aT.o,ap.o];obtain⟨X,HX⟩:=aP ((W.alloc (.cells A 3)).alloc (.cells A 3));rw[HX.o]at an az bf ⊢;clear c1 c3 b5 ch a6 p2 b4 m1;go_wp2
 go_loopg [2,12] m.P.body.length (fun g iv kv wr=>∃k c:Nat,k<=m.P.body.length/\g=m.P.body.length-k/\iv=int i64 c/\kv=int i64 k/\c<=j/\Xq (od b C m.P i j k=c)/\Xq (ce wr D (CP b C m.P i j k))/\Xq (ce wr E (Cw b C m.P i j k))/\Xq (aa [] W wr))
 ·exact⟨0,i,by omega,rfl,rfl,rfl,cP,cl,an,az,bf⟩
 obtain⟨k,c,dp,hg,rfl,rfl,c7,am,HF,HT,HK⟩:=hrel;obtain⟨-,p1,p2,-,-,b4⟩:=F.o _ HK.o;rcases kn k m.P.body.length with ⟨p,dl⟩ | ⟨p,-⟩
 ·obtain⟨gb,ob,eb,a3⟩:=ck.o k p;obtain⟨df,b0⟩:=a3 _ HK.o;rw[eb]at p1;have af:Xq _:=fun n=>cu.o m.P.body[k] (wr.drewN n) (HK.o.drewN n);cases u:bZ m.P.vars m.P.body[k] with
  | none =>
   rw[u]at af;have cR:((iu none:Int))=-1:=rfl;have ax:Xq _:=UZ G H1.o p u;have b2:=Rb J.o G H1.o (k+1);rw[ax.o,am.o]at b2;rw[am.o]at ax;have bp:Xq _:=U8 (tx:=b) (C:=C) (i:=i) (j:=j) bk.o p u;generalize m.P.body[k]=d4 at *;clear eb a3;(go_upto_region 6 with fail);go_quiet ((go_at_call 108;exact XW (af.o _)));go_wp2;go_roundg (m.P.body.length-(k+1))
   ·exact⟨k+1,c+1,by omega,rfl,by go_num,by go_num,b2,ax,by rw[bp.o.1];exact HF,by rw[bp.o.2];exact HT,HK.o.drewN _⟩
   omega
  | some v =>
   rw[u]at af;have cR:((iu (some v):Int))=(v:Int):=rfl;have a7:=Ij u;have b8:v<m.P.types.length:=by rw[cx.o];exact a7
   obtain⟨Z,ba⟩:=aP (od b C m.P i j (k+1));have ai:=Rb J.o G H1.o (k+1);have a4:=UY J.o G H1.o p;have O:Xq _:=zap G H1.o p u;have R:Xq _:=(fun z=>UX (m:=z) G H1.o p u);have S:Xq _:=zau (tx:=b) (C:=C) (i:=i) (j:=j) bk.o p u;rw[ba.o]at ai a4 O R S;rw[am.o]at a4 O R S;obtain⟨gt,ot,et,b6⟩:=cz.o v b8;have cy:Xq (∀f,aa [] W f->gt<f.heap.size/\f.cell? ⟨gt,ot+v,none⟩=some (string m.P.types[v])):=b6;have co:Xq _:=et;rw[fO _ _ b8]at O R;generalize m.P.types[v]=cj at *;generalize m.P.body[k]=d4 at *;have a1:Xq _:=(fun a f=>a2.o (k+1) a f p);obtain⟨U,bv⟩:∃U:Nat->Nat,Xq ((fun q=>cp (wy (b.length+1) (bX b C m.P) (m.P.body.drop (k+1)) q j))=U):=⟨_,rfl⟩
   have cB:Xq (∀q,cp (wy (b.length+1) (bX b C m.P) (m.P.body.drop (k+1)) q j)=U q):=fun q=>by rw[<-bv.o]
   have cA:Xq (∀q,U q<=2):=fun q=>by rw[<-bv.o];exact oY _
   simp only[cB.o]at O R a1;have dz:(v:Int)<(m.P.vars.length:Int):=by omega
   have c5:(v:Int)<(m.P.types.length:Int):=(by omega);have b1:((k+1:Nat):Int)=(k:Int)+1:=(by omega);rw[b1]at a1;clear eb a3 et b6;(go_upto_region 6 with fail);go_quiet ((go_at_call 108;exact XW (af.o _)));rename_i nq;obtain⟨X1,cE⟩:=aP (wr.drewN nq);have bd:Xq (ce (wr.drewN nq) D (CP b C m.P i j k)):=HF;have bq:Xq (ce (wr.drewN nq) E (Cw b C m.P i j k)):=HT;have aq:Xq (aa [] W (wr.drewN nq)):=HK.o.drewN nq;rw[cE.o]at bd bq aq ⊢;go_wp2
   go_loopg [14] (Z-c) (fun g2 mv f=>∃z:Nat,c<=z/\z<=Z/\g2=Z-z/\mv=int i64 z/\Xq (aa [] X1 f))
   ·exact⟨c,by omega,a4,rfl,rfl,aa.refl _ _⟩
   obtain⟨z,c8,d0,db,rfl,av⟩:=hrel;have N:=aq.o.trans av.o;obtain⟨-,-,-,q3,-,dt⟩:=F.o _ N;rw[co.o]at q3;obtain⟨dk,d3⟩:=cy.o _ N;have bc:Xq _:=(bs.o cj c z _ (by omega) (by omega) N);have bw:Xq _:=(fun f=>a1.o z f (by omega));have cF:=be.o cj c z;have cV:=cA.o z;have bo:Xq _:=(fun f (q:aa [] wr f)=>F.o f (N.trans q));have bg:Xq _:=N;by_cases c0:z<Z
   ·have b3:=R.o z c0;generalize C cj c z=tv at *;generalize U z=uv at *;obtain⟨pr,a5⟩:∃pr,tv*uv=pr:=⟨_,rfl⟩
    have c4:(tv:Int)*(uv:Int)=(pr:Int):=(by rw[<-a5];simp);have cT:tv*uv<=2*2:=YF cF cV;rw[a5]at b3 cT;have cS:¬(pr:Int)=1:=(by omega);have d1:¬(z:Int) ≥ (j:Int):=(by omega);have ds:((pr:Int)==1)=false:=X6.2 cS;have d2:¬j<=z:=(by omega);clear a5 N b3;(go_upto_region 11 with (go_at_call 73;refine Xx bc.o ?_;rintro e4 w4 ⟨rfl,k4⟩));obtain⟨y0,y1,y2,y3,y4,cX⟩:=bo.o _ k4;have a0:Xq _:=bw.o w4 (bg.o.trans k4);have ar:Xq _:=av.o.trans k4;clear k4;(go_upto_region 12 with (go_at_call 150;refine Xx a0.o ?_;rintro e5 w5 ⟨rfl,k5⟩));have Q:Xq _:=ar.o.trans k5;clear k5 y0 y1 y2 y3 y4;go_wp2;go_roundg (Z-(z+1))
    ·exact⟨z+1,by omega,by omega,rfl,by go_num,Q⟩
    omega
   ·obtain rfl:z=Z:=(by omega);obtain⟨cH,cL⟩:=O.o;generalize C cj c z=tv at *;generalize U z=uv at *;subst cH cL;(go_upto_region 11 with (go_at_call 73;refine Xx bc.o ?_;rintro e4 w4 ⟨rfl,k4⟩));obtain⟨y0,y1,y2,y3,y4,cX⟩:=bo.o _ k4;have a0:Xq _:=bw.o w4 (bg.o.trans k4);have ar:Xq _:=av.o.trans k4;clear k4;(go_upto_region 12 with (go_at_call 150;refine Xx a0.o ?_;rintro e5 w5 ⟨rfl,k5⟩));have Q:Xq _:=ar.o.trans k5;have ac:Xq (ce w5 D (CP b C m.P i j k)):=Q.o.get bd.o (by simp);have br:Xq (ce w5 E (Cw b C m.P i j k)):=Q.o.get bq.o (by simp);have c9:=ah ac.o;have dv:=ah br.o;obtain⟨vf,b7⟩:∃vf,(CP b C m.P i j k)[v]?=some vf:=⟨_,Xv (by rw[zat];exact a7)⟩
    obtain⟨vt,al⟩:∃vt,(Cw b C m.P i j k)[v]?=some vt:=⟨_,Xv (by rw[zbn];exact a7)⟩
    have f0:=ce.at ac.o b7;have ff:=zcW ac.o v;have aS:Xq (ce (w5.setCell ⟨D,v,none⟩ (int i64 c)) E (Cw b C m.P i j k)):=by
     show _=_;rw[XN _ _ _ _ (fun e=>ad.o.1 e.symm)];exact br.o
    have t0:=ce.at aS.o al;have tf:=zcW aS.o v;have cq:Xq (ce ((w5.setCell ⟨D,v,none⟩ (int i64 c)).setCell ⟨E,v,none⟩ (int i64 z)) D (CP b C m.P i j (k+1))):=by
     have:=ce.put ac.o v c;rw[S.o.1]at this;show _=_;rw[XN _ _ _ _ ad.o.1];exact this
    have cv:Xq (ce ((w5.setCell ⟨D,v,none⟩ (int i64 c)).setCell ⟨E,v,none⟩ (int i64 z)) E (Cw b C m.P i j (k+1))):=by
     have:=ce.put aS.o v z;rw[S.o.2]at this;exact this
    have cs:Xq (aa [] W ((w5.setCell ⟨D,v,none⟩ (int i64 c)).setCell ⟨E,v,none⟩ (int i64 z))):=((aq.o.trans Q.o).setCell (XK ad.o.2.1) _).setCell (XK ad.o.2.2) _;clear k5 y0 y1 y2 y3 y4 S b7 al;go_wp2;go_roundg (m.P.body.length-(k+1))
    ·exact⟨k+1,z,by omega,rfl,rfl,by go_num,ai,ba,cq,cv,cs⟩
    omega
 ·obtain rfl:k=m.P.body.length:=by omega
  go_wp2;go_ret2;exact⟨D,E,rfl,HF.o,HT.o,ct.o.trans HK.o⟩
def zbR(Qs:List mJ)(tx:Xs)(C:pB)(cd:Xr)(i j:Nat)(w:World)(e:Ending)(w':World):Prop:=∃m fa ta,m∈Qs/\MS tx (cY Qs) C cd i j=some m.P/\e=returned (tuple #[Ik m,slice (some ⟨fa,0,none⟩) m.P.vars.length m.P.vars.length,slice (some ⟨ta,0,none⟩) m.P.vars.length m.P.vars.length])/\ce w' fa (CP tx C m.P i j m.P.body.length)/\ce w' ta (Cw tx C m.P i j m.P.body.length)/\aa [] w w'
theorem Dl(h:ss o T w d L I y b l M H)(is:yT b (cY w) (CG l H))(u:Cb H)(ok:∀m∈w,ki m.P)(ht:b.length<=100)(am:l.length<=100000)(bo:w.length<=100000)(hi:n<b.length+1)(hj:f<b.length+1)(h1:CG l H D n f=1) :
  Calls prog 109 #[pointer (some ⟨T,0,none⟩),string D,int i64 n,int i64 f] o fun e R=>zbR w b (CG l H) D n f o e R:=by
 have an:n<=f:=by
  by_cases q:f<n
  ·rw[u.cg l D n f q]at h1;omega
  ·omega
 obtain⟨i,ap,r,N,A,av⟩:=is.pick hi hj h1;have O:i<w.length:=by rw[<-tu];exact ap
 rw[ub O]at r N A;have ag:Xq (∀a (y:a<w.length),a≠i->(w[a].P.code.toList==D.toList)=true->cp (mI b (CG l H) w[a].P n f)=0):=fun a j bd bc=>by
  have:=av a (by rw[tu];exact j) (by rw[ub j];exact bc);rw[ub j]at this;by_cases z:0<mI b (CG l H) w[a].P n f
  ·exact absurd (this z) bd
  ·rw[show mI b (CG l H) w[a].P n f=0 by omega];rfl
 have ai:Xq (cp (mI b (CG l H) w[i].P n f)=1):=cm (by rw[A];rfl);have aS:Xq _:=N;have J:Xq (∀a (y:a<w.length) c,aa [] o c->Calls prog 150 #[pointer (some ⟨T,0,none⟩),Ik w[a],int i64 0,int i64 n,int i64 f] c fun e R=>e=returned (int i64 (cp (mI b (CG l H) w[a].P n f)))/\aa [] c R):=fun a j c q=>xN T w d L I y b l M H w[a] 0 n f c (h.Zbj q) ((h.each _ (XM j)).Zbj q) ht am (XX _) an hj u.two (u.cg l);have F:Xq (∀c,aa [] o c->Calls prog 151 #[pointer (some ⟨T,0,none⟩),Ik w[i],int i64 n,int i64 f] c fun e R=>∃K Q,e=returned (tuple #[slice (some ⟨K,0,none⟩) w[i].P.vars.length w[i].P.vars.length,slice (some ⟨Q,0,none⟩) w[i].P.vars.length w[i].P.vars.length])/\ce R K (CP b (CG l H) w[i].P n f w[i].P.body.length)/\ce R Q (Cw b (CG l H) w[i].P n f w[i].P.body.length)/\aa [] c R):=fun c q=>SZ T w d L I y b l M H w[i] n f c (h.Zbj q) ((h.each _ (XM O)).Zbj q) (ok _ (XM O)) ht am an hj u A;have af:Xq (∀c,aa [] o c->c.cell? ⟨T,0,none⟩=some (slice d.ao w.length d.cap)/\T<c.heap.size):=fun c q=>⟨(h.Zbj q).cells.1,(h.Zbj q).cells.2.2.2.2⟩
 have ad:Xq (∀a (y:a<w.length),∃g,d.ao=some ⟨g,0,none⟩/\∀c,aa [] o c->g<c.heap.size/\c.cell? ⟨g,a*5,none⟩=some (string w[a].P.code)/\c.cell? ⟨g,a*5+1,none⟩=some (slice w[a].hb.ao w[a].P.body.length w[a].hb.cap)/\c.cell? ⟨g,a*5+2,none⟩=some (slice w[a].hv.ao w[a].P.vars.length w[a].hv.cap)/\c.cell? ⟨g,a*5+3,none⟩=some (slice w[a].ht.ao w[a].P.types.length w[a].ht.cap)/\c.cell? ⟨g,a*5+4,none⟩=some (string w[a].P.Zbz)):=fun a j=>by
  obtain⟨g,e1,-⟩:=h.prd a w[a] (Xv j);refine⟨g,e1,fun c q=>?_⟩;obtain⟨g2,e2,l2,c2⟩:=(h.Zbj q).prd a w[a] (Xv j);obtain rfl:g=g2:=by rw[e1]at e2;injection e2 with e2;injection e2
  exact⟨l2,c2 0 _ rfl,c2 1 _ rfl,c2 2 _ rfl,c2 3 _ rfl,c2 4 _ rfl⟩
 have ac:Xq (MS b (cY w) (CG l H) D n f=some w[i].P):=r;obtain⟨C,HC⟩:=aP (CG l H);rw[HC.o]at J F ai ag ac ⊢;clear h is u ok h1 r N A av ap;obtain⟨AO,ax⟩:=aP (d.ao);rw[ax.o]at af ad;obtain⟨W,HW⟩:=aP (o.alloc (.cells #[string ⟨#[]⟩,slice none 0 0,slice none 0 0,slice none 0 0,string ⟨#[]⟩] 185));have kW:=dx HW.o;have BZ:=dC HW.o;obtain⟨E,G⟩:=aP (o.heap.size);rw[G.o]at BZ;have az:Xq _:=BZ;have t:Xq _:=kW;have a7:Xq (o.heap.size<=E):=Y5 G.o;clear BZ kW;go_enter func109,ntmps109;go_upto_region 1 with fail
 rw[HW.o,G.o];go_wp2
 go_loopg [11] i (fun g kv wr=>∃k:Nat,k<=i/\g=i-k/\kv=int i64 k/\Xq (aa [] W wr))
 ·exact⟨0,by omega,by omega,rfl,aa.refl _ _⟩
 obtain⟨k,bl,hg,rfl,HK⟩:=hrel;have x:k<w.length:=by omega
 have al:=t.o.trans HK.o;obtain⟨c0,bg⟩:=af.o _ al;obtain⟨gp,ep,r⟩:=ad.o k x;obtain⟨bf,d0,d1,d2,d3,d4⟩:=r _ al;rw[ep]at c0;have bk:(k:Int)<w.length:=by omega
 have s:Xq (aa [] W (wr.alloc (.cells #[string w[k].P.code,slice w[k].hb.ao w[k].P.body.length w[k].hb.cap,slice w[k].hv.ao w[k].P.vars.length w[k].hv.cap,slice w[k].ht.ao w[k].P.types.length w[k].ht.cap,string w[k].P.Zbz] 185))):=HK.o.alloc _;by_cases aq:k=i
 ·subst aq;have p:Xq _:=J.o k x _ (t.o.trans s.o);have V:Xq (∀c,aa [] (wr.alloc (.cells #[string w[k].P.code,slice w[k].hb.ao w[k].P.body.length w[k].hb.cap,slice w[k].hv.ao w[k].P.vars.length w[k].hv.cap,slice w[k].ht.ao w[k].P.types.length w[k].ht.cap,string w[k].P.Zbz] 185)) c->(c.cell? ⟨wr.heap.size,0,none⟩=some (string w[k].P.code)/\c.cell? ⟨wr.heap.size,1,none⟩=some (slice w[k].hb.ao w[k].P.body.length w[k].hb.cap)/\c.cell? ⟨wr.heap.size,2,none⟩=some (slice w[k].hv.ao w[k].P.vars.length w[k].hv.cap)/\c.cell? ⟨wr.heap.size,3,none⟩=some (slice w[k].ht.ao w[k].P.types.length w[k].ht.cap)/\c.cell? ⟨wr.heap.size,4,none⟩=some (string w[k].P.Zbz)/\wr.heap.size<c.heap.size)):=fun c q=>by
   have B:=q.get (XD _ _) (by simp);exact⟨by rw[ab B];rfl,by rw[ab B];rfl,by rw[ab B];rfl,by rw[ab B];rfl,by rw[ab B];rfl,ah B⟩
  have ba:Xq (w[k]∈w):=XM x;rw[ai.o]at p;have ar:=aS.o;generalize w[k]=m at *;unfold Ik at p F;clear ep r;go_upto_region 7 with (go_at_call 150;refine Xx p.o ?_;rintro e4 w4 ⟨rfl,U⟩)
  obtain⟨y0,y1,y2,y3,y4,bp⟩:=V.o _ U;have aT:Xq _:=F.o w4 (t.o.trans (s.o.trans U));have X:Xq _:=U;clear U;go_upto_region 9 with (go_at_call 151;refine Xx aT.o ?_;rintro e5 w5 ⟨K,Q,rfl,i5,j5,k5⟩)
  obtain⟨bq,br,bs,bv,bw,be⟩:=V.o _ (X.o.trans k5);have Y:Xq _:=(s.o.trans X.o).trans k5;have S:=Y.o.get az.o (by simp);obtain⟨z0,z1,z2,z3,z4⟩:=nJ S;have zf:=zcW S;have bm:=ah S;have a5:Xq (ce w5 K (CP b C m.P n f m.P.body.length)):=i5;have a6:Xq (ce w5 Q (Cw b C m.P n f m.P.body.length)):=j5;have Z:Xq (K≠E/\Q≠E):=⟨fun e=>by rw[e]at i5;have:=S.symm.trans i5;simp at this,fun e=>by rw[e]at j5;have:=S.symm.trans j5;simp at this⟩;clear y0 y1 y2 y3 y4 i5 j5 k5 S;have KF:Xq (∀a0 a1 a2 a3 a4,aa [E] w5 (((((w5.setCell ⟨E,0,none⟩ a0).setCell ⟨E,1,none⟩ a1).setCell ⟨E,2,none⟩ a2).setCell ⟨E,3,none⟩ a3).setCell ⟨E,4,none⟩ a4)):=fun a0 a1 a2 a3 a4=>((((((aa.refl _ _).sl1 _).sl1 _).sl1 _).sl1 _).sl1 _)
  go_wp2;exact XG (v:=tuple #[agg #[string m.P.code,slice m.hb.ao m.P.body.length m.hb.cap,slice m.hv.ao m.P.vars.length m.hv.cap,slice m.ht.ao m.P.types.length m.ht.cap,string m.P.Zbz],slice (some ⟨K,0,none⟩) m.P.vars.length m.P.vars.length,slice (some ⟨Q,0,none⟩) m.P.vars.length m.P.vars.length]) (by simp[results,results109,go_sem,z0,z1,z2,z3,z4]) rfl ⟨m,K,Q,ba.o,ac.o,rfl,(KF.o _ _ _ _ _).get a5.o (by simp;exact Z.o.1),(KF.o _ _ _ _ _).get a6.o (by simp;exact Z.o.2),R4 (t.o.trans Y.o) a7.o _ _ _ _ _⟩
 ·have p:Xq _:=J.o k x _ (t.o.trans s.o);have HU:Xq _:=ag.o k x aq;have bj:k<i:=by omega
  generalize w[k]=m at *;unfold Ik at p;clear ep r;cases ar:(m.P.code.toList==D.toList)
  ·go_wp2;go_roundg (i-(k+1))
   ·exact⟨k+1,by omega,rfl,by go_num,s⟩
   omega
  ·rw[HU.o ar]at p;go_wp2_with (go_at_call 150;refine Xx p.o ?_;rintro e4 w4 ⟨rfl,U⟩);go_roundg (i-(k+1))
   ·exact⟨k+1,by omega,rfl,by go_num,s.o.trans U⟩
   omega
def IU(n:Nat):Nat:=if n<=64 then n else 65
structure SzI(n L:Nat):Prop where
 a:n<=64->n=L
 b:64<n->64<L
theorem SzI.next{x:Nat}(h:SzI S s)(b:S<=64):SzI (S+IU x) (s+x):=by
 have:=h.a b;unfold IU;split
 ·exact⟨fun _=>by omega,fun _=>by omega⟩
 ·exact⟨fun _=>by omega,fun _=>by omega⟩
theorem zbm:IU f<=65:=by unfold IU;split <;> omega
theorem MB(f:Nat->Xs){b:Nat}(h:S<=b):(kT f S).length<=(kT f b).length:=by
 induction b with
 | zero =>
      obtain rfl:S=0:=(by omega);exact Xy _
 | succ b a =>
  by_cases e:S=b+1
  ·rw[e];exact Xy _
  ·rw[qG,XC];have:=a (by omega);omega
structure Nr(w:World)(gq:Nat)(Qs:List mJ)(hp hx hc hn:Hd)(tx codes:Xs)(rb:Nat->Nat)(G:Nat->Nat->Nat->Nat):Prop where
 at_:ss w gq Qs hp hx hc hn tx codes rb G
 is:yT tx (cY Qs) (CG codes G)
 gok:Cb G
 ok:∀m∈Qs,ki m.P
 ht:tx.length<=100
 hcl:codes.length<=100000
 hql:Qs.length<=100000
theorem Nr.Zbj{e b d:Hd}{a:Xs}{G:Nat->Nat->Nat->Nat}(h:Nr N S p c e b d g a u G)(k:aa [] N t):Nr t S p c e b d g a u G:=⟨h.at_.Zbj k,h.is,h.gok,h.ok,h.ht,h.hcl,h.hql⟩
theorem MT(h:∀m∈p,ki m.P):∀P∈cY p,ki P:=fun P a=>by
 obtain⟨m,b,rfl⟩:=YN.1 a;exact h m b
theorem OY :
  ∀(r:Nat) (A:Xr) (i j:Nat) (G:World),Nr G T w d L I y b l M H->i<b.length+1->j<b.length+1->CG l H A i j=1->0<BK b (cY w) r A i j ->
  Calls prog 74 #[pointer (some ⟨T,0,none⟩),string A,int i64 i,int i64 j] G fun e J=>e=returned (int i64 (IU (pJ b (cY w) (CG l H) r A i j).length))/\aa [] G J:=by
 intro r
 induction r with
 | zero=>intro A i j G _ _ _ _ h0;exact absurd h0 (Z1 _)
 | succ r ih =>
  intro A i j G h hi hj h1 ai;have Q:Xq _:=Dl T w d L I y b l M H A i j G h.at_ h.is h.gok h.ok h.ht h.hcl h.hql hi hj h1;have N:Xq (∀P,MS b (cY w) (CG l H) A i j=some P->∀v,v<P.vars.length->∀c,aa [] G c->Calls prog 74 #[pointer (some ⟨T,0,none⟩),string (P.types.getD v ⟨#[]⟩),int i64 (pn b (CG l H) P i j v).1,int i64 (pn b (CG l H) P i j v).2] c fun e J=>e=returned (int i64 (IU (pJ b (cY w) (CG l H) r (P.types.getD v ⟨#[]⟩) (pn b (CG l H) P i j v).1 (pn b (CG l H) P i j v).2).length))/\aa [] c J):=fun P hP v Y c q=>by
   obtain⟨a1,a2,a3,a4⟩:=h.is.kids (MT h.ok) hi hj h1 ai hP v Y;exact ih _ _ _ c (h.Zbj q) a1 a2 a3 a4
  have Z:Xq (∀m∈w,∀c,aa [] G c->qw c m):=fun m hm c q=>(h.at_.each m hm).Zbj q;have af:Xq _:=h.ok;obtain⟨C,HC⟩:=aP (CG l H);rw[HC.o]at Q N ⊢;clear h h1 ai ih;go_enter func74,ntmps74;go_upto_region 2 with (go_at_call 109;refine Xx Q.o ?_;rintro e1 w1 ⟨m,fa,ta,R,S,rfl,i1,j1,k1⟩;unfold Ik)
  obtain⟨W,HW⟩:=aP (w1.alloc (.cells #[string m.P.code,slice m.hb.ao m.P.body.length m.hb.cap,slice m.hv.ao m.P.vars.length m.hv.cap,slice m.ht.ao m.P.types.length m.ht.cap,string m.P.Zbz] 185));have p:=dx HW.o;have BP:=dC HW.o;obtain⟨pb,ag⟩:=aP (w1.heap.size);rw[ag.o]at BP;have s:=Z.o m R W (k1.trans p);have V:=af.o m R;have bc:=s.vl;have al:=s.len;have aq:Xq (∀c,aa [] W c->c.cell? ⟨pb,2,none⟩=some (slice m.hv.ao m.P.vars.length m.hv.cap)/\pb<c.heap.size):=fun c q=>by
   have B:=q.get BP (by simp);exact⟨by rw[ab B];rfl,ah B⟩
  have ar:Xq (∀v,v<m.P.vars.length->∃F X,∀c,aa [] W c->c.cell? ⟨pb,3,none⟩=some (slice (some ⟨F,X,none⟩) m.P.types.length m.ht.cap)/\c.cell? ⟨F,X+v,none⟩=some (string (m.P.types.getD v ⟨#[]⟩))/\c.cell? ⟨fa,v,none⟩=some (int i64 (pn b C m.P i j v).1)/\c.cell? ⟨ta,v,none⟩=some (int i64 (pn b C m.P i j v).2)/\(pb<c.heap.size/\F<c.heap.size/\fa<c.heap.size/\ta<c.heap.size)):=fun v Y=>by
   obtain⟨F,X,e1,-,-⟩:=s.t.el (show v<m.P.types.length by omega);refine⟨F,X,fun c q=>?_⟩;have B:=q.get BP (by simp);obtain⟨g2,o2,e2,l2,c2⟩:=(s.Zbj q).t.el (show v<m.P.types.length by omega);rw[e1]at e2;cases e2;have fi:=(p.trans q).get i1 (by simp);have ti:=(p.trans q).get j1 (by simp);exact⟨by rw[ab B,<-e1];rfl,by rw[fO _ _ (show v<m.P.types.length by omega)];exact c2,ce.at fi (zp V Y).1,ce.at ti (zp V Y).2,ah B,l2,ah fi,ah ti⟩
  have ad:Xq _:=(fun v Y c (q:aa [] W c)=>N.o m.P S v Y c ((k1.trans p).trans q));obtain⟨f,HF⟩:∃f:Nat->Xs,Xq ((fun v=>pJ b (cY w) C r (m.P.types.getD v ⟨#[]⟩) (pn b C m.P i j v).1 (pn b C m.P i j v).2)=f):=⟨_,rfl⟩
  have ac:Xq (∀v,pJ b (cY w) C r (m.P.types.getD v ⟨#[]⟩) (pn b C m.P i j v).1 (pn b C m.P i j v).2=f v):=fun v=>by rw[<-HF.o]
  simp only[ac.o]at ad;have O:Xq ((pJ b (cY w) C (r+1) A i j).length=(kT f m.P.vars.length).length+1):=by
   show _=_;rw[rN S,XC,<-HF.o];rfl
  have K:Xq _:=k1.trans p;rw[HW.o,ag.o];have ax:Xq _:=al;clear al R S i1 j1 k1 p BP s V N Z af HF ac Q;go_wp2
  go_loopg [12,13] m.P.vars.length (fun g nv vv wr=>∃v n:Nat,v<=m.P.vars.length/\g=m.P.vars.length-v/\nv=int i64 n/\vv=int i64 v/\n<=129/\Xq (SzI n ((kT f v).length+1))/\Xq (aa [] W wr))
  ·exact⟨0,1,by omega,rfl,rfl,rfl,by omega,⟨fun _=>rfl,fun _=>by omega⟩,aa.refl _ _⟩
  obtain⟨v,n,a0,hg,rfl,rfl,aS,HS,E⟩:=hrel;obtain⟨p2,ba⟩:=aq.o _ E.o;by_cases u:n<=64
  ·have aT:(n:Int)<=64:=(by omega);rcases kn v m.P.vars.length with ⟨k,D⟩ | ⟨k,D⟩
   ·have a6:(v:Int)<(m.P.types.length:Int):=(by rw[ax.o];exact D);obtain⟨F,X,U⟩:=ar.o v k;have av:Xq _:=U;obtain⟨q3,q4,q5,q6,q7,q8,q9,bd⟩:=U _ E.o;have am:Xq _:=ad.o v k;have ap:Xq (SzI (n+IU (f v).length) ((kT f (v+1)).length+1)):=by
     have:=HS.o.next (x:=(f v).length) u;rw[qG,XC];rw[show(kT f v).length+(f v).length+1=(kT f v).length+1+(f v).length by omega];exact this
    have a5:=zbm (f v).length;generalize IU (f v).length=x at *;generalize (pn b C m.P i j v).1=f1 at *;generalize (pn b C m.P i j v).2=f2 at *;generalize m.P.types.getD v ⟨#[]⟩=a7 at *;clear U;(go_upto_region 6 with fail);go_region_held3 (fun J=>J.cell? ⟨pb,3,none⟩=some (slice (some ⟨F,X,none⟩) m.P.types.length m.ht.cap)/\J.cell? ⟨F,X+v,none⟩=some (string a7)/\J.cell? ⟨fa,v,none⟩=some (int i64 f1)/\J.cell? ⟨ta,v,none⟩=some (int i64 f2)) (go_keep) ((go_at_call 74;refine Xx (am.o _ (by exact E.o.drew)) ?_;rintro e5 w5 ⟨rfl,k5⟩;obtain⟨x3,x4,x5,x6,x7,x8,x9,be⟩:=av.o w5 (E.o.drew.trans k5)));have an:Xq _:=E.o.drew.trans k5;clear k5;go_wp2;go_roundg (m.P.vars.length-(v+1))
    ·exact⟨v+1,n+x,by omega,rfl,by go_num,by go_num,by omega,ap,an⟩
    omega
   ·obtain rfl:v=m.P.vars.length:=(by omega);have z:Xq (IU ((kT f m.P.vars.length).length+1)=n):=by
     show _=_;rw[<-HS.o.a u];unfold IU;rw[XA u]
    have az:¬(n:Int) > 64:=(by omega);go_wp2;go_ret;exact⟨au (by rw[O.o,z.o]),K.o.trans E.o⟩
  ·have aT:¬(n:Int)<=64:=(by omega);have az:(n:Int) > 64:=(by omega);have z:Xq (IU ((kT f m.P.vars.length).length+1)=65):=by
    show _=_;have:=HS.o.b (by omega);have:=MB f a0;unfold IU;rw[Xz (by omega)]
   rcases kn v m.P.vars.length with ⟨k,D⟩ | ⟨k,D⟩
   ·go_wp2;go_ret;exact⟨au (by rw[O.o,z.o];rfl),K.o.trans E.o⟩
   ·go_wp2;go_ret;exact⟨au (by rw[O.o,z.o];rfl),K.o.trans E.o⟩
theorem E4 :
  ∀(r:Nat) (z:Xr) (i j:Nat) (N:World),Nr N T w d L I y b l M H->i<b.length+1->j<b.length+1->CG l H z i j=1->0<BK b (cY w) r z i j->(pJ b (cY w) (CG l H) r z i j).length<=64 ->
  Calls prog 75 #[pointer (some ⟨T,0,none⟩),string z,int i64 i,int i64 j] N fun e Q=>∃c,e=returned (slice c.ao (pJ b (cY w) (CG l H) r z i j).length c.cap)/\iG N Q c (aE (pJ b (cY w) (CG l H) r z i j)):=by
 intro r
 induction r with
 | zero=>intro z i j N _ _ _ _ h0 _;exact absurd h0 (Z1 _)
 | succ r ih =>
  intro z i j N h hi X h1 az s;have V:Xq _:=Dl T w d L I y b l M H z i j N h.at_ h.is h.gok h.ok h.ht h.hcl h.hql hi X h1;have R:Xq (∀P,MS b (cY w) (CG l H) z i j=some P->∀v,v<P.vars.length->(pJ b (cY w) (CG l H) r (P.types.getD v ⟨#[]⟩) (pn b (CG l H) P i j v).1 (pn b (CG l H) P i j v).2).length<=64->∀a,aa [] N a->Calls prog 75 #[pointer (some ⟨T,0,none⟩),string (P.types.getD v ⟨#[]⟩),int i64 (pn b (CG l H) P i j v).1,int i64 (pn b (CG l H) P i j v).2] a fun e Q=>∃c,e=returned (slice c.ao (pJ b (cY w) (CG l H) r (P.types.getD v ⟨#[]⟩) (pn b (CG l H) P i j v).1 (pn b (CG l H) P i j v).2).length c.cap)/\iG a Q c (aE (pJ b (cY w) (CG l H) r (P.types.getD v ⟨#[]⟩) (pn b (CG l H) P i j v).1 (pn b (CG l H) P i j v).2))):=fun P hP v F aT a q=>by
   obtain⟨a1,a2,a3,a4⟩:=h.is.kids (MT h.ok) hi X h1 az hP v F;exact ih _ _ _ a (h.Zbj q) a1 a2 a3 a4 aT
  have ai:Xq (∀m∈w,∀a,aa [] N a->qw a m):=fun m hm a q=>(h.at_.each m hm).Zbj q;have aq:Xq _:=h.ok;obtain⟨C,HC⟩:=aP (CG l H);rw[HC.o]at V R s ⊢;clear h h1 az ih;go_enter func75,ntmps75;go_upto_region 2 with (go_at_call 109;refine Xx V.o ?_;rintro e1 w1 ⟨m,fa,ta,Y,Z,rfl,i1,j1,k1⟩;unfold Ik)
  obtain⟨W,HW⟩:=aP (w1.alloc (.cells #[string m.P.code,slice m.hb.ao m.P.body.length m.hb.cap,slice m.hv.ao m.P.vars.length m.hv.cap,slice m.ht.ao m.P.types.length m.ht.cap,string m.P.Zbz] 185));have x:=dx HW.o;have BP:=dC HW.o;obtain⟨pb,ar⟩:=aP (w1.heap.size);rw[ar.o]at BP;have D:=ai.o m Y W (k1.trans x);have af:=aq.o m Y;have bv:=D.vl;have aS:=D.len;have bc:Xq (∀a,aa [] W a->a.cell? ⟨pb,2,none⟩=some (slice m.hv.ao m.P.vars.length m.hv.cap)/\a.cell? ⟨pb,4,none⟩=some (string m.P.Zbz)/\pb<a.heap.size):=fun a q=>by
   have B:=q.get BP (by simp);exact⟨by rw[ab B];rfl,by rw[ab B];rfl,ah B⟩
  have bd:Xq (∀v,v<m.P.vars.length->∃E ot,∀a,aa [] W a->a.cell? ⟨pb,3,none⟩=some (slice (some ⟨E,ot,none⟩) m.P.types.length m.ht.cap)/\a.cell? ⟨E,ot+v,none⟩=some (string (m.P.types.getD v ⟨#[]⟩))/\a.cell? ⟨fa,v,none⟩=some (int i64 (pn b C m.P i j v).1)/\a.cell? ⟨ta,v,none⟩=some (int i64 (pn b C m.P i j v).2)/\(pb<a.heap.size/\E<a.heap.size/\fa<a.heap.size/\ta<a.heap.size)):=fun v F=>by
   obtain⟨E,ot,e1,-,-⟩:=D.t.el (show v<m.P.types.length by omega);refine⟨E,ot,fun a q=>?_⟩;have B:=q.get BP (by simp);obtain⟨g2,o2,e2,l2,c2⟩:=(D.Zbj q).t.el (show v<m.P.types.length by omega);rw[e1]at e2;cases e2;have fi:=(x.trans q).get i1 (by simp);have ti:=(x.trans q).get j1 (by simp);exact⟨by rw[ab B,<-e1];rfl,by rw[fO _ _ (show v<m.P.types.length by omega)];exact c2,ce.at fi (zp af F).1,ce.at ti (zp af F).2,ah B,l2,ah fi,ah ti⟩
  have am:Xq _:=(fun v F h6 a (q:aa [] W a)=>R.o m.P Z v F h6 a ((k1.trans x).trans q));obtain⟨f,HF⟩:∃f:Nat->Xs,Xq ((fun v=>pJ b (cY w) C r (m.P.types.getD v ⟨#[]⟩) (pn b C m.P i j v).1 (pn b C m.P i j v).2)=f):=⟨_,rfl⟩
  have al:Xq (∀v,pJ b (cY w) C r (m.P.types.getD v ⟨#[]⟩) (pn b C m.P i j v).1 (pn b C m.P i j v).2=f v):=fun v=>by rw[<-HF.o]
  simp only[al.o]at am;have U:Xq (pJ b (cY w) C (r+1) z i j=kT f m.P.vars.length++[m.P.Zbz]):=by
   show _=_;rw[rN Z,<-HF.o];rfl
  have ap:Xq (∀v,v<m.P.vars.length->(f v).length<=64/\(kT f v).length+(f v).length<=64):=fun v F=>by
   rw[U.o,XC]at s;have h2:=MB f (show v+1<=m.P.vars.length from F);rw[qG,XC]at h2;have:(kT f m.P.vars.length).length+1<=64:=s;omega
  have bo:Xq ((kT f m.P.vars.length).length+1<=64):=by
   rw[U.o,XC]at s;exact s
  have a6:Xq _:=k1.trans x;rw[HW.o,ar.o];have bf:Xq _:=aS;obtain⟨iS,ax,G,J,K⟩:=XV i9;have a7:Xq (iG W W ⟨none,0⟩ (aE [])):=⟨XE _ _ _ _,(by intro k hk;cases hk),aa.refl _ _⟩;clear aS Y Z i1 j1 k1 x BP D af R ai aq HF al V s;go_wp2
  go_loopg [12,13] m.P.vars.length (fun g ov vv wr=>∃(v:Nat) (c:Hd) (O:Xs),v<=m.P.vars.length/\g=m.P.vars.length-v/\ov=slice c.ao O.length c.cap/\vv=int i64 v/\O.length<=64/\Xq (O=kT f v)/\Xq (iG W wr c (aE O)))
  ·exact⟨0,⟨none,0⟩,[],by omega,rfl,rfl,rfl,by simp,rfl,a7⟩
  obtain⟨v,c,O,bs,hg,rfl,rfl,bl,HO,HN⟩:=hrel;obtain⟨p2,p4,br⟩:=bc.o _ HN.o.Zbw;rcases kn v m.P.vars.length with ⟨p,a0⟩ | ⟨p,a0⟩
  ·have bm:(v:Int)<(m.P.types.length:Int):=(by rw[bf.o];exact a0);obtain⟨E,ot,ac⟩:=bd.o v p;have be:Xq _:=ac;obtain⟨q3,q4,q5,q6,q7,q8,q9,bw⟩:=ac _ HN.o.Zbw;obtain⟨av,bg⟩:=ap.o v p;have ag:Xq _:=am.o v p av;rw[<-HO.o]at bg;have ba:Xq (O++f v=kT f (v+1)):=cm (by rw[qG,HO.o]);generalize f v=B at *;generalize (pn b C m.P i j v).1=f1 at *;generalize (pn b C m.P i j v).2=f2 at *;generalize m.P.types.getD v ⟨#[]⟩=bp at *;clear ac;(go_upto_region 6 with fail);go_region_held3 (fun Q=>Q.cell? ⟨pb,3,none⟩=some (slice (some ⟨E,ot,none⟩) m.P.types.length m.ht.cap)/\Q.cell? ⟨E,ot+v,none⟩=some (string bp)/\Q.cell? ⟨fa,v,none⟩=some (int i64 f1)/\Q.cell? ⟨ta,v,none⟩=some (int i64 f2)) (go_keep) ((go_at_call 75;refine Xx (ag.o _ (by exact HN.o.Zbw.drew)) ?_;rintro e5 w5 ⟨h2,rfl,x2⟩;obtain⟨x3,x4,x5,x6,x7,x8,x9,bx⟩:=be.o w5 (HN.o.Zbw.drew.trans x2.Zbw)));have an:Xq (iG W w5 c (aE O)):=HN.o.Zbj (bH.drew.trans x2.Zbw);have bj:Xq _:=x2.ZbH.srcX.cells;have bk:h2.ao=none->B.length=0/\h2.cap=0:=fun e=>by
    rcases x2.ZbH.Zbu with ⟨q1,q2,q3⟩ | ⟨g,bq,q1,-⟩
    ·exact⟨q2,by rw[q1]⟩
    ·rw[e]at q1;cases q1
   clear x2 ag;go_wp2_with (at_builtin;refine dK _ rfl (.tmp 46) (.tmp 47) 61 rfl iS (string ⟨#[]⟩) 16 c (aE O) underlying61 ax G J K rfl XR rfl an.o.ZbH h2.ao B.length h2.cap (dc B) rfl (by simp[aE,dc]) bk bj.o (mw B) (by simp only[aE];omega) (by omega) ?_;intro h5 w5 n A;rw[Bd]at n;have S:Xq _:=an.o.Zbt A n;clear n A);go_roundg (m.P.vars.length-(v+1))
   ·exact⟨v+1,h5,O++B,by omega,rfl,by simp[aE],by go_num,by simp;omega,ba,S⟩
   omega
  ·obtain rfl:v=m.P.vars.length:=(by omega);have a5:Xq (pJ b (cY w) C (r+1) z i j=O++[m.P.Zbz]):=cm (by rw[U.o,HO.o]);have hA:Xq _:=HN.o.Zbj (bH.alloc (.cells #[string m.P.Zbz] 9));generalize m.P.Zbz=lb at *;go_wp2_with (at_builtin;refine dK _ rfl (.tmp 49) (.tmp 52) 61 rfl iS (string ⟨#[]⟩) 16 c (aE O) underlying61 ax G J K rfl XR rfl hA.o.ZbH (some ⟨wr.heap.size,0,none⟩) 1 1 [string lb] rfl rfl (fun e=>by cases e) (fun ad e j u X=>by cases e;match j,X with | 0,X=>simp at X;subst X;simp[Addr.add]) (by intro u hu;simp at hu;subst hu;rfl) (by simp only[aE];omega) (by omega) ?_;intro h5 w5 n A;rw[dy]at n;have S:Xq _:=hA.o.Zbt A n;clear n A);go_ret;rw[a5.o];exact⟨h5,by simp[aE],S.o.base a6.o⟩
set_option maxRecDepth 512
theorem Ph(v:dB o y l)(K:l.length<=1073741824) :
  Calls prog 148 #[slice y.ao l.length y.cap,string D] o fun e C=>e=returned (bool (kM l D==1))/\C=o:=by
 obtain⟨q,c⟩:=aP (y.ao);rw[c.o];go_enter func148,ntmps148;go_wp2
 go_loopg [5,6] l.length (fun g w i wr=>∃k n:Nat,k<=l.length/\g=l.length-k/\w=int i64 n/\i=int i64 k/\n<=k/\Xq (kM (l.take k) D=n)/\wr=o)
 ·exact⟨0,0,by omega,by omega,rfl,rfl,by omega,rfl,rfl⟩
 obtain⟨k,n,J,I,rfl,rfl,B,b,rfl⟩:=hrel;by_cases a:k<l.length
 ·rcases v with z | ⟨g,f,u,t,x,j,m,G,H⟩
  ·rw[z]at a;simp at a
  ·have F:wr.cell? ⟨g,f+k,none⟩=some (string l[k]):=(by rw[ab j];exact m k l[k] (Xv a));obtain rfl:q=some ⟨g,f,none⟩:=c.o.symm.trans x;have d:Xq _:=Hj l D k a;have A:=ah j;rw[b.o]at d;generalize l[k]=E at *;clear j m;cases p:(E.toList==D.toList)
   ·rw[p,Xz (by simp),YM]at d;go_wp2;go_roundg (l.length-(k+1))
    ·exact⟨k+1,n,by omega,rfl,rfl,by go_num,by omega,d,rfl⟩
    omega
   ·rw[p,XA rfl]at d;go_wp2;go_roundg (l.length-(k+1))
    ·exact⟨k+1,n+1,by omega,rfl,by go_num,by go_num,by omega,d,rfl⟩
    omega
 ·have s:Xq (kM l D=n):=by
   have:=b.o;rw[YV (by omega)]at this;exact this
  have r:Xq (((n:Int)==1)=(n==1)):=by
   show _=_;cases h:(n==1)
   ·have:¬n=1:=(by simpa using h);exact X6.2 (by omega)
   ·have:n=1:=(by simpa using h);rw[this];rfl
  go_wp2;go_ret;exact⟨aH (by rw[s.o];exact r.o),rfl⟩
def xe(w w':World)(h:Hd):Prop:=∀g,h.Zbx=some g->w.heap.size<=g/\g<w'.heap.size
theorem xe.nil(a:World):xe o a ⟨none,0⟩:=fun g e=>by cases e
theorem xe.Zbj{b:World}(a:xe N t c)(k:aa [] t b):xe N b c:=fun g e=>⟨(a g e).1,XB (a g e).2 k.size⟩
def UI(w w':World)(m:mJ):Prop:=xe w w' m.hb/\xe w w' m.hv/\xe w w' m.ht
theorem xe.far{H:Nat->Hd}(a:xe N t c)(d:S<N.heap.size)(b:∀k,eG H k->k<N.heap.size):mB t S H c:=fun g e=>⟨by have:=(a g e).1;omega,fun q=>by have:=b g q;have:=(a g e).1;omega,(a g e).2⟩
def WS(P:dZ)(w:World)(e:Ending)(w':World):Prop:=∃m:mJ,m.P=P/\e=returned (Ik m)/\qw w' m/\UI w w' m/\aa [] w w'
theorem xq(o:aD N ⟨some ⟨S,0,none⟩,s⟩ (aE g)):dB N ⟨some ⟨S,1,none⟩,s-1⟩ (g.drop 1):=by
 rcases o.view with k | ⟨m,l,a,t,c,d,e,f,i⟩
 ·left;rw[k];rfl
 ·cases c
  right
  refine⟨S,1,a,t,rfl,d,fun j x b=>?_,by rw[Ym];simp only at f ⊢;omega,by simp only at i ⊢;omega⟩;rw[Zb]at b;have:=e (1+j) x b;rw[Zf]at this;exact this
set_option maxRecDepth 100000
theorem Pg(T:List Tk)(p:Xt)(L:Nat)(S:List Sm)(m:Xt)(K:Nat)(w:World)(O:gM w n T p L S m K)(hh:f<S.length)(hT:T.length<=10000)(hE:dA T (ay S f).h)(ha:(ay S f).a<T.length)(h2:1<(aU T S f).length) :
  Calls prog 105 #[pointer (some ⟨n,0,none⟩),int i64 f] w fun e D=>WS (Uy T S f) w e D:=by
 have t:Xq (∀b,aa [] w b->Calls prog 71 #[pointer (some ⟨n,0,none⟩),int i64 f] b fun e D=>∃N,e=returned (slice N.ao (aU T S f).length N.cap)/\xf b D N (aU T S f)):=fun b q=>by
  have:=jI n f T p L S m K b (O.Zbj q) hh (by omega) (by rw[bA];exact hE);rw[bA]at this;exact this
 have y:Xq (∀b,aa [] w b->Calls prog 86 #[pointer (some ⟨n,0,none⟩),int i64 f] b fun e D=>e=returned (string (bP T (ay S f)))/\aa [] b D):=fun b q=>by
  have:=oN n f T p L S m K b (O.Zbj q) hh (by rw[bA];exact ha);rw[bA]at this;exact this
 have ad:(aU T S f).length<=10000:=XF (jO T _) hT;have HP:Xq (Uy T S f=⟨bP T (ay S f),(aU T S f).getD 0 ⟨#[]⟩,(aU T S f).drop 1,[],[]⟩):=rfl;obtain⟨W,J⟩:=aP (w.alloc (.cells #[string ⟨#[]⟩,slice none 0 0,slice none 0 0,slice none 0 0,string ⟨#[]⟩] 185));have Q:=dx J.o;have X:=dC J.o;have s:Xq _:=t.o W Q;have k:Xq _:=Q;have j:Xq _:=X;obtain⟨i,l⟩:=aP (w.heap.size);rw[l.o]at j;have H:Xq (w.heap.size<=i):=Y5 l.o;generalize aU T S f=B at *;generalize bP T (ay S f)=lb at *;generalize Uy T S f=P at *;clear O Q X t;go_enter func105,ntmps105;go_upto_region 1 with fail
 rw[J.o,l.o];go_upto_region 2 with (go_at_call 71;refine Xx s.o ?_;rintro e1 w1 ⟨h1,rfl,V⟩)
 have G:Xq _:=y.o w1 (k.o.trans V.Zbw);have A:Xq _:=V;clear V s y;go_upto_region 3 with (go_at_call 86;refine Xx G.o ?_;rintro e2 r ⟨rfl,k2⟩)
 have d:=A.o.Zbj k2;obtain⟨g,c,rfl⟩:∃g c,h1=⟨some ⟨g,0,none⟩,c⟩:=by
  obtain⟨ao,c⟩:=h1;rcases d.ZbH.Zbu with ⟨C,R,U⟩ | ⟨g,M,C,-⟩
  ·have:B.length=0:=R;omega
  ·exact⟨g,c,by rw[show ao=some ⟨g,0,none⟩ from C]⟩
 have ac:B.length<=c:=by
  rcases d.ZbH.Zbu with ⟨C,R,U⟩ | ⟨g2,M,C,R,U,-⟩
  ·cases C
  ·exact U
 have b0:r.cell? ⟨g,0,none⟩=some (string (B.getD 0 ⟨#[]⟩)):=by
  rw[fO B 0 (by omega)];exact d.ZbH.cell rfl 0 _ (pV B 0 (by omega))
 have I:Xq (∀b,aa [i] r b->dB b ⟨some ⟨g,1,none⟩,c-1⟩ (B.drop 1)):=fun b q=>(xq d.ZbH).Zbw q (fun x e=>by
  cases e
  have:=d.far g rfl;have:=ah j.o;simp;omega)
 have z:Xq (xe w r ⟨some ⟨g,1,none⟩,c-1⟩):=fun x e=>by
  cases e
  exact⟨XF k.o.size (d.far g rfl),d.ZbH.lt rfl⟩
 have al:g<r.heap.size:=d.ZbH.lt rfl;have E:=d.Zbw.get j.o (by simp);obtain⟨z0,z1,z2,z3,z4⟩:=nJ E;have zf:=zcW E;have aq:=ah E;have F:Xq _:=k.o.trans d.Zbw;have am:(0:Int)<B.length:=by omega
 have an:(1:Int)<=B.length:=by omega
 have ap:1<=B.length:=by omega
 have af:1<=c:=by omega
 have ag:(B.length:Int)<=(c:Int):=by omega
 have ai:¬c=1:=by omega
 generalize B.getD 0 ⟨#[]⟩=cd at *;clear d k2 A E;have Y:Xq (∀Z a1 a2 a3 a4,aa [i] r (((((r.setCell ⟨i,0,none⟩ Z).setCell ⟨i,1,none⟩ a1).setCell ⟨i,2,none⟩ a2).setCell ⟨i,3,none⟩ a3).setCell ⟨i,4,none⟩ a4).drew):=fun Z a1 a2 a3 a4=>((((((aa.refl _ _).sl1 _).sl1 _).sl1 _).sl1 _).sl1 _).drew;have u:Xq ((B.drop 1).length=B.length-1):=cm (by simp);go_region;go_wp2;refine XG (v:=agg #[string cd,slice (some ⟨g,1,none⟩) (B.length-1) (c-1),slice none 0 0,slice none 0 0,string lb]) (by simp[results,results105,go_sem,z0,z1,z2,z3,z4]) rfl ⟨⟨⟨lb,cd,B.drop 1,[],[]⟩,⟨some ⟨g,1,none⟩,c-1⟩,⟨none,0⟩,⟨none,0⟩⟩,HP.o.symm,?_,⟨I.o _ (Y.o _ _ _ _ _),XQ rfl,XQ rfl,rfl,?_,by show 0<=_;omega⟩,⟨?_,xe.nil _ _,xe.nil _ _⟩,(R4 F.o H.o _ _ _ _ _).drew⟩
 ·unfold Ik;rw[<-u.o];rfl
 ·show(B.drop 1).length<=_
  rw[u.o];omega
 ·exact fun x e=>⟨(z.o x e).1,XB (z.o x e).2 (Y.o _ _ _ _ _).size⟩
end Go.Proofs.YtpdholcaobgofaaGreat
