import Derived.Test.YtpddjjabfbfifaaGreatRows
import Derived.Deep.Slices
import Derived.ProofKit
import Derived.OpenShut
import Derived.ShutString
import Derived.ChangeOld
import Derived.Below
import Derived.SizedLaws
import Derived.Test.YtpddjjabfbfifaaGreatG16
namespace Go.Proofs.YtpddjjabfbfifaaGreat
open Go.RowKit Go.Proofs.Tryz
set_option maxHeartbeats 0
variable{f L:World}{S zb:Hd}{n x T N g y6 y8 yr ys yf:Nat}{yy yv:ByteArray}{z0 y7:Fs}{M yg:Option Nat}{k:Nat×Nat->It}{v:Mc}{z5:Int}{yt:Option Addr}{z6:List ByteArray}{yd:List Int}(b:Nat)(zt:Option Addr)(l:Nat)(H:Nat×Nat->It)(w:Mc)(y9 d D a:Int)(ya:Nat)(i o:ByteArray)(y:World)(yu:World->Prop)(I:Hd)
theorem zc{L:List Nat}(o:aw f S (lB n L)){k x:Nat}(c:L[k]?=some x):∃g,S.ao=some ⟨g,0,none⟩/\g<f.heap.size/\f.cell? ⟨g,k,none⟩=some (NY x):=by
 have i:=(Q8.1 c).1
 rcases o.Vm with ⟨_,b,_⟩ | ⟨g,d,a,e,h,-⟩
 ·have b:L.length=0:=b
  omega
 ·exact⟨g,a,ae e,o.cell a k (NY x) (by show(L.map NY)[k]?=_;rw[Rq,c];rfl)⟩
theorem KU(h:cJ yy yv=0):yv.size<=1024:=by
 unfold cJ at h
 split at h
 ·cases h
 ·split at h
  ·cases h
  ·omega
theorem Pq(h:zw z0)(n d:ByteArray):zw (fc z0 n d).2:=by
 unfold fc
 split
 ·exact h
 ·next c =>
  have b:=KU (Decidable.not_not.1 c)
  split
  ·intro j a
   rw[Rv]at a;have:=h j a;unfold ak at *;rw[QQ]at *;rw[RU]
   split
   ·split
    ·exact b
    ·show(0:Nat)<=_;omega
   ·exact this
  ·split
   ·exact h
   ·intro j a
    rw[Q0]at a;replace a:j<z0.length+1:=a;unfold ak;rw[QQ]
    by_cases e:j<z0.length
    ·have:=h j e
     unfold ak at this;rw[QQ]at this;rw[Q7 e];exact this
    ·rw[Q5 (by omega),show j-z0.length=0 by omega];exact b
theorem LF(h:zw z0)(a:Fs):zw (jt z0 a):=by
 unfold jt
 split
 ·next e=>exact(NL e).2
 ·exact h
theorem bZ.both{h m i:Nat}(a:bZ f n k v x)(u:v.V[T]?=some (N,g,z0))(D:k (6,T)=O6 N z0 y6 y8 M)(E:k (7,T)=O4 g S z0 yr ys M)(I:dE L N y7 yf h yg)(H:dn L g y7 zb m i yg)(Q:nH f.heap.size y6 y8 yf h)(R:nH f.heap.size yr ys m i)(F:∀q,zb.blk=some q->S.blk=some q∨f.heap.size<=q)(G:∀q,q∈N :: ie yf h->q∉g :: (zb.blk.toList++ie m i))(J:ab ([N]++g :: S.blk.toList) f L)(w:zw y7):∃z A,bZ L n z A (x+1)/\rh k v z A:=by
 have s:=a.sep.put2 (6,T) (7,T) (bn (by decide)) (O6 N y7 yf h yg) (O4 g zb y7 m i yg) (by
  rw[D,E];refine J.mono (fun q p _=>?_)
  rcases Rr.1 p with e | e
  ·exact RN _ (by rw[Q9.1 e];exact Rn)
  ·refine Se _ ?_
   rcases Rj.1 e with e | e
   ·rw[e];exact Rn
   ·exact Rm _ (RN _ e)) I H (fun q p=>by
  rw[D]
  rcases Rj.1 p with e | e
  ·exact Q1 (by rw[e];exact Rn)
  ·rcases Q.mem e with b | b
   ·exact Q1 (Rm _ b)
   ·exact QV b) (fun q p=>by
  rw[E]
  rcases Rj.1 p with e | e
  ·exact Q1 (by rw[e];exact Rn)
  ·rcases Rr.1 e with e | e
   ·rcases F q (aN e) with b | b
    ·exact Q1 (Rm _ (RN _ (by rw[b];simp)))
    ·exact QV b
   ·rcases R.mem e with b | b
    ·exact Q1 (Rm _ (Se _ b))
    ·exact QV b) G
 have B:∀o:Nat×Nat×Fs->Nat,o (N,g,y7)=o (N,g,z0)->(v.V.set T (N,g,y7)).map o=v.V.map o:=fun o w=>by
  rw[Tn,w]
  apply Sq
  intro j;rw[RU]
  by_cases C:T=j
  ·subst C
   have:=(Q8.1 u).1;rw[QW rfl,Rq,u];simp[this]
  ·rw[QT C]
 refine⟨_,{ v with V:=v.V.set T (N,g,y7) },⟨s,?_,?_,?_,?_,?_,?_,?_,?_,?_,?_,?_⟩,?_⟩
 ·rw[aq _ _ (bn (by decide)),aq _ _ (bn (by decide)),a.w0];unfold Mc.cells;rw[Rv]
 ·rw[aq _ _ (bn (by decide)),aq _ _ (bn (by decide)),B _ rfl];exact a.x
 ·rw[aq _ _ (bn (by decide)),aq _ _ (bn (by decide)),B _ rfl];exact a.m
 ·simp only[fk];exact a.r
 ·simp only[fk];exact a.ls
 ·simp only[fk];exact a.lw
 ·intro j y t d c
  replace c:(v.V.set T (N,g,y7))[j]?=some (y,t,d):=c;rw[RU]at c;rw[aq _ _ (bn (by decide))]
  by_cases e:T=j
  ·subst e
   rw[QW rfl,QW (Q8.1 u).1]at c
   cases c
   rw[bJ,bJ];exact⟨⟨_,_,_,_,_,_,rfl,rfl⟩,w⟩
  ·rw[QT e]at c
   rw[aq _ _ (rC (Ne.symm e)),aq _ _ (rC (Ne.symm e)),aq _ _ (bn (by decide))];exact a.v j y t d c
 ·intro j y t d c
  simp only[fk];exact a.more.l j y t d c
 ·exact a.fit
 ·obtain⟨K,O,P⟩:=a.more.len
  exact⟨by show(v.V.set T (N,g,y7)).length<=_;rw[Rv];exact K,O,P⟩
 ·exact a.rng
 ·exact⟨fun j T c=>by(repeat rw[oY (by decide) c]),rfl,rfl⟩
set_option maxRecDepth 100000
theorem iy(h:bZ y b H w l)(k:∀W,bZ W b H w l->Calls prog 11 #[.pointer (some ⟨b,0,none⟩),.agg #[.int .i64 y9,.int .i64 d,.int .i64 D,.int .i64 a,.string i,.string o]] W fun e c=>iB b H w l true e c) :
  Calls prog 9 #[.pointer (some ⟨b,0,none⟩),.agg #[.int .i64 y9,.int .i64 d,.int .i64 D,.int .i64 a,.string i,.string o]] y fun e c=>iB b H w l true e c:=by
 obtain⟨W,f⟩:∃W,Hid (y.alloc (.cells #[.int .i64 y9,.int .i64 d,.int .i64 D,.int .i64 a,.string i,.string o] 28)=W):=⟨_,rfl⟩
 obtain⟨j,g,p,-⟩:=h.boxed y9 d D a i o W f.out;obtain⟨q,r,s,t,u,v,x⟩:=cQ g;have m:Hid _:=k W j;clear h j g k;go_enter func9,ntmps9
 go_upto_region 1 with fail
 rw[f.out];go_wp2_with (go_at_call 11;refine QU m.out ?_;rintro e z ⟨rfl,n⟩);go_ret;exact⟨rfl,n⟩
structure gx(W:World)(b B:Nat)(I:Nat×Nat->It)(M:Mc)(N:Nat)(k A C D:Int)(s t:ByteArray):Prop where
 m:bZ W b I M N
 o:W.heap[B]?=some (.cells #[.int .i64 k,.int .i64 A,.int .i64 C,.int .i64 D,.string s,.string t] 28 (0,0))
theorem gx.Vb{A C D:Int}(a:gx f n x k v T z5 A C D yy yv)(h:ab [] f L):gx L n x k v T z5 A C D yy yv:=⟨a.m.Vb h,h.get a.o (by simp)⟩
theorem JT(h:bZ y b H w l)(k:(8<=y9/\y9<=14)∨19<=y9)(r:w.V.length=0) :
  Calls prog 9 #[.pointer (some ⟨b,0,none⟩),.agg #[.int .i64 y9,.int .i64 d,.int .i64 D,.int .i64 a,.string i,.string o]] y fun e u=>iB b H w l true e u:=by
 obtain⟨W,g⟩:∃W,Hid (y.alloc (.cells #[.int .i64 y9,.int .i64 d,.int .i64 D,.int .i64 a,.string i,.string o] 28)=W):=⟨_,rfl⟩
 obtain⟨f,j,s,-⟩:=h.boxed y9 d D a i o W g.out;obtain⟨x,z,A,B,C,E,F⟩:=cQ j;have n:Hid _:=lq b l H w y9 d D a i o W f k;have p:Hid (bZ W b H w l):=f;clear h f j k;go_enter func9,ntmps9
 go_upto_region 1 with fail
 rw[g.out]
 go_upto_region 2 with (go_at_call 11;refine QU n.out ?_;rintro e m ⟨rfl,t⟩)
 have c:Hid (bZ m b H w l):=p.out.Vb t;have q:m.cell? ⟨b,0,none⟩=some (.slice w.hx.ao w.V.length w.hx.cap):=by rw[aa c.out.blk];rfl
 rw[r]at q;have v:=ae c.out.blk;go_wp2;go_ret;exact⟨rfl,_,_,c.out.more,rh.refl _ _⟩
theorem Gh(b:∀q,q∈x :: ie N g->q∉T :: (S.blk.toList++ie y6 y8))(f:∀q,q∈x :: ie N g->q<n)(d:∀q,zb.blk=some q->S.blk=some q∨n<=q):∀q,q∈x :: ie N g->q∉T :: (zb.blk.toList++ie y6 y8):=fun q a h=>by
 rcases Rj.1 h with e | e
 ·exact b q a (by rw[e];exact Rn)
 ·rcases Rr.1 e with e | e
  ·rcases d q (aN e) with c | c
   ·exact b q a (Rm _ (RN _ (by rw[c];simp)))
   ·have:=f q a;omega
  ·exact b q a (Rm _ (Se _ e))
structure pb(w:World)(I:Nat×Nat->It)(M:Mc)(i x m:Nat)(fs:Fs)(h:Hd)(lo hi lo2 hi2:Nat)(st:Option Nat):Prop where
 v:M.V[i]?=some (x,m,fs)
 i6:I (6,i)=O6 x fs lo hi st
 i7:I (7,i)=O4 m h fs lo2 hi2 st
 ok:zw fs
 p:dE w x fs lo hi st
 d:dn w m fs h lo2 hi2 st
 far:∀q,q∈x :: ie lo hi->q∉m :: (h.blk.toList++ie lo2 hi2)
theorem pb.le(a:pb f k v n x T z0 S N g y6 y8 M):z0.length<=4:=by
 obtain⟨b,c,e,h,r⟩:=a.d.anyS;exact r.le
theorem pb.st(a:pb f k v n x T z0 S N g y6 y8 M)(b:Nat)(e:M=some b):b<z0.length/\((fE z0 b).1==0)=true:=by
 subst e;exact a.p.s.1
theorem pb.Vb(a:pb f k v n x T z0 S N g y6 y8 M)(b:ab [] f L):pb L k v n x T z0 S N g y6 y8 M:={ a with p:=a.p.Vb b,d:=a.d.Vb b }
theorem bZ.ver(a:bZ f n k v x)(i:T<v.V.length) :
  ∃b m j h s i d c t e g,pb f k v T b m j h s i d c t/\(v.hx.ao=some ⟨e,0,none⟩/\e<f.heap.size/\f.cell? ⟨e,T,none⟩=some (.pointer (some ⟨b,0,none⟩)))/\(v.hm.ao=some ⟨g,0,none⟩/\g<f.heap.size/\f.cell? ⟨g,T,none⟩=some (.pointer (some ⟨m,0,none⟩))):=by
 obtain⟨⟨b,m,j⟩,l⟩:∃y,v.V[T]?=some y:=⟨v.V[T],QP i⟩
 obtain⟨⟨t,h,s,i,d,c,o,p⟩,r⟩:=a.v T b m j l;obtain⟨e,B,F,z⟩:=zc a.ownX (k:=T) (x:=b) (by rw[Rq,l];rfl);obtain⟨g,C,G,A⟩:=zc a.ownM (k:=T) (x:=m) (by rw[Rq,l];rfl);have u:=a.sep.all (6,T);have w:=a.sep.all (7,T);rw[o]at u;rw[p]at w;exact⟨b,m,j,h,s,i,d,c,t,e,g,⟨l,o,p,r,u,w,fun q E D=>a.sep.far (6,T) (7,T) (bn (by decide)) q (by rw[o];exact E) (by rw[p];exact D)⟩,⟨B,F,z⟩,C,G,A⟩
theorem Pu(h:bZ y b H w l)(hV:w.V.length≠0)(hA:qB d)(hN:l<=1073741824) :
  Calls prog 9 #[.pointer (some ⟨b,0,none⟩),.agg #[.int .i64 10,.int .i64 d,.int .i64 D,.int .i64 a,.string i,.string o]] y fun e K=>iB b H w l true e K:=by
 obtain⟨W,M⟩:∃W,Hid (y.alloc (.cells #[.int .i64 10,.int .i64 d,.int .i64 D,.int .i64 a,.string i,.string o] 28)=W):=⟨_,rfl⟩
 obtain⟨F,E,af,-⟩:=h.boxed 10 d D a i o W M.out;obtain⟨t,u,R,S,T,U,z⟩:=cQ E;have X:Hid _:=(lq b l H w 10 d D a i o W F (by omega));have Y:Hid (gx W b y.heap.size H w l 10 d D a i o):=⟨F,E⟩;have ad:=h.len.1;have n:Hid (∀A,Calls prog 12 #[.int .i64 d,.int .i64 w.V.length] A fun e K=>e=.returned (.int .i64 (eG d w.V.length:Nat))/\K=A):=fun A=>eQ d w.V.length A hA ⟨by omega,by omega⟩
 have s:=fY d w.V.length (by omega);obtain⟨I,Z⟩:∃I,Hid (eG d w.V.length=I):=⟨_,rfl⟩
 rw[Z.out]at n s;have ac:((w.V.length:Int)==0)=false:=Rh.2 (by omega);have ag:(I:Int)<(w.V.length:Int):=by omega
 clear h F E;go_enter func9,ntmps9
 go_upto_region 1 with fail
 rw[M.out]
 go_upto_region 2 with (go_at_call 11;refine QU X.out ?_;rintro e L ⟨rfl,Q⟩)
 have g:Hid (gx L b y.heap.size H w l 10 d D a i o):=Y.out.Vb Q;clear t u R S T U z Q;obtain⟨t,u,-⟩:=cQ g.out.o;have z:=ae g.out.o;have C:L.cell? ⟨b,0,none⟩=some (.slice w.hx.ao w.V.length w.hx.cap):=by rw[aa g.out.m.blk];rfl
 have N:=ae g.out.m.blk
 go_upto_region 4 with fail
 go_quiet ((go_at_call 12;exact Rd (n.out _)))
 go_upto_region 5 with fail
 obtain⟨k,r⟩:∃k,Hid (L.drewN nq=k):=⟨_,rfl⟩
 rw[r.out];have c:Hid (gx k b y.heap.size H w l 10 d D a i o):=g.out.Vb (by rw[<-r.out];exact(ab.refl [] _).drewN nq);clear t u z C N;obtain⟨t,u,R,S,T,U,z⟩:=cQ c.out.o;obtain⟨x,m,fs,hd,lo,hi,J,G,st,g1,g2,f,⟨O,z1,d1⟩,P,z2,d2⟩:=c.out.m.ver s;have C:k.cell? ⟨b,0,none⟩=some (.slice w.hx.ao w.V.length w.hx.cap):=by rw[aa c.out.m.blk];rfl
 have c1:k.cell? ⟨b,1,none⟩=some (.slice w.hm.ao w.V.length w.hm.cap):=by rw[aa c.out.m.blk];rfl
 rw[O]at C;rw[P]at c1;have N:=ae c.out.m.blk;have B:Hid _:=AN x m fs hd lo hi J G st i k f.p f.d f.ok f.far;have j:Hid _:=f;clear f O P;go_wp2_with (go_at_call 16;refine QU B.out ?_;rintro e w3 ⟨rfl,⟨ai,l1,u1,l3,u3,q1,q2,q3,q4,q5⟩,q6⟩);go_ret;exact⟨rfl,c.out.m.both j.out.v j.out.i6 j.out.i7 q1 q3 q2 q4 (fun q hq=>Q1 hq) q5 q6 j.out.ok⟩
theorem Qk(h:bZ y b H w l)(hV:w.V.length≠0)(hA:qB d)(hN:l<=1073741824)(hs:i.size<=1073741824)(ht:o.size<=1073741824) :
  Calls prog 9 #[.pointer (some ⟨b,0,none⟩),.agg #[.int .i64 9,.int .i64 d,.int .i64 D,.int .i64 a,.string i,.string o]] y fun e w'=>iB b H w l true e w':=by
 obtain⟨W,HW⟩:∃W,Hid (y.alloc (.cells #[.int .i64 9,.int .i64 d,.int .i64 D,.int .i64 a,.string i,.string o] 28)=W):=⟨_,rfl⟩
 obtain⟨hM,hB,az,-⟩:=h.boxed 9 d D a i o W HW.out;obtain⟨O,P,o2,o3,T,U,C⟩:=cQ hB;have HL:Hid _:=(lq b l H w 9 d D a i o W hM (by omega));have HS:Hid (gx W b y.heap.size H w l 9 d D a i o):=⟨hM,hB⟩;have ax:=h.len.1;have I:Hid (∀Z,Calls prog 12 #[.int .i64 d,.int .i64 w.V.length] Z fun e w'=>e=.returned (.int .i64 (eG d w.V.length:Nat))/\w'=Z):=fun Z=>eQ d w.V.length Z hA ⟨by omega,by omega⟩
 have L:=fY d w.V.length (by omega);obtain⟨S,Hi⟩:∃S,Hid (eG d w.V.length=S):=⟨_,rfl⟩
 rw[Hi.out]at I L;have ar:((w.V.length:Int)==0)=false:=Rh.2 (by omega);have aS:(S:Int)<(w.V.length:Int):=by omega
 have ad:Hid (bZ y b H w l):=h;clear h hM hB;go_enter func9,ntmps9
 go_upto_region 1 with fail
 rw[HW.out]
 go_upto_region 2 with (go_at_call 11;refine QU HL.out ?_;rintro e w1 ⟨rfl,k1⟩)
 have j:Hid (gx w1 b y.heap.size H w l 9 d D a i o):=HS.out.Vb k1;clear O P o2 o3 T U C k1;obtain⟨O,P,-⟩:=cQ j.out.o;have C:=ae j.out.o;have R:w1.cell? ⟨b,0,none⟩=some (.slice w.hx.ao w.V.length w.hx.cap):=by rw[aa j.out.m.blk];rfl
 have bz:=ae j.out.m.blk
 go_upto_region 4 with fail
 go_quiet ((go_at_call 12;exact Rd (I.out _)))
 go_upto_region 5 with fail
 obtain⟨A,K⟩:∃A,Hid (w1.drewN nq=A):=⟨_,rfl⟩
 rw[K.out];have f:Hid (gx A b y.heap.size H w l 9 d D a i o):=j.out.Vb (by rw[<-K.out];exact(ab.refl [] _).drewN nq);clear O P C R bz;obtain⟨O,P,o2,o3,T,U,C⟩:=cQ f.out.o;obtain⟨x,m,u,B,lo,hi,s,n,Q,g1,g2,k,⟨e1,z1,d1⟩,e2,z2,d2⟩:=f.out.m.ver L;have R:A.cell? ⟨b,0,none⟩=some (.slice w.hx.ao w.V.length w.hx.cap):=by rw[aa f.out.m.blk];rfl
 have c1:A.cell? ⟨b,1,none⟩=some (.slice w.hm.ao w.V.length w.hm.cap):=by rw[aa f.out.m.blk];rfl
 rw[e1]at R;rw[e2]at c1;have bz:=ae f.out.m.blk;have J:Hid _:=(NW x i o u lo hi Q A k.p hs (by omega));have F:Hid (∀t,dn t m u B s n Q->Calls prog 15 #[.pointer (some ⟨m,0,none⟩),.string i,.string o] t _):=fun t hr=>Ni m i o u B s n Q t hr hs (by omega)
 have G:Hid (zw (fc u i o).2):=Pq k.ok i o;have c:Hid _:=k;have ac:Hid _:=f.out.o
 have ai:Hid (x≠y.heap.size):=fun e=>by
  have p:=ad.out.sep.all (6,S);rw[k.i6]at p;have:=dE.lt p x Rn;omega
 generalize mb (fc u i o).1 Q=an at *;generalize fc u i o=pf at *;obtain⟨r,al⟩:=pf;simp only at J F G;clear k e1 e2
 go_upto_region 18 with (go_at_call 14;refine QU J.out ?_;rintro e t ⟨rfl,X,Y⟩)
 have af:Hid (dn t m u B s n Q):=c.out.d.kept Y (fun q g M=>c.out.far x Rn (by rw[<-Q9.1 M];exact g));have ag:Hid (dE t x al lo hi an):=X;have E:Hid _:=Y;have B3:=Y.get ac.out (by simp;exact fun e=>ai.out e.symm);clear O P o2 o3 T U C R c1 bz z1 d1 z2 d2 X Y;obtain⟨-,-,-,-,T,U,C⟩:=cQ B3;clear B3;go_wp2_with (go_at_call 15;refine QU (F.out t af.out) ?_;rintro e w4 ⟨rfl,h',X,q4,q5⟩);go_ret;have N:∀q,h'.blk=some q->B.blk=some q∨A.heap.size<=q:=fun q g=>(q5 q g).elim Q1 (fun z=>QV (Q3 E.out.size z))
 have ap:∀q,q∈m :: B.blk.toList->q∈m :: (B.blk.toList++ie s n):=fun q g=>by
  rcases Rj.1 g with e | e
  ·rw[e];exact Rn
  ·exact Rm _ (RN _ e)
 refine⟨rfl,f.out.m.both c.out.v c.out.i6 c.out.i7 (ag.out.kept q4 (fun q g M=>c.out.far q g (ap q M))) X (Q1 ⟨rfl,rfl⟩) (Q1 ⟨rfl,rfl⟩) N (fun q g M=>?_) ((E.out.mono (fun q g _=>RN _ g)).trans (q4.mono (fun q g _=>Se _ g))) G.out⟩;exact Gh c.out.far (c.out.p.lt) N q g M
theorem bZ.loads(a:bZ f n k v x)(C:x<=1073741824){o n e:Nat}{s:Option Nat}(V:pb f k v T g y6 z0 S y8 yr ys yf M)(A:v.L[N]?=some (yg,s,y7))(i:o+n+e<=y7.length) :
  Calls prog 13 #[.pointer (some ⟨g,0,none⟩),.pointer (some ⟨y6,0,none⟩),.slice (wD yg) y7.length y7.length,.int .i64 o,.int .i64 n,.int .i64 e] f fun r B=>Dy f g y6 S y8 yr ys yf (mb (dy ((y7.drop o).take n)) M) (jt z0 ((y7.drop o).take n)) r B:=by
 obtain⟨j,-,c,z⟩:=a.l N yg s y7 A;have m:=a.sep.all (8,N);rw[j]at m
 cases yg with
 | none =>
  have h:=iG.nil m rfl;subst h;have t:o=0:=by simp at i;omega
  have u:n=0:=by simp at i;omega
  have w:e=0:=by simp at i;omega
  subst t u w;exact Ey g y6 z0 S y8 yr ys yf M f V.p V.d V.far
 | some b =>
  have y:b∉g :: ie y8 yr:=by have:=a.sep.far (8,N) (6,T) (bn (by decide)) b (by rw[j];exact Q9.2 rfl);rw[V.i6]at this;exact this
  have q:b∉y6 :: (S.blk.toList++ie ys yf):=by have:=a.sep.far (8,N) (7,T) (bn (by decide)) b (by rw[j];exact Q9.2 rfl);rw[V.i7]at this;exact this
  exact Cm g y6 b o n e z0 y7 S y8 yr ys yf M f V.p V.d (iG.blk m b rfl) V.far (fun e=>y (by rw[e];exact Rn)) (fun e=>q (by rw[e];exact Rn)) (fun e=>q (Rm _ (RN _ (by rw[e];simp)))) i (by omega) c
theorem Qj(h:bZ y b H w l)(hV:w.V.length≠0)(hA:qB d)(hC:qB D)(hN:l<=1073741824) :
  Calls prog 9 #[.pointer (some ⟨b,0,none⟩),.agg #[.int .i64 8,.int .i64 d,.int .i64 D,.int .i64 a,.string i,.string o]] y fun e A=>iB b H w l true e A:=by
 obtain⟨W,HW⟩:∃W,Hid (y.alloc (.cells #[.int .i64 8,.int .i64 d,.int .i64 D,.int .i64 a,.string i,.string o] 28)=W):=⟨_,rfl⟩
 obtain⟨hM,hB,ar,-⟩:=h.boxed 8 d D a i o W HW.out;obtain⟨X,Y,o2,o3,o4,o5,Z⟩:=cQ hB;have HL:Hid _:=(lq b l H w 8 d D a i o W hM (by omega));have HS:Hid (gx W b y.heap.size H w l 8 d D a i o):=⟨hM,hB⟩;have ap:=h.len.1;have K:Hid (∀f,Calls prog 12 #[.int .i64 d,.int .i64 w.V.length] f fun e A=>e=.returned (.int .i64 (eG d w.V.length:Nat))/\A=f):=fun f=>eQ d w.V.length f hA ⟨by omega,by omega⟩
 have Q:=fY d w.V.length (by omega);obtain⟨T,Hi⟩:∃T,Hid (eG d w.V.length=T):=⟨_,rfl⟩
 rw[Hi.out]at K Q;have an:((w.V.length:Int)==0)=false:=Rh.2 (by omega);have az:(T:Int)<(w.V.length:Int):=by omega
 clear h hM hB;go_enter func9,ntmps9
 go_upto_region 1 with fail
 rw[HW.out]
 go_upto_region 2 with (go_at_call 11;refine QU HL.out ?_;rintro e w1 ⟨rfl,k1⟩)
 have z:Hid (gx w1 b y.heap.size H w l 8 d D a i o):=HS.out.Vb k1;clear X Y o2 o3 o4 o5 Z k1;obtain⟨X,Y,-⟩:=cQ z.out.o;have Z:=ae z.out.o;have c0:w1.cell? ⟨b,0,none⟩=some (.slice w.hx.ao w.V.length w.hx.cap):=by rw[aa z.out.m.blk];rfl
 have bz:=ae z.out.m.blk
 go_upto_region 4 with fail
 go_quiet ((go_at_call 12;exact Rd (K.out _)))
 go_upto_region 5 with fail
 obtain⟨B,N⟩:∃B,Hid (w1.drewN nq=B):=⟨_,rfl⟩
 rw[N.out];have c:Hid (gx B b y.heap.size H w l 8 d D a i o):=z.out.Vb (by rw[<-N.out];exact(ab.refl [] _).drewN nq);clear X Y Z c0 bz;obtain⟨X,Y,o2,o3,o4,o5,Z⟩:=cQ c.out.o;obtain⟨x,m,fs,hd,lo,hi,U,P,st,g1,g2,E,⟨e1,z1,d1⟩,e2,z2,d2⟩:=c.out.m.ver Q;have c0:B.cell? ⟨b,0,none⟩=some (.slice w.hx.ao w.V.length w.hx.cap):=by rw[aa c.out.m.blk];rfl
 have c1:B.cell? ⟨b,1,none⟩=some (.slice w.hm.ao w.V.length w.hm.cap):=by rw[aa c.out.m.blk];rfl
 rw[e1]at c0;rw[e2]at c1;have bz:=ae c.out.m.blk;have ad:Hid _:=E;have c3:B.cell? ⟨b,3,none⟩=some (.slice w.hl.ao w.L.length w.hl.cap):=by rw[aa c.out.m.blk];rfl
 by_cases hL:w.L.length=0
 ·rw[hL]at c3
  clear E e1 e2;go_wp2;go_ret;exact⟨rfl,_,_,c.out.m.more,rh.refl _ _⟩
 ·have al:=c.out.m.len.2.2
  have M:Hid (∀f,Calls prog 12 #[.int .i64 D,.int .i64 w.L.length] f fun e A=>e=.returned (.int .i64 (eG D w.L.length:Nat))/\A=f):=fun f=>eQ D w.L.length f hC ⟨by omega,by omega⟩
  have S:=fY D w.L.length (by omega);obtain⟨k,Hk⟩:∃k,Hid (eG D w.L.length=k):=⟨_,rfl⟩
  rw[Hk.out]at M S;obtain⟨⟨la,lc,j⟩,R⟩:∃x,w.L[k]?=some x:=⟨w.L[k],QP S⟩
  obtain⟨-,-,-,ax⟩:=c.out.m.l k la lc j R;obtain⟨gl,O,gz,gc⟩:=n8 c.out.m.ownL (k:=k) (x:=(la,j)) (by rw[Rq,R];rfl);replace gc:B.cell? ⟨gl,k,none⟩=some (.slice (wD la) j.length j.length):=gc;rw[O]at c3;have aS:(k:Int)<(w.L.length:Int):=by omega
  have ai:((w.L.length:Int)==0)=false:=Rh.2 (by omega);have af:Hid _:=R;obtain⟨ra,rn,re⟩:=c.out.m.rng;have G:Hid (∀f,Calls prog 12 #[.int .i64 w.a,.int .i64 ((j.length:Int)+1)] f fun e A=>e=.returned (.int .i64 (eG w.a (j.length+1):Nat))/\A=f):=fun f=>eQ w.a (j.length+1) f ra ⟨by omega,by omega⟩
  have ho:=fY w.a (j.length+1) (by omega);obtain⟨r,Ho⟩:∃r,Hid (eG w.a (j.length+1)=r):=⟨_,rfl⟩
  rw[Ho.out]at G ho
  have I:Hid (∀f,Calls prog 12 #[.int .i64 w.n,.int .i64 ((j.length:Int)-(r:Int)+1)] f fun e A=>e=.returned (.int .i64 (eG w.n (j.length-r+1):Nat))/\A=f):=fun f=>by
   rw[show(j.length:Int)-(r:Int)+1=((j.length-r+1:Nat):Int) by omega];exact eQ w.n (j.length-r+1) f rn ⟨by omega,by omega⟩
  have hn:=fY w.n (j.length-r+1) (by omega);obtain⟨n,Hn⟩:∃n,Hid (eG w.n (j.length-r+1)=n):=⟨_,rfl⟩
  rw[Hn.out]at I hn
  have J:Hid (∀f,Calls prog 12 #[.int .i64 w.e,.int .i64 ((j.length:Int)-(r:Int)-(n:Int)+1)] f fun e A=>e=.returned (.int .i64 (eG w.e (j.length-r-n+1):Nat))/\A=f):=fun f=>by
   rw[show(j.length:Int)-(r:Int)-(n:Int)+1=((j.length-r-n+1:Nat):Int) by omega];exact eQ w.e (j.length-r-n+1) f re ⟨by omega,by omega⟩
  have he:=fY w.e (j.length-r-n+1) (by omega);obtain⟨e,He⟩:∃e,Hid (eG w.e (j.length-r-n+1)=e):=⟨_,rfl⟩
  rw[He.out]at J he;have ac:Hid (∀u,bZ u b H w l->pb u H w T x m fs hd lo hi U P st->Calls prog 13 _ u _):=fun u ag V=>ag.loads hN V R (o:=r) (n:=n) (e:=e) (by omega)
  clear E e1 e2 R O ra rn re
  go_upto_region 11 with fail
  go_quiet ((go_at_call 12;exact Rd (M.out _)))
  go_upto_region 12 with fail
  obtain⟨u,C⟩:∃u,Hid (B.drewN nq=u):=⟨_,rfl⟩
  rw[C.out];have t:Hid (gx u b y.heap.size H w l 8 d D a i o):=c.out.Vb (by rw[<-C.out];exact(ab.refl [] _).drewN nq);clear X Y o2 o3 o4 o5 Z c0 c1 c3 bz z1 d1 z2 d2 gz gc;have c5:u.cell? ⟨b,5,none⟩=some (.int .i64 w.a):=by rw[aa t.out.m.blk];rfl
  have c6:u.cell? ⟨b,6,none⟩=some (.int .i64 w.n):=by rw[aa t.out.m.blk];rfl
  have c7:u.cell? ⟨b,7,none⟩=some (.int .i64 w.e):=by rw[aa t.out.m.blk];rfl
  have bz:=ae t.out.m.blk;have g:Hid (pb u H w T x m fs hd lo hi U P st):=ad.out.Vb (by rw[<-C.out];exact(ab.refl [] _).drewN nq);have F:Hid _:=ac.out u t.out.m g.out
  go_upto_region 13 with (go_at_call 12;refine QU (G.out _) ?_;rintro q w4 ⟨rfl,s⟩;rw[s];clear s)
  go_upto_region 14 with (go_at_call 12;refine QU (I.out _) ?_;rintro q w4 ⟨rfl,s⟩;rw[s];clear s)
  go_upto_region 15 with (go_at_call 12;refine QU (J.out _) ?_;rintro q w4 ⟨rfl,s⟩;rw[s];clear s)
  go_wp2_with (go_at_call 13;refine QU F.out ?_;rintro q w4 ⟨rfl,q1,⟨h',q2,q3⟩,q4⟩);go_ret;exact⟨rfl,t.out.m.both g.out.v g.out.i6 g.out.i7 q1 q2 (Q1 ⟨rfl,rfl⟩) (Q1 ⟨rfl,rfl⟩) q3 (Gh g.out.far g.out.p.lt q3) q4 (LF g.out.ok _)⟩
structure pB where
 k:Int
 a:Int
 c:Int
 d:Int
 s:ByteArray
 t:ByteArray
def Kj(o:pB):List Value:=[.int .i64 o.k,.int .i64 o.a,.int .i64 o.c,.int .i64 o.d,.string o.s,.string o.t]
def ja(L:List pB):dN:=kU 28 6 Kj L
theorem Lv:(prog.info? 28).map (fun i=>(i.zero,i.size,i.bytes))=some (some (.agg #[.int .i64 0,.int .i64 0,.int .i64 0,.int .i64 0,.string ⟨#[]⟩,.string ⟨#[]⟩]),6,64):=by kernel_rfl
theorem Aq(o:pB):∀u∈Kj o,u.oneCell'=true:=by
 intro u a;simp only[Kj,List.mem_cons,List.not_mem_nil,or_false]at a
 rcases a with rfl | rfl | rfl | rfl | rfl | rfl <;> rfl
structure M3(o:pB):Prop where
 a:qB o.a
 c:qB o.c
 d:qB o.d
 s:o.s.size<=1073741824
 t:o.t.size<=1073741824
 k:(1<=o.k/\o.k<=10)∨(15<=o.k/\o.k<=18)∨o.k=12∨(o.k=19/\o.d=12)
def mx(w:World)(ao:Option Addr)(l:List pB):Prop:=∀(i:Nat) (o:pB),l[i]?=some o->∃b off,ao=some ⟨b,off,none⟩/\b<w.heap.size/\∀(j:Nat) u,(Kj o)[j]?=some u->w.cell? ⟨b,off+i*6+j,none⟩=some u
theorem mx.Vb{l:List pB}(h:mx f yt l)(k:ab [] f L):mx L yt l:=by
 intro i o g;obtain⟨b,a,e,c,d⟩:=h i o g;exact⟨b,a,e,QX c k.size,fun j u m=>by rw[Q6 (k.block b c (by simp))];exact d j u m⟩
structure AZ(o:pB):Prop where
 k:qB o.k
 a:qB o.a
 c:qB o.c
 d:qB o.d
 s:o.s.size<=140737488351232
 t:o.t.size<=140737488351232
def lT(l:List pB)(k:Nat):pB:=l.getD k ⟨0,0,0,0,⟨#[]⟩,⟨#[]⟩⟩
theorem lU(l:List pB)(k:Nat)(h:k<l.length):l[k]?=some (lT l k):=by
 unfold lT;rw[QQ,QP h];rfl
def OI(l:List pB)(w:World)(e:Ending)(w':World):Prop:=(∃r,e=.returned (.bool r)/\(r=true->l.length<=1073741824/\∀i,i<l.length->(lT l i).s.size<=1073741824/\(lT l i).t.size<=1073741824))/\ab [] w w'
theorem Fh(l:List pB)(w:World)(Q:l.length<=140737488351232)(j:mx w zt l)(v:∀o∈l,AZ o) :
  Calls prog 7 #[.slice zt l.length ya] w fun e L=>OI l w e L:=by
 have x:Hid (mx w zt l):=j;have q:Hid _:=v;clear j v
 by_cases M:1073741824<l.length
 ·have n:(1073741824:Int)<(l.length:Int):=by omega
  go_enter func7,ntmps7;go_wp2;go_ret;exact⟨⟨false,rfl,by simp⟩,ab.refl _ _⟩
 ·have n:¬(1073741824:Int)<(l.length:Int):=by omega
  go_enter func7,ntmps7;go_wp2
  go_loopg [3,4] l.length (fun g m i wr=>∃(k:Nat) (z:Int),k<=l.length/\g=l.length-k/\i=.int .i64 k/\m=.int .i64 z/\Hid (∀i,i<k->(lT l i).s.size<=1073741824/\(lT l i).t.size<=1073741824)/\0<=z/\z<=1073741824/\Hid (ab [] w wr))
  case atStart=>exact⟨0,l.length,by omega,by omega,rfl,rfl,fun i h=>by omega,by omega,by omega,ab.refl _ _⟩
  case round =>
   obtain⟨k,z,P,O,rfl,rfl,r,I,J,f⟩:=hrel
   by_cases d:k<l.length
   ·have C:(k:Int)<(l.length:Int):=by omega
    obtain⟨b,K,rfl,N,p⟩:=(mx.Vb x.out f.out) k _ (lU l k d);have y:=p 4 _ rfl;have A:=p 5 _ rfl;have E:=(q.out (lT l k) (R4 (lU l k d))).s;have G:=(q.out (lT l k) (R4 (lU l k d))).t;obtain⟨o,u⟩:∃o,Hid (lT l k=o):=⟨_,rfl⟩
    rw[u.out]at y A E G;clear p;have F:(o.s.size:Int)<=140737488351232:=by omega
    have H:(o.t.size:Int)<=140737488351232:=by omega
    by_cases B:(1073741824:Int)<z+o.s.size+o.t.size
    ·go_upto_region 7 with fail
     go_quiet (fail)
     have a:Hid (ab [] w (wr.drewN nq)):=f.out.drewN nq;go_wp2;go_ret;exact⟨⟨false,rfl,by simp⟩,a.out⟩
    ·have c:Hid (∀i,i<k+1->(lT l i).s.size<=1073741824/\(lT l i).t.size<=1073741824):=fun i j=>by
      by_cases e:i=k
      ·rw[e,u.out];omega
      ·exact r.out i (by omega)
     go_upto_region 7 with fail
     go_quiet (fail)
     have a:Hid (ab [] w (wr.drewN nq)):=f.out.drewN nq;go_wp2
     go_roundg (l.length-(k+1))
     case measure=>omega
     case rel=>exact⟨k+1,z+o.s.size+o.t.size,by omega,rfl,by go_num,rfl,c,by omega,by omega,a⟩
   ·have D:¬(k:Int)<(l.length:Int):=by omega
    have c:Hid (∀i,i<l.length->(lT l i).s.size<=1073741824/\(lT l i).t.size<=1073741824):=fun i j=>r.out i (by omega)
    go_wp2;go_ret;exact⟨⟨true,rfl,fun _=>⟨by omega,c.out⟩⟩,f.out⟩
set_option maxRecDepth 512
theorem qU(d:Option Addr)(o p:Nat)(L:List ByteArray)(w:World)(h:ge w zt L)(j:ge w d L)(D:L.length<=4294967296) :
  Calls prog 25 #[.slice zt L.length o,.slice d L.length p] w fun e s=>e=.returned (.bool true)/\∃n,s=w.drewN n:=by
 have l:Hid (ge w zt L):=h;have m:Hid (ge w d L):=j;clear h j;go_enter func25,ntmps25;go_wp2
 go_loopg [5] L.length (fun g i wr=>∃k:Nat,k<=L.length/\g=L.length-k/\i=.int .i64 k/\Hid (∃n,wr=w.drewN n))
 case atStart=>exact⟨0,by omega,by omega,rfl,0,rfl⟩
 case round =>
  obtain⟨k,C,B,rfl,b⟩:=hrel;have f:Hid (ab [] w wr):=by show ab _ _ _;obtain⟨n,e⟩:=b.out;rw[e];exact(ab.refl [] w).drewN n
  by_cases a:k<L.length
  ·have q:(k:Int)<(L.length:Int):=by omega
   obtain⟨v,rfl,z,t⟩:=(ge.Vb l.out f.out) k _ (QP a);obtain⟨y,rfl,A,u⟩:=(ge.Vb m.out f.out) k _ (QP a);generalize L[k]=x at *;have E:(x.toList==x.toList)=true:=UQ _
   go_upto_region 6 with fail
   go_quiet (fail)
   have c:Hid (∃n,wr.drewN nq=w.drewN n):=by show ∃_,_;obtain⟨n,e⟩:=b.out;exact⟨n+nq,by rw[e,Uf]⟩
   go_wp2
   go_roundg (L.length-(k+1))
   case measure=>omega
   case rel=>exact⟨k+1,by omega,rfl,by go_num,c⟩
  ·have r:¬(k:Int)<(L.length:Int):=by omega
   go_wp2;go_ret;exact⟨rfl,b.out⟩
def Ix(bo:Option Nat)(L:List ByteArray):It where
 B:=bo.toList
 P w:=vF w bo L
 lt w a q hq:=by
  cases bo with
  | none=>cases hq
  | some b=>rw[UI,Q9]at hq;rw[hq];exact ae (a.blk b rfl)
 ok S w w' a k hb:=⟨a.nil,fun b e=>k.get (a.blk b e) (hb b (by rw[e];simp))⟩
theorem vF.srcX(h:vF f M z6):ge f (wD M) z6:=by
 intro k x a
 cases M with
 | none=>rw[h.nil.1 rfl]at a;cases a
 | some b =>
  have c:=h.blk b rfl;exact⟨b,rfl,ae c,by rw[aa c];simp[cN,a]⟩
abbrev Tx:=Option Nat×Hd×List ByteArray
def MN(t:Tx):List Value:=[.slice (wD t.1) t.2.2.length t.2.2.length,.slice t.2.1.ao t.2.2.length t.2.1.cap]
def md(TS:List Tx):dN:=kU 63 2 MN TS
structure QF(I:Nat×Nat->It)(tv:Value)(ht:Hd)(TS:List Tx)(N:Nat):Prop where
 e:tv=.slice ht.ao TS.length ht.cap
 r:I (11,0)=ce ht (md TS)
 l:∀k bo h L,TS[k]?=some (bo,h,L)->I (12,k)=Ix bo L/\I (13,k)=ce h (aB L)/\L.length<=900000000
 n:TS.length<=N
structure cM(w:World)(b:Nat)(I:Nat×Nat->It)(M:Mc)(ht:Hd)(TS:List Tx)(N:Nat):Prop where
 m:bZ w b I M N
 q:M.qv=.slice none 0 0
 t:QF I M.tv ht TS N
theorem cM.Vb{a:List Tx}(h:cM f n k v S a x)(b:ab [] f L):cM L n k v S a x:=⟨h.m.Vb b,h.q,h.t⟩
theorem cM.more{a:List Tx}(h:cM f n k v S a x):cM f n k v S a (x+1):=⟨h.m.more,h.q,{ h.t with n:=UK h.t.n }⟩
def qM(b:Nat)(I:Nat×Nat->It)(N:Nat)(e:Ending)(w':World):Prop:=e=.returned (.bool true)/\∃I' M' ht' TS',cM w' b I' M' ht' TS' (N+1)/\I' (10,0)=I (10,0)
theorem cM.up{c:List Tx}{e:Ending}(h:cM f n k v S c x)(s:iB n k v x true e L):qM n k x e L:=by
 obtain⟨m,d,i,o,a⟩:=s;refine⟨m,d,i,S,c,⟨o,a.q.trans h.q,⟨a.t.trans h.t.e,(a.k 11 0 (by decide)).trans h.t.r,fun b j p g u=>?_,UK h.t.n⟩⟩,a.k 10 0 (QR _)⟩;rw[a.k 12 b (by decide),a.k 13 b (by decide)];exact h.t.l b j p g u
theorem cM.rowOwn{a:List Tx}(h:cM f n k v S a x):aw f S (md a):=by have:=h.m.sep.all (11,0);rw[h.t.r]at this;exact this
theorem cM.c16{a:List Tx}(h:cM f n k v S a x):f.cell? ⟨n,16,none⟩=some (.slice S.ao a.length S.cap):=by rw[aa h.m.blk,<-h.t.e];rfl
theorem cM.at_{d:List Tx}(h:cM f n k v S d x)(r:T<d.length):∃b a L g,d[T]?=some (b,a,L)/\(S.ao=some ⟨g,0,none⟩/\g<f.heap.size/\f.cell? ⟨g,T*2,none⟩=some (.slice (wD b) L.length L.length)/\f.cell? ⟨g,T*2+1,none⟩=some (.slice a.ao L.length a.cap))/\vF f b L/\aw f a (aB L)/\L.length<=900000000:=by
 obtain⟨⟨b,a,L⟩,e⟩:∃u,d[T]?=some u:=⟨d[T],QP r⟩
 obtain⟨g,q,z,c⟩:=(aw.srcG (f:=MN) h.rowOwn (fun _=>rfl)) T _ e;obtain⟨o,p,s⟩:=h.t.l T b a L e;have i:=h.m.sep.all (12,T);have j:=h.m.sep.all (13,T);rw[o]at i;rw[p]at j;exact⟨b,a,L,g,e,⟨q,z,c 0 _ rfl,c 1 _ rfl⟩,i,j,s⟩
set_option maxRecDepth 100000
theorem IK(o:List Tx)(j:World)(h:cM j b H w I o l)(hN:l<=1073741825) :
  Calls prog 10 #[.pointer (some ⟨b,0,none⟩)] j fun e F=>e=.returned (.bool true)/\ab [] j F:=by
 have W:Hid (cM j b H w I o l):=h;have V:Hid (bZ j b H w l):=h.m;have G:=ae h.m.blk;have X:j.cell? ⟨b,15,none⟩=some (.slice none 0 0):=by rw[aa h.m.blk,<-h.q];rfl
 have ac:=h.m.len.2.2;have ad:=h.t.n;clear h;go_enter func10,ntmps10;go_wp2
 go_loopg [3] 0 (fun g i wr=>g=0/\i=.int .i64 0/\j=wr)
 case atStart=>exact⟨rfl,rfl,rfl⟩
 case round =>
  obtain⟨N,rfl,rfl⟩:=hrel;go_wp2
  go_loopg [5] o.length (fun g i wr=>∃k:Nat,k<=o.length/\g=o.length-k/\i=.int .i64 k/\Hid (ab [] j wr))
  case atStart=>exact⟨0,by omega,rfl,rfl,ab.refl _ _⟩
  case round =>
   obtain⟨k,hk,ag,rfl,r⟩:=hrel;have v:Hid (cM wr b H w I o l):=W.out.Vb r.out;have K:=v.out.c16;clear G;have G:=ae v.out.m.blk
   by_cases y:k<o.length
   ·obtain⟨Q,M,L,g,-,⟨N,gz,g0,g1⟩,T,S,hl⟩:=v.out.at_ y
    rw[N]at K;have u:Hid (∀n,Calls prog 25 #[.slice (wD Q) L.length L.length,.slice M.ao L.length M.cap] (wr.drewN n) fun e F=>e=.returned (.bool true)/\∃m,F=(wr.drewN n).drewN m):=fun n=>qU (wD Q) M.ao _ _ L (wr.drewN n) (ge.Vb T.srcX ((ab.refl [] _).drewN n)) (ge.Vb S.srcX ((ab.refl [] _).drewN n)) (by omega)
    have O:(k:Int)<(o.length:Int):=by omega
    clear T S N
    go_upto_region 10 with fail
    go_quiet ((go_at_call 25;exact UF (u.out _)))
    have s:Hid (ab [] j (wr.drewN nq)):=r.out.drewN nq;go_wp2
    go_roundg (o.length-(k+1))
    case measure=>omega
    case rel=>exact⟨k+1,by omega,rfl,by go_num,s⟩
   ·have P:¬(k:Int)<(o.length:Int):=by omega
    have J:Hid _:=r.out;clear r;go_wp2
    go_loopg [7] w.L.length (fun g i wr=>∃k:Nat,k<=w.L.length/\g=w.L.length-k/\i=.int .i64 k/\Hid (ab [] j wr))
    case atStart=>exact⟨0,by omega,rfl,rfl,J⟩
    case round =>
     obtain⟨k,hk,ai,rfl,r⟩:=hrel;have d:Hid (bZ wr b H w l):=V.out.Vb r.out;have Y:wr.cell? ⟨b,3,none⟩=some (.slice w.hl.ao w.L.length w.hl.cap):=by rw[aa d.out.blk];rfl
     have Z:wr.cell? ⟨b,4,none⟩=some (.slice w.hc.ao w.L.length w.hc.cap):=by rw[aa d.out.blk];rfl
     clear G;have G:=ae d.out.blk
     by_cases y:k<w.L.length
     ·obtain⟨⟨a,c,f⟩,p⟩:∃x,w.L[k]?=some x:=⟨w.L[k],QP y⟩
      obtain⟨z,A,-,af⟩:=d.out.l k a c f p;obtain⟨gl,D,gz,R⟩:=n8 d.out.ownL (k:=k) (x:=(a,f)) (by rw[Rq,p];rfl);obtain⟨gr,E,rz,U⟩:=n8 d.out.ownC (k:=k) (x:=(c,f)) (by rw[Rq,p];rfl);replace R:wr.cell? ⟨gl,k,none⟩=some (.slice (wD a) f.length f.length):=R;replace U:wr.cell? ⟨gr,k,none⟩=some (.slice (wD c) f.length f.length):=U;rw[D]at Y;rw[E]at Z;have B:iG wr a f:=by have:=d.out.sep.all (8,k);rw[z]at this;exact this
      have C:iG wr c f:=by have:=d.out.sep.all (9,k);rw[A]at this;exact this
      have u:Hid (∀n,Calls prog 26 #[.slice (wD a) f.length f.length,.slice (wD c) f.length f.length] (wr.drewN n) fun e F=>e=.returned (.bool true)/\∃m,F=(wr.drewN n).drewN m):=fun n=>nC (wD a) (wD c) _ _ f (wr.drewN n) (kR.kept B.src ((ab.refl [] _).drewN n) (by simp)) (kR.kept C.src ((ab.refl [] _).drewN n) (by simp)) (by omega)
      have O:(k:Int)<(w.L.length:Int):=by omega
      clear p z A D E B C
      go_upto_region 16 with fail
      go_quiet ((go_at_call 26;exact UF (u.out _)))
      have s:Hid (ab [] j (wr.drewN nq)):=r.out.drewN nq;go_wp2
      go_roundg (w.L.length-(k+1))
      case measure=>omega
      case rel=>exact⟨k+1,by omega,rfl,by go_num,s⟩
     ·have P:¬(k:Int)<(w.L.length:Int):=by omega
      go_wp2;go_ret;exact⟨rfl,r.out⟩
theorem O3:(prog.info? 63).map (fun i=>(i.zero,i.size,i.bytes))=some (some (.agg #[.slice none 0 0,.slice none 0 0]),2,48):=by kernel_rfl
theorem Qq(t:Tx):∀u∈MN t,u.oneCell'=true:=by
 intro u a;simp only[MN,List.mem_cons,List.not_mem_nil,or_false]at a
 rcases a with rfl | rfl <;> rfl
theorem bZ.retv{b:Nat×Nat->It}(h:bZ f n k v x)(s:nJ L b)(g:Value)(o:b (0,0)=rB n 42 ({ v with tv:=g }:Mc).cells)(a:∀j i,0<j->j<10->b (j,i)=k (j,i)):bZ L n b { v with tv:=g } x:={
 sep:=s
 w0:=o
 x:=by rw[a 1 0 (by decide) (by decide)];exact h.x
 m:=by rw[a 2 0 (by decide) (by decide)];exact h.m
 r:=by rw[a 3 0 (by decide) (by decide)];exact h.r
 ls:=by rw[a 4 0 (by decide) (by decide)];exact h.ls
 lw:=by rw[a 5 0 (by decide) (by decide)];exact h.lw
 v:=fun i c m d e=>by rw[a 6 i (by decide) (by decide),a 7 i (by decide) (by decide)];exact h.v i c m d e
 l:=fun i c m d e=>by rw[a 8 i (by decide) (by decide),a 9 i (by decide) (by decide)];exact h.l i c m d e
 fit:=h.fit
 len:=h.len
 rng:=h.rng }
theorem rP{a:It}(b:10<=n)(c:T<10):fk k (n,x) a (T,N)=k (T,N):=aq _ _ (bn (by omega))
theorem cM.lay{a:List Tx}(h:cM f n k v S a x)(c:It)(C:T=12∨T=13)(A:ab [] f L)(y:c.P L)(p:∀q,q∈c.B->f.heap.size<=q):cM L n (fk k (T,a.length) c) v S a x:=by
 have b:10<=T:=by omega
 have s:=h.m.sep.put (T,a.length) c (A.mono (by simp)) y (fun q z=>QV (p q z));have m:bZ L n (fk k (T,a.length) c) v x:=h.m.retv s v.tv (by rw[rP b (by decide)];exact h.m.w0) (fun j i _ d=>rP b d);refine⟨m,h.q,⟨h.t.e,by rw[aq _ _ (bn (by omega))];exact h.t.r,fun j o u g d=>?_,h.t.n⟩⟩;have w:=(Q8.1 d).1;rw[aq _ _ (rC (by omega)),aq _ _ (rC (by omega))];exact h.t.l j o u g d
theorem cM.add{b:List Tx}{d:Hd}(h:cM f n k v S b x)(w:k (12,b.length)=Ix M z6)(y:k (13,b.length)=ce d (aB z6))(G:z6.length<=900000000)(g:bt f L S zb)(o:aw L zb (md (b++[(M,d,z6)]))) :
  ∃B D A p,cM (L.setCell ⟨n,16,none⟩ (.slice zb.ao (b.length+1) zb.cap)) n B D A p (x+1)/\B (10,0)=k (10,0):=by
 have s:=h.m.sep.grown h.m.w0 (bn (by decide)) h.t.r g o 16 (.slice zb.ao (b.length+1) zb.cap);have m:=(h.m.retv s (.slice zb.ao (b.length+1) zb.cap) (bJ _ _ _) (fun j i H F=>by rw[aq _ _ (bn (by omega)),rP (by decide) F])).more;have q:∀a i,11<a->fk (fk k (11,0) (ce zb (md (b++[(M,d,z6)])))) (0,0) (rB n 42 (v.cells.set 16 (.slice zb.ao (b.length+1) zb.cap))) (a,i)=k (a,i):=fun a i I=>by rw[aq _ _ (bn (by omega)),aq _ _ (bn (by omega))]
 refine⟨_,_,zb,b++[(M,d,z6)],⟨m,h.q,⟨by rw[Q0];rfl,by rw[aq _ _ (bn (by decide))];exact bJ _ _ _,fun j u z C c=>?_,?_⟩⟩,?_⟩
 ·rw[q 12 j (by decide),q 13 j (by decide)]
  by_cases e:j<b.length
  ·rw[Q7 e]at c
   exact h.t.l j u z C c
  ·have E:j=b.length:=by
    have:=(Q8.1 c).1;rw[Q0]at this;have:j<b.length+1:=this;omega
   subst E;rw[Q5 (QR _),RY]at c
   cases c
   exact⟨w,y,G⟩
 ·have:=h.t.n
  rw[Q0];show _+1<=_;omega
 ·rw[aq _ _ (bn (by decide)),aq _ _ (bn (by decide))]
theorem Iz(c:List Tx)(o:Option Nat)(s:Hd)(L:List ByteArray)(A:World)(h:cM A b H w I c l)(hN:l<=1073741824)(B:H (12,c.length)=Ix o L)(hO:aw A s (aB L))(hl:L.length<=900000000) :
  Calls prog 41 #[.pointer (some ⟨b,0,none⟩),.slice (wD o) L.length L.length,.slice s.ao L.length s.cap] A fun e w'=>qM b H l e w':=by
 have hX:vF A o L:=by have:=h.m.sep.all (12,c.length);rw[B]at this;exact this
 have O:Hid _:=(qU (wD o) s.ao L.length s.cap L A hX.srcX hO.srcX (by omega));have HM:Hid (cM A b H w I c l):=h;have ai:Hid _:=B;have a6:Hid _:=hX.nil;have HO:Hid (aw A s (aB L)):=hO;obtain⟨iS,a1,X,Y,Z⟩:=Re js;obtain⟨iT,a2,ac,af,ag⟩:=Re O3;have ba:=h.t.n
 have D:Hid (s.ao=none->L.length=0/\s.cap=0):=fun e=>by
  rcases hO.Vm with ⟨p,e2,e3⟩ | ⟨g,ar,p,-⟩
  ·exact⟨e2,by rw[p]⟩
  ·rw[e]at p;cases p
 have V:Hid (∀u∈cN L,u.oneCell'=true):=fun u hu=>by
  obtain⟨x,-,rfl⟩:=Si.1 hu;rfl
 have U:Hid ((cN L).length=L.length*1):=by show _=_;rw[cN,Ri,UZ]
 have k:(L.length=0/\wD o=none)∨L.length≠0:=by
  by_cases e:L=[]
  ·exact Q1 ⟨by rw[e];rfl,by rw[hX.nil.2 e];rfl⟩
  ·exact QV (fun e2=>e (Ud.1 e2))
 have az:∀w',aw w' ⟨none,0⟩ (aB []):=fun w'=>QZ _ _ _ _
 have aT:Hid ((md c).n<=4294967296):=by show c.length<=_;omega
 have P:Hid ((md c).n=c.length):=rfl;have a4:Hid ((⟨(aB []).e,(aB []).size,(aB []).n+L.length,(aB []).xs++cN L⟩:dN)=aB L):=by show dN.mk _ _ (0+L.length) ([]++cN L)=_;rw[SJ];rfl
 have ax:Hid ((aB []).n+L.length<=1000000000):=by show 0+L.length<=_;omega
 have a3:Hid ((aB []).n+L.length=L.length):=SJ _;clear h hX B
 have d:((((L.length:Int)==0)=true/\wD o=none))∨((L.length:Int)==0)=false:=by
  rcases k with ⟨h0,hn⟩ | h0
  ·exact Q1 ⟨by rw[h0];rfl,hn⟩
  ·exact QV (Rh.2 (by omega))
 clear k;obtain⟨ra,Q⟩:∃ra,Hid (wD o=ra):=⟨_,rfl⟩
 rw[Q.out]at O d ⊢;have an:Hid (∀f:Hd,MN (o,f,L)=[.slice ra L.length L.length,.slice f.ao L.length f.cap]):=fun f=>by rw[<-Q.out];rfl
 obtain⟨i,y⟩:=s
 rcases d with ⟨h0,rfl⟩ | h0
 all_goals
  go_enter func41,ntmps41
  go_upto_region 2 with (go_at_call 25;refine QU O.out ?_;rintro e w1 ⟨rfl,n1,W⟩;have M:Hid (ab [] A w1):=(by show ab _ _ _;rw[W];exact(ab.refl [] _).drewN n1);clear W)
  have N:Hid (aw w1 ⟨i,y⟩ (aB L)):=HO.out.Vb M.out
  have a0:Hid (∀ad,i=some ad->∀j u,(cN L)[j]?=some u->w1.cell? (ad.add j)=some u):=fun ad e j u hj=>by
   rcases N.out.Vm with ⟨p,-,-⟩ | ⟨g,ar,p,e2,-⟩
   ·rw[show i=none from congrArg Hd.ao p]at e;cases e
   ·rw[show i=some ⟨g,0,none⟩ from p]at e
    cases e
    rw[bL];exact(N.out.cell p j u hj)
  go_upto_region 4 with fail
  go_upto_region 5 with (at_builtin;refine ed _ rfl (.const (.slice none 0 0)) (.tmp 30) 61 rfl iS (.string ⟨#[]⟩) 16 ⟨none,0⟩ (aB []) underlying61 a1 X Y Z rfl Rc rfl (az _) i L.length y (cN L) rfl U.out D.out a0.out V.out ax.out (by omega) ?_;intro f w5 E C;rw[a4.out]at E;rw[a3.out])
  have al:Hid (ab [] w1 w5):=C.kept.mono (by simp[Hd.blk])
  have a:=(show Hid _ from(HM.out.Vb M.out).lay (ce f (aB L)) (QV rfl) al.out E (fun q z=>by
   have z:=aN z
   rcases C.blk with e | ⟨g,e,hg⟩
   ·rw[e]at z;cases z
   ·rw[e]at z;cases z;exact hg))
  have J:Hid (fk H (13,c.length) (ce f (aB L)) (12,c.length)=Ix o L):=by show _=_;rw[aq _ _ (bn (by decide))];exact ai.out
  have K:Hid _:=bJ H (13,c.length) (ce f (aB L));have G:Hid (fk H (13,c.length) (ce f (aB L)) (10,0)=H (10,0)):=by show _=_;rw[aq _ _ (bn (by decide))]
  clear E C;generalize fk H (13,c.length) (ce f (aB L))=I5 at *;have a7:=a.out.c16;have bz:=ae a.out.m.blk;have fb:=am a.out.m.blk;have aS:=a.out.rowOwn;have F:Hid (b∉I.blk.toList):=fun z=>a.out.m.sep.far (0,0) (11,0) (bn (by decide)) b (by rw[a.out.m.w0];exact Q9.2 rfl) (by rw[a.out.t.r];exact z)
  obtain⟨R,S⟩:=f;go_wp2_with (at_builtin;refine cZ w5 rfl (.tmp 36) (.tmp 40) 40 rfl iT (.agg #[.slice none 0 0,.slice none 0 0]) 48 I (md c) [.slice _ L.length L.length,.slice R L.length S] underlying40 a2 ac af ag rfl Uq (by rw[P.out];simp[Act.eval]) aS aT.out (by omega) (by simp[Act.eval]) rfl (by intro u hu;simp only[List.mem_cons,List.not_mem_nil,or_false]at hu;rcases hu with rfl | rfl <;> rfl) ?_;intro h7 w7 v T;replace v:aw w7 h7 ⟨(md c).e,(md c).size,(md c).n+1,(md c).xs++MN (o,⟨R,S⟩,L)⟩:=(by rw[an.out];exact v);rw[md,gM]at v;have p7:=T.kept.get a.out.m.blk F.out;have f7:=am p7;have c7:w7.cell? ⟨b,16,none⟩=some (.slice I.ao c.length I.cap):=(by rw[aa p7,<-a.out.t.e];rfl);have z7:=ae p7;have HF:Hid _:=a.out.add J.out K.out hl T v;rw[P.out]);go_ret;obtain⟨I',M',a5,ap,q1,q2⟩:=HF.out;exact⟨rfl,I',M',a5,ap,q1,q2.trans G.out⟩
theorem NC(h:n∈(Ix M z6).B):M=some n:=by
 replace h:n∈M.toList:=h
 cases M with
 | none=>cases h
 | some g=>rw[UI,Q9]at h;rw[h]
theorem M7(a:Fs)(d:Option Nat)(b:ByteArray)(c:zw a):(vG a d b).1.length<=900000000:=by
 unfold vG
 cases d with
 | none=>show(0:Nat)<=_;omega
 | some k =>
  have i:=(wT a c k).ok.len;simp only
  cases gC (bK a k).2.2.Vn b with
  | none=>show(0:Nat)<=_;omega
  | some n =>
   have e:=t8 (bK a k).2.2.Vn n;have f:=wo (bK a k).2.2.Vn n;have g:=tW (bK a k).2.2.Vn (aK (bK a k).2.2.Vn n);have h:(gI (bK a k).2.2.Vn n).length<=100000000:=GC _ _ (by omega)
   show(cW (bK a k).2.2.Vn n).length<=_
   omega
theorem wj(y:List Tx)(i x m:Nat)(f:Fs)(O:Hd)(Q P v u:Nat)(g:Option Nat)(a:ByteArray)(n:World)(h:cM n b H w I y l)(X:l<=1073741824)(V:pb n H w i x m f O Q P v u g) :
  Calls prog 18 #[.pointer (some ⟨b,0,none⟩),.pointer (some ⟨x,0,none⟩),.pointer (some ⟨m,0,none⟩),.string a] n fun e K=>qM b H l e K:=by
 have t:Hid _:=Jk x f Q P g a n V.p V.le V.ok;have s:Hid (∀j,ab [] n j->Calls prog 40 #[.pointer (some ⟨m,0,none⟩),.string a] j fun e K=>Qy (vG f g a).1 (vG f g a).2 j e K):=fun j k=>Ia m f O v u g a j (V.d.Vb k) V.st V.le V.ok
 have r:Hid _:=M7 f g a V.ok;have T:Hid (cM n b H w I y l):=h;generalize vG f g a=A at *;obtain⟨L,c⟩:=A;simp only at t s r;clear h V;go_enter func18,ntmps18
 go_upto_region 2 with (go_at_call 39;refine QU t.out ?_;rintro e w1 ⟨z,rfl,S,R,J⟩)
 have B:Hid _:=J;have D:Hid _:=(T.out.lay (Ix z L) (Q1 rfl) J S (fun q hq=>R q (NC hq)));clear S R J
 go_upto_region 3 with (go_at_call 40;refine QU (s.out w1 B.out) ?_;rintro e j ⟨N,rfl,M⟩)
 have E:Hid _:=D.out.Vb M.kept;have o:Hid (fk H (12,y.length) (Ix z L) (10,0)=H (10,0)):=by show _=_;rw[aq _ _ (bn (by decide))]
 have C:Hid _:=Iz b l _ w I y z N L j E.out X (bJ _ _ _) M.own r.out;clear M;generalize wD z=ra at *;obtain⟨Y,Z⟩:=N;go_wp2_with (go_at_call 41;refine QU C.out ?_;rintro e w3 ⟨rfl,U,W,G,F,q1,q2⟩);go_ret;exact⟨rfl,U,W,G,F,q1,q2.trans o.out⟩
theorem Nb(c:Calls prog 18 #[.pointer (some ⟨b,0,none⟩),.pointer (some ⟨l,0,none⟩),.pointer (some ⟨ya,0,none⟩),.string i] y fun e a=>e=.returned (.bool true)/\yu a) :
  Calls prog 23 #[.pointer (some ⟨b,0,none⟩),.pointer (some ⟨l,0,none⟩),.pointer (some ⟨ya,0,none⟩),.string i,.string o,.int .i64 12] y fun e a=>e=.returned (.bool true)/\yu a:=by
 have d:Hid _:=c;clear c;go_enter func23,ntmps23;go_wp2_with (go_at_call 18;refine QU d.out ?_;rintro e g ⟨rfl,f⟩);go_ret;exact⟨rfl,f⟩
theorem JP(g:∀W,ab [] y W->Calls prog 11 #[.pointer (some ⟨l,0,none⟩),.agg #[.int .i64 y9,.int .i64 d,.int .i64 D,.int .i64 a,.string i,.string o]] W fun e c=>e=.returned (.bool true)/\yu c) :
  Calls prog 9 #[.pointer (some ⟨l,0,none⟩),.agg #[.int .i64 y9,.int .i64 d,.int .i64 D,.int .i64 a,.string i,.string o]] y fun e c=>e=.returned (.bool true)/\yu c:=by
 obtain⟨W,b⟩:∃W,Hid (y.alloc (.cells #[.int .i64 y9,.int .i64 d,.int .i64 D,.int .i64 a,.string i,.string o] 28)=W):=⟨_,rfl⟩
 have h:ab [] y W:=by rw[<-b.out];exact(ab.refl [] _).alloc _
 have f:W.heap[y.heap.size]?=some (.cells #[.int .i64 y9,.int .i64 d,.int .i64 D,.int .i64 a,.string i,.string o] 28 (0,0)):=by rw[<-b.out];exact QS _ _
 obtain⟨m,n,p,q,r,s,t⟩:=cQ f;have j:Hid _:=g W h;clear f g h;go_enter func9,ntmps9
 go_upto_region 1 with fail
 rw[b.out];go_wp2_with (go_at_call 11;refine QU j.out ?_;rintro e u ⟨rfl,k⟩);go_ret;exact⟨rfl,k⟩
theorem vF.wrote(h:vF f (some n) z6)(s:ByteArray):vF (f.setCell ⟨n,x,none⟩ (.string s)) (some n) (z6.set x s):=by
 refine⟨⟨(fun e=>by cases e),fun e=>?_⟩,fun q e=>?_⟩
 ·have:z6=[]:=Ud.1 (by rw[<-Rv (i:=x) (a:=s),e];rfl)
  exact absurd (h.nil.2 this) (by simp)
 ·cases e
  rw[ah (h.blk n rfl),Ru,xk]
theorem Mm(o:aw f S (aB z6))(a:S.ao=some ⟨n,0,none⟩)(s:ByteArray):aw (f.setCell ⟨n,x,none⟩ (.string s)) S (aB (z6.set x s)):=by
 have:=o.putAt a x (.string s)
 have e:(⟨(aB z6).e,(aB z6).size,(aB z6).n,(aB z6).xs.set x (.string s)⟩:dN)=aB (z6.set x s):=by
  unfold aB;rw[xk,Rv]
 rw[e]at this;exact this
theorem cM.wrote{c:List ByteArray}{a:List Tx}(h:cM f n k v zb a x)(s:a[T]?=some (M,S,z6))(D:c.length=z6.length)(E:nJ L (fk (fk k (12,T) (Ix M c)) (13,T) (ce S (aB c)))):∃w A u g,cM L n w A u g (x+1)/\w (10,0)=k (10,0):=by
 have d:=(Q8.1 s).1
 have C:md (a.set T (M,S,c))=md a:=by
  have e:(a.set T (M,S,c)).flatMap MN=a.flatMap MN:=by
   have B:(a.set T (M,S,c)).map MN=a.map MN:=by
    rw[Tn]
    apply Sq
    intro j;rw[RU]
    by_cases y:T=j
    ·subst y
     rw[QW rfl,Rq,s];simp only[List.length_map,d,if_true,Option.map_some,MN,D]
    ·rw[QT y]
   rw[Uo,Uo,B]
  unfold md kU;rw[e,Rv]
 have m:=(h.m.retv E v.tv (by rw[rP (by decide) (by decide),rP (by decide) (by decide)];exact h.m.w0) (fun j i _ b=>by rw[rP (by decide) b,rP (by decide) b])).more;refine⟨_,_,zb,a.set T (M,S,c),⟨m,h.q,⟨by rw[Rv];exact h.t.e,by rw[aq _ _ (bn (by decide)),aq _ _ (bn (by decide)),C];exact h.t.r,fun j o p z b=>?_,by rw[Rv];exact UK h.t.n⟩⟩,by rw[aq _ _ (bn (by decide)),aq _ _ (bn (by decide))]⟩;rw[RU]at b;rw[aq _ _ (bn (by decide))]
 by_cases e:T=j
 ·subst e
  rw[QW rfl,QW d]at b
  cases b
  obtain⟨-,-,F⟩:=h.t.l T M S z6 s;rw[bJ,bJ];exact⟨rfl,rfl,by omega⟩
 ·rw[QT e]at b
  rw[aq _ _ (rC (Ne.symm e)),aq _ _ (rC (Ne.symm e)),aq _ _ (bn (by decide))];exact h.t.l j o p z b
theorem NK(f:List Tx)(A C D:Int)(s t:ByteArray)(U:World)(h:cM U b H w I f l)(hN:l<=1073741824)(hA:qB A)(hC:qB C) :
  Calls prog 11 #[.pointer (some ⟨b,0,none⟩),.agg #[.int .i64 18,.int .i64 A,.int .i64 C,.int .i64 D,.string s,.string t]] U fun e w'=>qM b H l e w':=by
 obtain⟨W,HW⟩:∃W,Hid (U.alloc (.cells #[.int .i64 18,.int .i64 A,.int .i64 C,.int .i64 D,.string s,.string t] 28)=W):=⟨_,rfl⟩
 obtain⟨-,hB,bk,a6⟩:=h.m.boxed 18 A C D s t W HW.out;have o:=h.Vb a6;obtain⟨o0,o1,o2,o3,o4,o5,T⟩:=cQ hB;have bz:=ae o.m.blk;have d:=o.c16
 by_cases hL:f.length=0
 ·have HF:Hid (cM W b H w I f l):=o
  rw[hL]at d;clear h o hB;go_enter func11,ntmps11
  go_upto_region 1 with fail
  rw[HW.out];go_wp2;go_ret;exact⟨rfl,_,_,_,_,HF.out.more,rfl⟩
 ·have bj:=h.t.n
  have Y:Hid (∀O,Calls prog 12 #[.int .i64 A,.int .i64 f.length] O fun e w'=>e=.returned (.int .i64 (eG A f.length:Nat))/\w'=O):=fun O=>eQ A f.length O hA ⟨by omega,by omega⟩
  have aS:=fY A f.length (by omega);obtain⟨k,Hk⟩:∃k,Hid (eG A f.length=k):=⟨_,rfl⟩
  rw[Hk.out]at Y aS;have HM:Hid (cM W b H w I f l):=o;obtain⟨bo,F,L,Q,hk,⟨N,R,E,P⟩,hX,hO,bs⟩:=o.at_ aS;obtain⟨c,j,-⟩:=o.t.l k bo F L hk;rw[N]at d;have br:(k:Int)<(f.length:Int):=by omega
  have bg:(0:Int)<(f.length:Int):=by omega
  have a3:Hid _:=hk;have V:Hid _:=c;have a0:Hid _:=j
  by_cases y:L.length=0
  ·rw[y]at E
   clear h o hB hk c j N hX hO;go_enter func11,ntmps11
   go_upto_region 1 with fail
   rw[HW.out]
   go_upto_region 48 with fail
   go_quiet ((go_at_call 12;exact Rd (Y.out _)))
   have HF:Hid (cM (W.drewN nq) b H w I f l):=HM.out.Vb ((ab.refl [] _).drewN nq);go_wp2;go_ret;exact⟨rfl,_,_,_,_,HF.out.more,rfl⟩
  ·have ar:Hid (∀O,Calls prog 12 #[.int .i64 C,.int .i64 L.length] O fun e w'=>e=.returned (.int .i64 (eG C L.length:Nat))/\w'=O):=fun O=>eQ C L.length O hC ⟨by omega,by omega⟩
   have af:=fY C L.length (by omega);obtain⟨i,Hi⟩:∃i,Hid (eG C L.length=i):=⟨_,rfl⟩
   rw[Hi.out]at ar af
   obtain⟨a,rfl⟩:∃a,bo=some a:=by
    cases bo with
    | none=>rw[hX.nil.1 rfl]at y;exact absurd rfl y
    | some a=>exact⟨a,rfl⟩
   obtain⟨p,M⟩:∃p,F.ao=some ⟨p,0,none⟩:=by
    rcases hO.Vm with ⟨-,e2,-⟩ | ⟨g,a4,e1,-⟩
    ·exact absurd e2 y
    ·exact⟨g,e1⟩
   have u:Hid _:=M
   have S:a≠U.heap.size:=by
    intro e;have:=(Ix (some a) L).lt U (by have:=h.m.sep.all (12,k);rw[c]at this;exact this) a (Q9.2 rfl);omega
   have aT:p≠a:=by
    intro e;exact o.m.sep.far (13,k) (12,k) (bn (by decide)) p (by rw[j];show p∈F.blk.toList;unfold Hd.blk;rw[M];exact Q9.2 rfl) (by rw[c,e];exact Q9.2 rfl)
   have be:Hid _:=hB;replace E:W.cell? ⟨Q,k*2,none⟩=some (.slice (some ⟨a,0,none⟩) L.length L.length):=E;rw[M]at P;have bp:(i:Int)<(L.length:Int):=by omega
   have bl:(0:Int)<(L.length:Int):=by omega
   have ap:Hid _:=S
   have ag:Hid (Q≠a):=by
    intro e;exact o.m.sep.far (11,0) (12,k) (bn (by decide)) Q (by rw[o.t.r];show Q∈I.blk.toList;unfold Hd.blk;rw[N];exact Q9.2 rfl) (by rw[c,e];exact Q9.2 rfl)
   have a1:Hid (b≠a):=by
    intro e;exact o.m.sep.far (0,0) (12,k) (bn (by decide)) b (by rw[o.m.w0];exact Q9.2 rfl) (by rw[c,e];exact Q9.2 rfl)
   have v:Hid (∀x,ab [a] W x->(x.cell? ⟨U.heap.size,2,none⟩=some (.int .i64 C)/\x.cell? ⟨U.heap.size,4,none⟩=some (.string s)/\U.heap.size<x.heap.size)/\(x.cell? ⟨b,16,none⟩=some (.slice (some ⟨Q,0,none⟩) f.length I.cap)/\b<x.heap.size)/\x.cell? ⟨Q,k*2,none⟩=some (.slice (some ⟨a,0,none⟩) L.length L.length)/\x.cell? ⟨Q,k*2+1,none⟩=some (.slice (some ⟨p,0,none⟩) L.length F.cap)/\Q<x.heap.size):=fun x kw=>by
    have q:∀g i,g<W.heap.size->g≠a->x.cell? ⟨g,i,none⟩=W.cell? ⟨g,i,none⟩:=fun g i hg hn=>Q6 (kw.block g hg (by simp;exact hn))
    have z:=kw.size;exact⟨⟨by rw[q _ _ T (Ne.symm ap.out)];exact o2,by rw[q _ _ T (Ne.symm ap.out)];exact o4,by omega⟩,⟨by rw[q _ _ bz a1.out];exact d,by omega⟩,by rw[q _ _ R ag.out];exact E,by rw[q _ _ R ag.out];exact P,by omega⟩
   have bf:Hid (L.length<=F.cap):=by
    rcases hO.Vm with ⟨-,e2,-⟩ | ⟨g,a4,-,-,e3,-⟩
    ·exact absurd e2 y
    ·exact e3
   clear h o hB hk c j N hX hO S M aT;go_enter func11,ntmps11
   go_upto_region 1 with fail
   rw[HW.out]
   go_upto_region 48 with fail
   go_quiet ((go_at_call 12;exact Rd (Y.out _)))
   go_upto_region 50 with fail
   obtain⟨W2,ax⟩:∃W2,Hid (W.drewN nq=W2):=⟨_,rfl⟩
   rw[ax.out];have ai:Hid (ab [] W W2):=by show ab _ _ _;rw[<-ax.out];exact(ab.refl [] _).drewN nq
   clear o0 o1 o2 o3 o4 o5 T d bz E P R;obtain⟨⟨o2,o4,T⟩,⟨d,bz⟩,E,P,R⟩:=v.out W2 (ai.out.mono (by simp))
   go_quiet ((go_at_call 12;exact Rd (ar.out _)))
   go_upto_region 51 with fail
   obtain⟨K,az⟩:∃K,Hid (W2.drewN nq=K):=⟨_,rfl⟩
   rw[az.out];have X:Hid (ab [] W K):=by show ab _ _ _;rw[<-az.out];exact ai.out.drewN nq
   have an:Hid (cM K b H w I f l):=HM.out.Vb X.out;have J:Hid (vF K (some a) L):=by show vF _ _ _;have:=an.out.m.sep.all (12,k);rw[V.out]at this;exact this
   clear o2 o4 T d bz E P R;obtain⟨⟨o2,o4,T⟩,⟨d,bz⟩,E,P,R⟩:=v.out K (X.out.mono (by simp));have d0:K.cell? ⟨a,i,none⟩=some (.string L[i]):=by rw[aa (J.out.blk a rfl)];simp[cN,af]
   have df:=am (J.out.blk a rfl) i;have dz:=ae (J.out.blk a rfl);generalize L[i]=a7 at *
   go_region
   all_goals
    obtain⟨B,Z⟩:∃B,Hid ((K.setCell ⟨a,i,none⟩ (.string s)).drew=B):=⟨_,rfl⟩
    rw[Z.out];have al:Hid (ab [a] K B):=by show ab _ _ _;rw[<-Z.out];exact((ab.refl [a] _).setCell (Q1 (by simp)) _).drew
    have S4:Hid (nJ B (fk H (12,k) (Ix (some a) (L.set i s)))):=by
     show nJ _ _
     refine an.out.m.sep.put _ _ (by rw[V.out];exact al.out) ?_ (fun q hq=>Q1 (by rw[V.out];exact hq));rw[<-Z.out];exact(Ix _ _).ok [] _ _ (J.out.wrote s) (ab.refl [] _).drew (by simp)
    have ad:Hid (fk H (12,k) (Ix (some a) (L.set i s)) (13,k)=ce F (aB L)):=by show _=_;rw[aq _ _ (bn (by decide))];exact a0.out
    have G:Hid (aw B F (aB L)):=by show aw _ _ _;have:=S4.out.all (13,k);rw[ad.out]at this;exact this
    clear d0 df dz o2 o4 T d bz E P R;obtain⟨⟨o2,o4,T⟩,⟨d,bz⟩,E,P,R⟩:=v.out B ((X.out.mono (by simp)).trans al.out);have d0:B.cell? ⟨p,i,none⟩=some (.string L[i]):=G.out.cell u.out i _ (by simp[aB,cN,af]);have df:=Cz G.out u.out i;have dz:p<B.heap.size:=G.out.lt (by unfold Hd.blk;rw[u.out];rfl);generalize L[i]=bd at *
    go_upto_region 52 with fail
    go_region
    all_goals
     obtain⟨W5,ac⟩:∃W5,Hid ((B.setCell ⟨p,i,none⟩ (.string s)).drew=W5):=⟨_,rfl⟩
     rw[ac.out];have a2:Hid (ab [p] B W5):=by show ab _ _ _;rw[<-ac.out];exact((ab.refl [p] _).setCell (Q1 (by simp)) _).drew
     have S5:Hid (nJ W5 (fk (fk H (12,k) (Ix (some a) (L.set i s))) (13,k) (ce F (aB (L.set i s))))):=by
      show nJ _ _
      have a5:F.blk.toList=[p]:=by unfold Hd.blk;rw[u.out];rfl
      refine S4.out.put _ _ (by rw[ad.out];show ab F.blk.toList _ _;rw[a5];exact a2.out) ?_ (fun q hq=>Q1 (by rw[ad.out];exact hq));rw[<-ac.out];exact(ce _ _).ok [] _ _ (Mm G.out u.out s) (ab.refl [] _).drew (by simp)
     go_wp2;go_ret;exact⟨rfl,HM.out.wrote a3.out Rv S5.out⟩
theorem Pv(k:List Tx)(A C D:Int)(s t:ByteArray)(g:World)(h:cM g b H w I k l)(hV:w.V.length≠0)(hA:qB A)(hN:l<=1073741824) :
  Calls prog 9 #[.pointer (some ⟨b,0,none⟩),.agg #[.int .i64 12,.int .i64 A,.int .i64 C,.int .i64 D,.string s,.string t]] g fun e O=>qM b H l e O:=by
 obtain⟨W,P⟩:∃W,Hid (g.alloc (.cells #[.int .i64 12,.int .i64 A,.int .i64 C,.int .i64 D,.string s,.string t] 28)=W):=⟨_,rfl⟩
 obtain⟨K,J,af,q⟩:=h.m.boxed 12 A C D s t W P.out;have HT:Hid (cM W b H w I k l):=h.Vb q;obtain⟨r,u,T,U,X,Y,v⟩:=cQ J;have Z:Hid _:=(lq b l H w 12 A C D s t W K (by omega));have HS:Hid (gx W b g.heap.size H w l 12 A C D s t):=⟨K,J⟩;have ad:=h.m.len.1;have j:Hid (∀z,Calls prog 12 #[.int .i64 A,.int .i64 w.V.length] z fun e O=>e=.returned (.int .i64 (eG A w.V.length:Nat))/\O=z):=fun z=>eQ A w.V.length z hA ⟨by omega,by omega⟩
 have p:=fY A w.V.length (by omega);obtain⟨i,Hi⟩:∃i,Hid (eG A w.V.length=i):=⟨_,rfl⟩
 rw[Hi.out]at j p;have ac:((w.V.length:Int)==0)=false:=Rh.2 (by omega);have ag:(i:Int)<(w.V.length:Int):=by omega
 clear h K J q;go_enter func9,ntmps9
 go_upto_region 1 with fail
 rw[P.out]
 go_upto_region 2 with (go_at_call 11;refine QU Z.out ?_;rintro e y ⟨rfl,M⟩)
 have a:Hid (gx y b g.heap.size H w l 12 A C D s t):=HS.out.Vb M;have E:Hid (cM y b H w I k l):=HT.out.Vb M;clear r u T U X Y v M;obtain⟨r,u,-⟩:=cQ a.out.o;have v:=ae a.out.o;have G:y.cell? ⟨b,0,none⟩=some (.slice w.hx.ao w.V.length w.hx.cap):=by rw[aa a.out.m.blk];rfl
 have Q:=ae a.out.m.blk
 go_upto_region 4 with fail
 go_quiet ((go_at_call 12;exact Rd (j.out _)))
 go_upto_region 5 with fail
 obtain⟨f,d⟩:∃f,Hid (y.drewN nq=f):=⟨_,rfl⟩
 rw[d.out];have c:Hid (gx f b g.heap.size H w l 12 A C D s t):=a.out.Vb (by rw[<-d.out];exact(ab.refl [] _).drewN nq);have F:Hid (cM f b H w I k l):=E.out.Vb (by rw[<-d.out];exact(ab.refl [] _).drewN nq);clear r u v G Q;obtain⟨r,u,T,U,X,Y,v⟩:=cQ c.out.o;obtain⟨x,m,fs,hd,lo,hi,N,L,st,g1,g2,n,⟨R,z1,d1⟩,S,z2,d2⟩:=c.out.m.ver p;have G:f.cell? ⟨b,0,none⟩=some (.slice w.hx.ao w.V.length w.hx.cap):=by rw[aa c.out.m.blk];rfl
 have c1:f.cell? ⟨b,1,none⟩=some (.slice w.hm.ao w.V.length w.hm.cap):=by rw[aa c.out.m.blk];rfl
 rw[R]at G;rw[S]at c1;have Q:=ae c.out.m.blk;have B:Hid _:=wj b l H w I k i x m fs hd lo hi N L st s f F.out hN n;clear n R S;go_wp2_with (go_at_call 18;refine QU B.out ?_;rintro e w3 ⟨rfl,q1⟩);go_ret;exact⟨rfl,q1⟩
theorem Pw(K:List Tx)(A C:Int)(s t:ByteArray)(y:World)(h:cM y b H w I K l)(hV:w.V.length≠0)(hA:qB A)(hC:qB C)(hN:l<=1073741824) :
  Calls prog 9 #[.pointer (some ⟨b,0,none⟩),.agg #[.int .i64 19,.int .i64 A,.int .i64 C,.int .i64 12,.string s,.string t]] y fun e r=>qM b H l e r:=by
 obtain⟨W,HW⟩:∃W,Hid (y.alloc (.cells #[.int .i64 19,.int .i64 A,.int .i64 C,.int .i64 12,.string s,.string t] 28)=W):=⟨_,rfl⟩
 obtain⟨hM,hB,aS,P⟩:=h.m.boxed 19 A C 12 s t W HW.out;have HT:Hid (cM W b H w I K l):=h.Vb P;obtain⟨z,B,X,Y,Z,o5,D⟩:=cQ hB;have HL:Hid _:=(lq b l H w 19 A C 12 s t W hM (by omega));have HS:Hid (gx W b y.heap.size H w l 19 A C 12 s t):=⟨hM,hB⟩;have az:=h.m.len.1;have F:Hid (∀a,Calls prog 12 #[.int .i64 A,.int .i64 w.V.length] a fun e r=>e=.returned (.int .i64 (eG A w.V.length:Nat))/\r=a):=fun a=>eQ A w.V.length a hA ⟨by omega,by omega⟩
 have O:=fY A w.V.length (by omega);obtain⟨i,Hi⟩:∃i,Hid (eG A w.V.length=i):=⟨_,rfl⟩
 rw[Hi.out]at F O;have ax:((w.V.length:Int)==0)=false:=Rh.2 (by omega);have a2:(i:Int)<(w.V.length:Int):=by omega
 clear h hM hB P;go_enter func9,ntmps9
 go_upto_region 1 with fail
 rw[HW.out]
 go_upto_region 2 with (go_at_call 11;refine QU HL.out ?_;rintro e w1 ⟨rfl,k1⟩)
 have p:Hid (gx w1 b y.heap.size H w l 19 A C 12 s t):=HS.out.Vb k1;have al:Hid (cM w1 b H w I K l):=HT.out.Vb k1;clear z B X Y Z o5 D k1;obtain⟨z,B,-⟩:=cQ p.out.o;have D:=ae p.out.o;have U:w1.cell? ⟨b,0,none⟩=some (.slice w.hx.ao w.V.length w.hx.cap):=by rw[aa p.out.m.blk];rfl
 have bz:=ae p.out.m.blk
 go_upto_region 4 with fail
 go_quiet ((go_at_call 12;exact Rd (F.out _)))
 go_upto_region 5 with fail
 obtain⟨u,v⟩:∃u,Hid (w1.drewN nq=u):=⟨_,rfl⟩
 rw[v.out];have j:Hid (gx u b y.heap.size H w l 19 A C 12 s t):=p.out.Vb (by rw[<-v.out];exact(ab.refl [] _).drewN nq);have J:Hid (cM u b H w I K l):=al.out.Vb (by rw[<-v.out];exact(ab.refl [] _).drewN nq);clear z B D U bz;obtain⟨z,B,X,Y,Z,o5,D⟩:=cQ j.out.o;obtain⟨x,m,fs,hd,lo,hi,S,N,st,g1,g2,n,⟨e1,z1,d1⟩,M,z2,d2⟩:=j.out.m.ver O;have U:u.cell? ⟨b,0,none⟩=some (.slice w.hx.ao w.V.length w.hx.cap):=by rw[aa j.out.m.blk];rfl
 have c1:u.cell? ⟨b,1,none⟩=some (.slice w.hm.ao w.V.length w.hm.cap):=by rw[aa j.out.m.blk];rfl
 rw[e1]at U;rw[M]at c1;have bz:=ae j.out.m.blk;have ag:Hid _:=K0 m fs hd S N st u n.d n.st n.le n.ok;have ad:Hid (∀c a,ab [] u a->Calls prog 18 #[.pointer (some ⟨b,0,none⟩),.pointer (some ⟨x,0,none⟩),.pointer (some ⟨m,0,none⟩),.string c] a fun e r=>qM b H l e r):=fun c a k=>wj b l H w I K i x m fs hd lo hi S N st c a (J.out.Vb k) hN (n.Vb k)
 clear n e1 M
 go_upto_region 34 with (go_at_call 22;refine QU ag.out ?_;rintro e w3 ⟨L,h3,rfl,T,l3⟩)
 have E:Hid _:=T.kept;have ai:Hid (gx w3 b y.heap.size H w l 19 A C 12 s t):=j.out.Vb T.kept;have af:Hid (cm w3 h3.ao 6 jJ L):=aw.srcG (f:=jJ) T.own (fun _=>rfl)
 have a0:Hid (L.length<=h3.cap):=by
  rcases T.own.Vm with ⟨-,M,-⟩ | ⟨g,ap,-,-,e3,-⟩
  ·have M:L.length=0:=M
   show L.length<=_;omega
  ·exact e3
 clear z B X Y Z o5 D U c1 bz z1 d1 z2 d2 T;obtain⟨z,B,X,Y,Z,o5,D⟩:=cQ ai.out.o;obtain⟨an,aT⟩:=h3
 by_cases hL:L.length=0
 ·rw[hL]
  go_wp2;go_ret;exact⟨rfl,_,_,_,_,(J.out.Vb E.out).more,rfl⟩
 ·have ar:((L.length:Int)==0)=false:=Rh.2 (by omega)
  have G:Hid (∀a,Calls prog 12 #[.int .i64 C,.int .i64 L.length] a fun e r=>e=.returned (.int .i64 (eG C L.length:Nat))/\r=a):=fun a=>eQ C L.length a hC ⟨by omega,by omega⟩
  have Q:=fY C L.length (by omega);obtain⟨k,Hk⟩:∃k,Hid (eG C L.length=k):=⟨_,rfl⟩
  rw[Hk.out]at G Q;have a3:(k:Int)<(L.length:Int):=by omega
  obtain⟨g0,eg,a1,hc⟩:=af.out k _ (QP Q);replace eg:an=some ⟨g0,0,none⟩:=eg;subst eg;have r0:=hc 0 _ rfl;rw[Tg]at r0;clear hc;generalize L[k].label=c at *;have ac:Hid (∀a,ab [] w3 a->Calls prog 23 #[.pointer (some ⟨b,0,none⟩),.pointer (some ⟨x,0,none⟩),.pointer (some ⟨m,0,none⟩),.string c,.string s,.int .i64 12] a fun e r=>qM b H l e r):=fun a k=>Nb b x m c s a _ (ad.out c a (E.out.trans k))
  go_upto_region 37 with (go_at_call 12;refine QU (G.out _) ?_;rintro q w4 ⟨rfl,R⟩;rw[R];clear R)
  go_region_with (go_at_call 23;refine(ac.out _ (by exact(ab.refl [] _).drew)).mono ?_;rintro e w9 ⟨rfl,q9⟩)
  all_goals
   go_wp2;go_ret;exact⟨rfl,q9⟩
theorem JQ(y:List Tx)(o:pB)(f:World)(h:cM f b H w I y l)(n:l<=1073741824)(G:M3 o) :
  Calls prog 9 #[.pointer (some ⟨b,0,none⟩),.agg #[.int .i64 o.k,.int .i64 o.a,.int .i64 o.c,.int .i64 o.d,.string o.s,.string o.t]] f fun e v=>qM b H l e v:=by
 obtain⟨k,A,C,D,s,t⟩:=o;obtain⟨p,x,F,B,r,K⟩:=G;simp only at *;have i:=h.m;have j:∀{c:Calls prog 9 #[.pointer (some ⟨b,0,none⟩),.agg #[.int .i64 k,.int .i64 A,.int .i64 C,.int .i64 D,.string s,.string t]] f (fun e v=>iB b H w l true e v)},Calls prog 9 #[.pointer (some ⟨b,0,none⟩),.agg #[.int .i64 k,.int .i64 A,.int .i64 C,.int .i64 D,.string s,.string t]] f (fun e v=>qM b H l e v):=fun {c}=>c.mono (fun e v q=>h.up q)
 have z:k=1∨k=2∨k=3∨k=4∨k=5∨k=6∨k=7∨k=15∨k=16∨k=17∨k=18∨(k=8∨k=9∨k=10∨k=12∨(k=19/\D=12)):=by omega
 rcases z with rfl | rfl | rfl | rfl | rfl | rfl | rfl | rfl | rfl | rfl | rfl | E
 ·exact j (c:=iy b l H w _ A C D s t f i (fun W g=>Pa b l H w A C D s t W g n))
 ·exact j (c:=iy b l H w _ A C D s t f i (fun W g=>Pb b l H w A C D s t W g n B r))
 ·exact j (c:=iy b l H w _ A C D s t f i (fun W g=>Pc b l H w A C D s t W g))
 ·exact j (c:=iy b l H w _ A C D s t f i (fun W g=>Pd b l H w A C D s t W g n))
 ·exact j (c:=iy b l H w _ A C D s t f i (fun W g=>Pe b l H w A C D s t W g n))
 ·exact j (c:=iy b l H w _ A C D s t f i (fun W g=>Pf b l H w A C D s t W g n p x B r))
 ·exact j (c:=iy b l H w _ A C D s t f i (fun W g=>Pg b l H w A C D s t W g p x F))
 ·exact j (c:=iy b l H w _ A C D s t f i (fun W g=>NH b l H w A C D s t W g))
 ·exact j (c:=iy b l H w _ A C D s t f i (fun W g=>NI b l H w A C D s t W g))
 ·exact j (c:=iy b l H w _ A C D s t f i (fun W g=>NJ b l H w A C D s t W g h.q))
 ·exact JP b 18 A C D s t f _ (fun W J=>NK b l H w I y A C D s t W (h.Vb J) n p x)
 by_cases u:w.V.length=0
 ·exact j (c:=JT b l H w k A C D s t f i (by omega) u)
 ·rcases E with rfl | rfl | rfl | rfl | ⟨rfl,rfl⟩
  ·exact j (c:=Qj b l H w A C D s t f i u p x n)
  ·exact j (c:=Qk b l H w A C D s t f i u p n B r)
  ·exact j (c:=Pu b l H w A C D s t f i u p n)
  ·exact Pv b l H w I y A C D s t f h u p n
  ·exact Pw b l H w I y A C s t f h u p x n
def Qc(w0:World)(h:Hd)(L:List pB):It where
 B:=List.range w0.heap.size++h.blk.toList
 P w:=ab [] w0 w/\aw w h (ja L)
 lt w a q hq:=by
  rcases Rr.1 hq with e | e
  ·exact QX (Ra.1 e) a.1.size
  ·exact a.2.lt (aN e)
 ok S w w' a k hb:=by
  refine⟨⟨k.os.trans a.1.os,k.tape.trans a.1.tape,k.output.trans a.1.output,Q3 a.1.size k.size,fun q hq _=>?_⟩,a.2.Vg (fun q hq=>k.block q (a.2.lt hq) (hb q (Se _ (by rw[hq];simp))))⟩;rw[k.block q (QX hq a.1.size) (hb q (RN _ (Ra.2 hq)))];exact a.1.block q hq (by simp)
def QK:It where
 B:=[]
 P _:=True
 lt _ _ q hq:=by cases hq
 ok _ _ _ _ _ _:=trivial
def PE:Mc:=⟨⟨none,0⟩,⟨none,0⟩,⟨none,0⟩,⟨none,0⟩,⟨none,0⟩,[],[],[],0,0,0,0,⟨#[]⟩,0,0,⟨#[]⟩,0,0,.slice none 0 0,.slice none 0 0⟩
theorem LG{g:World}{d:List pB}(r:ab [] f L)(p:aw L S (ja d))(k:ab [] L g)(o:g.heap[L.heap.size]?=some (.cells PE.cells.toArray 42 (0,0))):∃I,cM g L.heap.size I PE ⟨none,0⟩ [] 0/\I (10,0)=Qc f S d:=by
 have s:nJ L (fk (fun _=>QK) (10,0) (Qc f S d)):=by
  refine⟨fun q=>?_,fun q B a b l n=>?_⟩
  ·by_cases e:q=(10,0)
   ·subst e;rw[bJ];exact⟨r,p⟩
   ·rw[aq _ _ e];exact trivial
  ·by_cases e:q=(10,0)
   ·subst e;rw[aq _ _ (Ne.symm a)]at n;cases n
   ·rw[aq _ _ e]at l;cases l
 have t:=s.put (0,0) (rB L.heap.size 42 PE.cells) (k.mono (by simp)) o (fun q a=>QV (by rw[Q9.1 a];exact QR _));have u:=t.put (1,0) (ce ⟨none,0⟩ (lB 46 [])) (ab.refl _ _) (QZ _ _ _ _) (fun q a=>by cases a);have v:=u.put (2,0) (ce ⟨none,0⟩ (lB 47 [])) (ab.refl _ _) (QZ _ _ _ _) (fun q a=>by cases a);have w:=v.put (3,0) (ce ⟨none,0⟩ (cr [])) (ab.refl _ _) (QZ _ _ _ _) (fun q a=>by cases a);have y:=w.put (4,0) (ce ⟨none,0⟩ (ig [])) (ab.refl _ _) (QZ _ _ _ _) (fun q a=>by cases a);have z:=y.put (5,0) (ce ⟨none,0⟩ (ig [])) (ab.refl _ _) (QZ _ _ _ _) (fun q a=>by cases a);have A:=z.put (11,0) (ce ⟨none,0⟩ (md [])) (ab.refl _ _) (QZ _ _ _ _) (fun q a=>by cases a);refine⟨_,⟨⟨A,?_,?_,?_,?_,?_,?_,(fun i x m h c=>by cases c),(fun i x m h c=>by cases c),(fun j=>⟨by show(0:Nat)<=_;omega,by show(0:Nat)<=_;omega⟩),⟨QR _,QR _,QR _⟩,⟨⟨by decide,by decide⟩,⟨by decide,by decide⟩,by decide,by decide⟩⟩,rfl,⟨rfl,bJ _ _ _,(fun i x m h c=>by cases c),QR _⟩⟩,?_⟩
 all_goals (simp only[fk];rfl)
theorem Hj:(Instr.build 42 #[]).run prog y=.ok (.agg PE.cells.toArray) y :=
 run_build y 42 _ _ (by kernel_rfl)
theorem MO(L:List pB)(w:World)(S:ab [] y w)(R:aw w I (ja L))(hL:L.length<=1073741824)(t:∀i,i<L.length->M3 (lT L i)) :
  Calls prog 8 #[.slice I.ao L.length I.cap] w fun e w'=>e=.returned (.int .i64 (-1))/\ab [] y w':=by
 obtain⟨h,a⟩:=I;obtain⟨W,x⟩:∃W,Hid (w.alloc (.cells PE.cells.toArray 42)=W):=⟨_,rfl⟩
 obtain⟨I0,r,p⟩:=LG S R (show ab [] w W by rw[<-x.out];exact(ab.refl [] _).alloc _) (by rw[<-x.out];exact QS _ _);have C:Hid (∃b M l c,cM W w.heap.size b M l c 0/\b (10,0)=Qc y ⟨h,a⟩ L):=⟨_,_,_,_,r,p⟩;have E:Hid _:=t;have bw:=Hj;have N:Hid (PE.cells.toArray=#[.slice none 0 0,.slice none 0 0,.slice none 0 0,.slice none 0 0,.slice none 0 0,.int .i64 0,.int .i64 0,.int .i64 0,.int .i64 0,.string ⟨#[]⟩,.int .i64 0,.int .i64 0,.string ⟨#[]⟩,.int .i64 0,.int .i64 0,.slice none 0 0,.slice none 0 0]):=rfl;rw[N.out]at x;simp only[N.out]at bw;clear r p t R S;go_enter func8,ntmps8
 go_upto_region 2 with fail
 rw[x.out];go_wp2
 go_loopg [4] L.length (fun g i wr=>∃k:Nat,k<=L.length/\g=L.length-k/\i=.int .i64 k/\Hid (∃b M l c,cM wr w.heap.size b M l c k/\b (10,0)=Qc y ⟨h,a⟩ L))
 case atStart=>exact⟨0,by omega,rfl,rfl,C⟩
 case round =>
  obtain⟨k,hk,hg,rfl,B⟩:=hrel;obtain⟨b,M,l,c,A,z⟩:=B.out;have U:Hid _:=z;have u:=A.m.sep.all (10,0);rw[z]at u
  by_cases s:k<L.length
  ·have ad:(k:Int)<(L.length:Int):=by omega
   obtain⟨Q,H,ac,j⟩:=(aw.srcG (f:=Kj) u.2 (fun _=>rfl)) k _ (lU L k s);have c0:=j 0 _ rfl;have c1:=j 1 _ rfl;have c2:=j 2 _ rfl;have c3:=j 3 _ rfl;have c4:=j 4 _ rfl;have c5:=j 5 _ rfl;have F:Hid _:=(JQ w.heap.size k b M l c (lT L k) wr A (by omega) (E.out k s));generalize lT L k=o at *;rw[Tg]at c0;replace H:h=some ⟨Q,0,none⟩:=H;subst H;clear A z u j B
   go_upto_region 6 with (go_at_call 9;refine QU F.out ?_;rintro e T ⟨rfl,O,P,v,n,d,q⟩)
   have X:Hid _:=(IK w.heap.size (k+1) O P v n T d (by omega));have D:Hid (∃b M l c,cM T w.heap.size b M l c (k+1)/\b (10,0)=Qc y ⟨some ⟨Q,0,none⟩,a⟩ L):=⟨O,P,v,n,d,q.trans U.out⟩;clear d q;go_wp2_with (go_at_call 10;refine QU X.out ?_;rintro e w2 ⟨rfl,k2⟩)
   go_roundg (L.length-(k+1))
   case measure=>omega
   case rel =>
    obtain⟨Y,Z,K,G,h2,J⟩:=D.out;exact⟨k+1,by omega,rfl,by go_num,Y,Z,K,G,h2.Vb k2,J⟩
  ·have af:¬(k:Int)<(L.length:Int):=by omega
   have V:Hid _:=u.1;clear A z u B;go_wp2;go_ret;exact⟨rfl,V.out⟩
theorem Ja{L:List pB}{o:pB}{p:pB->Prop}(h:∀i,i<L.length->p (lT L i))(b:p o):∀i,i<(L++[o]).length->p (lT (L++[o]) i):=by
 intro i a;rw[Q0]at a;replace a:i<L.length+1:=a;unfold lT;rw[QQ]
 by_cases e:i<L.length
 ·have:=h i e
  unfold lT at this;rw[QQ]at this;rw[Q7 e];exact this
 ·rw[Q5 (by omega),show i-L.length=0 by omega];exact b
def AU(K:List Int)(k:Int)(q:Nat):Bool:=((decide (1<=k)&&decide (k<=10))||(decide (15<=k)&&decide (k<=18)))||(K.take q).any (fun x=>k==x)
theorem wy(h:z5<1∨(10<z5/\z5<15)∨18<z5):AU yd z5 0=false:=by
 unfold AU;rw[Tq,List.any_nil,Sz];simp
 omega
theorem Cc(h:(1<=z5/\z5<=10)∨(15<=z5/\z5<=18))(q:Nat):AU yd z5 q=true:=by
 unfold AU;have:((decide (1<=z5)&&decide (z5<=10))||(decide (15<=z5)&&decide (z5<=18)))=true:=by simp;omega
 rw[this];rfl
theorem Lr(K:List Int)(k:Int)(q:Nat)(h:q<K.length):AU K k (q+1)=(AU K k q||(k==K[q])):=by
 unfold AU;rw[Td,QP h,UW,<-TF];simp
theorem Nz(h:AU yd z5 n=true):((1<=z5/\z5<=10)∨(15<=z5/\z5<=18))∨z5∈yd:=by
 unfold AU at h;rw[RB]at h
 rcases h with h | h
 ·left;simp at h;omega
 ·right
  obtain⟨x,a,b⟩:=RC.1 h;rw[TR b];exact Tb a
def xD(w:World)(ka:Option Addr)(K:List Int):Prop:=∀q (hq:q<K.length),∃kb,ka=some ⟨kb,0,none⟩/\kb<w.heap.size/\w.cell? ⟨kb,q,none⟩=some (.int .i64 K[q])
theorem xD.Vb(h:xD f yt yd)(k:ab [] f L):xD L yt yd:=fun q b=>by
 obtain⟨a,e,z,c⟩:=h q b;exact⟨a,e,QX z k.size,by rw[Q6 (k.block a z (by simp))];exact c⟩
theorem xD.of(h:f.heap[n]?=some (.cells (yd.map (Value.int .i64)).toArray 3 (0,0))):xD f (some ⟨n,0,none⟩) yd:=fun q a=>⟨n,rfl,ae h,by rw[aa h];simp[a]⟩
theorem Jh(l:List pB)(K:List Int)(T:Option Addr)(w:World)(hl:l.length<=140737488351232)(hi:mx w zt l)(ho:∀o∈l,AZ o)(H:xD w T K)(ar:K.length<=100)(hK:∀o∈l,o.k∈K->o.k=12∨(o.k=19/\o.d=12)) :
  Calls prog 5 #[.slice zt l.length ya,.slice T K.length K.length] w fun e w'=>e=.returned (.bool true)/\ab [] w w':=by
 have ad:Hid _:=Fh zt ya l w hl hi ho;have HI:Hid (mx w zt l):=hi;have HO:Hid _:=ho;have U:Hid (xD w T K):=H;have V:Hid _:=hK;obtain⟨iX,an,O,P,Q⟩:=Re Lv;clear hi ho H hK;go_enter func5,ntmps5
 go_upto_region 2 with (go_at_call 7;refine QU ad.out ?_;rintro e w1 ⟨⟨r,rfl,hr⟩,k1⟩)
 have C:Hid _:=k1;have HR:Hid _:=hr;clear k1 hr
 cases r
 ·go_wp2
  go_ret;exact⟨rfl,C.out⟩
 ·obtain⟨aT,J⟩:=HR.out rfl
  have af:Hid _:=J;have X:Hid (gw w w1 ⟨none,0⟩ (ja [])):=⟨QZ _ _ _ _,(by intro k hk;cases hk),C.out⟩;clear J HR;go_wp2
  go_loopg [6,7] l.length (fun g lv iv wr=>∃(k:Nat) (v:Hd) (L:List pB),k<=l.length/\g=l.length-k/\lv=.slice v.ao L.length v.cap/\iv=.int .i64 k/\L.length<=k/\Hid (∀i,i<L.length->M3 (lT L i))/\Hid (gw w wr v (ja L)))
  case atStart=>exact⟨0,⟨none,0⟩,[],by omega,rfl,rfl,rfl,by simp,(fun i h=>by cases h),X⟩
  case round =>
   obtain⟨k,v,L,hk,hg,rfl,rfl,ax,u,t⟩:=hrel
   by_cases z:k<l.length
   ·have aS:(k:Int)<(l.length:Int):=by omega
    obtain⟨b,a4,rfl,hb,x⟩:=(mx.Vb HI.out t.out.kept) k _ (lU l k z);have m:=R4 (lU l k z);have G:=HO.out (lT l k) m;have I:=V.out (lT l k) m;have c0:=x 0 _ rfl;have c1:=x 1 _ rfl;have c2:=x 2 _ rfl;have c3:=x 3 _ rfl;have c4:=x 4 _ rfl;have c5:=x 5 _ rfl;rw[Tg]at c0;have N:=af.out k z;have s:Hid _:=G;have E:Hid _:=N;have W:Hid _:=I;have ac:Hid (xD wr T K):=xD.Vb U.out t.out.kept;generalize lT l k=o at *;clear x G N I m;have ai:=t.out.own;have al:Hid ((ja L).n<=4294967296):=by show L.length<=_;omega
    have D:Hid ((ja L).n=L.length):=rfl
    have B:Hid (AU K o.k K.length=true->M3 o):=fun q=>⟨s.out.a,s.out.c,s.out.d,E.out.1,E.out.2,by
     rcases Nz q with q | q
     ·omega
     ·have:=W.out q;omega⟩
    have y:(o.k<1/\Hid (AU K o.k 0=false))∨((10<o.k/\o.k<15)/\Hid (AU K o.k 0=false))∨(18<o.k/\Hid (AU K o.k 0=false))∨((1<=o.k/\o.k<=10)/\Hid (AU K o.k 0=true))∨((15<=o.k/\o.k<=18)/\Hid (AU K o.k 0=true)):=by
     by_cases z1:o.k<1
     ·exact Q1 ⟨z1,wy (Q1 z1)⟩
     ·by_cases z2:o.k<=10
      ·exact QV (QV (QV (Q1 ⟨⟨by omega,z2⟩,Cc (Q1 ⟨by omega,z2⟩) 0⟩)))
      ·by_cases z3:o.k<15
       ·exact QV (Q1 ⟨⟨by omega,z3⟩,wy (QV (Q1 ⟨by omega,z3⟩))⟩)
       ·by_cases z4:o.k<=18
        ·exact QV (QV (QV (QV ⟨⟨by omega,z4⟩,Cc (QV ⟨by omega,z4⟩) 0⟩)))
        ·exact QV (QV (Q1 ⟨by omega,wy (QV (QV (by omega)))⟩))
    rcases y with ⟨R,f⟩ | ⟨⟨R,h2⟩,f⟩ | ⟨R,f⟩ | ⟨⟨R,h2⟩,f⟩ | ⟨⟨R,h2⟩,f⟩
    all_goals
     go_wp2
     go_loopg [9,10] K.length (fun g a j w2=>∃q:Nat,q<=K.length/\g=K.length-q/\a=.bool (AU K o.k q)/\j=.int .i64 q/\wr=w2)
     case atStart=>exact⟨0,by omega,rfl,congrArg Value.bool (by rw[f.out] <;> simp <;> omega),rfl,rfl⟩
     case round =>
      obtain⟨q,hq,az,rfl,rfl,rfl⟩:=hrel
      by_cases M:q<K.length
      ·have a1:(q:Int)<(K.length:Int):=by omega
       obtain⟨kb,rfl,a3,cq⟩:=ac.out q M;have p:Hid _:=Lr K o.k q M;generalize K[q]=kq at *
       cases S:AU K o.k q
       ·rw[S,Sp]at p
        go_wp2
        go_roundg (K.length-(q+1))
        case measure=>omega
        case rel=>exact⟨q+1,by omega,rfl,congrArg Value.bool p.out.symm,by go_num,rfl⟩
       ·rw[S,Ts]at p
        go_wp2
        go_roundg (K.length-(q+1))
        case measure=>omega
        case rel=>exact⟨q+1,by omega,rfl,congrArg Value.bool p.out.symm,by go_num,rfl⟩
      ·have ap:q=K.length:=by omega
       subst ap;have a2:¬(K.length:Int)<(K.length:Int):=by omega
       cases S:AU K o.k K.length
       ·go_wp2
        go_roundg (l.length-(k+1))
        case measure=>omega
        case rel=>exact⟨k+1,v,L,by omega,rfl,rfl,by go_num,by omega,u,t⟩
       ·have Z:Hid _:=B.out S
        go_wp2_with (at_builtin;refine cZ wr rfl (.tmp 57) (.tmp 62) 22 rfl iX (.agg #[.int .i64 0,.int .i64 0,.int .i64 0,.int .i64 0,.string ⟨#[]⟩,.string ⟨#[]⟩]) 64 v (ja L) (Kj o) underlying22 an O P Q rfl (show 0<6 by omega) (by rw[D.out];simp[Act.eval]) ai al.out (by omega) (by simp[Act.eval]) rfl (Aq o) ?_;intro h5 w5 A F;rw[ja,gM]at A;have Y:Hid _:=t.out.Vl F A;clear A F)
        go_roundg (l.length-(k+1))
        case measure=>omega
        case rel=>exact⟨k+1,h5,L++[o],by omega,rfl,by rw[D.out,Q0];rfl,by go_num,by rw[Q0];show _+1<=_;omega,Ja u.out Z.out,Y⟩
   ·have a0:¬(k:Int)<(l.length:Int):=by omega
    have ag:Hid _:=(MO w v L wr t.out.kept t.out.own (by omega) u.out);go_wp2_with (go_at_call 8;refine QU ag.out ?_;rintro e w5 ⟨rfl,k5⟩);go_ret;exact⟨rfl,k5⟩
theorem nk{P:Program}{k:Array Oper}{d:List Oper}{o:Oper}{a:Act}{Q:Exit->Act->World->Prop}(L:o.guard=none)(s x:Operand)(t:TypeId)(w:o.op=Op.call { callee:=Callee.builtin Builtin.append,args:=#[s,x],argTypes:=#[t,t] })(i:TypeInfo)(z:Value)(c:Nat)(h:Hd)(r:dN)(b:List Value)(B:P.underlying t=some (.slice r.e))(C:P.info? r.e=some i)(D:i.zero=some z)(E:i.size=r.size)(F:i.bytes=c)(G:z.cells.size=r.size)(H:0<r.size)(O:a.eval s=.slice h.ao r.n h.cap)(f:aw y h r)(V:r.n+1<=140737488355328)(J:(r.n+1)*c<=140737488355328)(R:a.eval x=.slice (some ⟨y.heap.size,0,none⟩) 1 1)(W:b.length=r.size)(p:∀u∈b,u.oneCell'=true)(I:∀m l,aw l m ⟨r.e,r.size,r.n+1,r.xs++b⟩->bt y l h m->wpList P k Q d (a.put o.dst (.slice m.ao (r.n+1) m.cap)) l) :
  wpList P k Q (o :: d) a (y.alloc (.cells b.toArray r.e)):=by
 have A:ab [] y (y.alloc (.cells b.toArray r.e)):=(ab.refl [] _).alloc _;have N:(y.alloc (.cells b.toArray r.e)).heap[y.heap.size]?=some (.cells b.toArray r.e (0,0)):=QS _ _;obtain⟨v,l,g,S,T⟩:=pE (P:=P) (y.alloc (.cells b.toArray r.e)) t o.type i z c h r B C D E F G H (f.Vb A) (some ⟨y.heap.size,0,none⟩) 1 1 b (by omega) (fun e=>by cases e) (fun U e j u M=>by cases e;rw[bL,aa N];simpa using M) p (by unfold maxLen;omega) J;refine wpList_plain L fun K q=>?_
 unfold Oper.wp;simp[execOp,w,resolve,invoke,builtin,O,R,g,Result.andThen];exact q _ _ (I v l S ((bt.Vb A).trans T))
def pj(d:Int)(o:pB):pB:=if o.k=19 then { o with d:=d } else o
theorem LP(d:List pB)(w:World)(hl:d.length*64<=140737488351232)(hi:mx w zt d) :
  Calls prog 6 #[.slice zt d.length l,.int .i64 a] w fun e w'=>∃i,e=.returned (.slice i.ao d.length i.cap)/\gw w w' i (ja (d.map (pj a))):=by
 have HI:Hid (mx w zt d):=hi;obtain⟨iX,I,q,r,u⟩:=Re Lv;have O:Hid (gw w w ⟨none,0⟩ (ja [])):=⟨QZ _ _ _ _,(by intro k hk;cases hk),ab.refl _ _⟩;clear hi;go_enter func6,ntmps6;go_wp2
 go_loopg [5,6] d.length (fun g lv iv wr=>∃(k:Nat) (i:Hd) (L:List pB),k<=d.length/\g=d.length-k/\lv=.slice i.ao L.length i.cap/\iv=.int .i64 k/\L.length=k/\Hid (L=(d.take k).map (pj a))/\Hid (gw w wr i (ja L)))
 case atStart=>exact⟨0,⟨none,0⟩,[],by omega,rfl,rfl,rfl,rfl,rfl,O⟩
 case round =>
  obtain⟨k,i,L,hk,hg,rfl,rfl,A,N,K⟩:=hrel
  by_cases J:k<d.length
  ·have ad:(k:Int)<(d.length:Int):=by omega
   obtain⟨b,ag,rfl,hb,D⟩:=(mx.Vb HI.out K.out.kept) k _ (lU d k J)
   have m:Hid (L++[pj a (lT d k)]=(d.take (k+1)).map (pj a)):=by
    show _=_
    rw[Td,lU d k J,Ry,<-N.out];rfl
   have c0:=D 0 _ rfl;have c1:=D 1 _ rfl;have c2:=D 2 _ rfl;have c3:=D 3 _ rfl;have c4:=D 4 _ rfl;have c5:=D 5 _ rfl;rw[Tg]at c0;generalize lT d k=o at *;clear D;have C:(ja L).n=L.length:=rfl;have E:Hid ((ja L).n=L.length):=C;have G:Hid ((ja L).n+1<=140737488355328):=by show(ja L).n+1<=_;rw[C];omega
   have H:Hid (((ja L).n+1)*64<=140737488355328):=by show((ja L).n+1)*64<=_;rw[C];omega
   obtain⟨X,M⟩:∃X,Hid (wr.alloc (.cells #[.int .i64 o.k,.int .i64 o.a,.int .i64 o.c,.int .i64 o.d,.string o.s,.string o.t] 28)=X):=⟨_,rfl⟩
   have F:Hid (ab [] wr X):=by show ab _ _ _;rw[<-M.out];exact(ab.refl [] _).alloc _
   have p:Hid (X.heap[wr.heap.size]?=some (.cells #[.int .i64 o.k,.int .i64 o.a,.int .i64 o.c,.int .i64 o.d,.string o.s,.string o.t] 28 (0,0))):=by show _=_;rw[<-M.out];exact QS _ _
   cases z:(o.k==19)
   ·have x:Hid (pj a o=o):=by show _=_;unfold pj;rw[QT (fun e=>by rw[e]at z;cases z)]
    rw[x.out]at m;obtain⟨S,T,U,V,W,Z,y⟩:=cQ p.out;have f:Hid _:=K.out.Vb F.out;have B:=f.out.own
    go_upto_region 6 with fail
    rw[M.out];go_wp2_with (at_builtin;refine nk X rfl (.tmp 23) (.tmp 25) 22 rfl iX (.agg #[.int .i64 0,.int .i64 0,.int .i64 0,.int .i64 0,.string ⟨#[]⟩,.string ⟨#[]⟩]) 64 i (ja L) (Kj o) underlying22 I q r u rfl (show 0<6 by omega) (by rw[E.out];simp[Act.eval]) B G.out H.out (by simp[Act.eval]) rfl (Aq o) ?_;intro h5 w5 h j;rw[ja,gM]at h;have v:Hid _:=f.out.Vl j h;clear h j)
    go_roundg (d.length-(k+1))
    case measure=>omega
    case rel=>exact⟨k+1,h5,L++[o],by omega,rfl,by rw[Q0,A];rfl,by go_num,by rw[Q0];show _+1=_;omega,m,v⟩
   ·have x:Hid (pj a o={ o with d:=a }):=by show _=_;unfold pj;rw[QW (TR z)]
    rw[x.out]at m;obtain⟨Y,P⟩:∃Y,Hid (X.setCell ⟨wr.heap.size,3,none⟩ (.int .i64 a)=Y):=⟨_,rfl⟩
    have R:Hid (ab [] wr Y):=by show ab _ _ _;rw[<-P.out];exact F.out.setCell (QV (QR _)) _
    have Q:Hid (Y.heap[wr.heap.size]?=some (.cells #[.int .i64 o.k,.int .i64 o.a,.int .i64 o.c,.int .i64 a,.string o.s,.string o.t] 28 (0,0))):=by show _=_;rw[<-P.out,ah p.out 3 _];rfl
    obtain⟨S,T,U,V,W,Z,y⟩:=cQ p.out;have bf:=am p.out 3;have f:Hid _:=K.out.Vb R.out;have B:=f.out.own
    go_upto_region 6 with fail
    rw[M.out]
    go_upto_region 8 with fail
    rw[P.out];clear S T U V W Z y bf;obtain⟨S,T,U,V,W,Z,y⟩:=cQ Q.out;go_wp2_with (at_builtin;refine nk Y rfl (.tmp 23) (.tmp 25) 22 rfl iX (.agg #[.int .i64 0,.int .i64 0,.int .i64 0,.int .i64 0,.string ⟨#[]⟩,.string ⟨#[]⟩]) 64 i (ja L) (Kj { o with d:=a }) underlying22 I q r u rfl (show 0<6 by omega) (by rw[E.out];simp[Act.eval]) B G.out H.out (by simp[Act.eval]) rfl (Aq _) ?_;intro h5 w5 h j;rw[ja,gM]at h;have v:Hid _:=f.out.Vl j h;clear h j)
    go_roundg (d.length-(k+1))
    case measure=>omega
    case rel=>exact⟨k+1,h5,L++[(⟨o.k,o.a,o.c,a,o.s,o.t⟩:pB)],by omega,rfl,by rw[Q0,A];rfl,by go_num,by rw[Q0];show _+1=_;omega,m,v⟩
  ·have e:k=d.length:=by omega
   subst e;have af:¬(d.length:Int)<(d.length:Int):=by omega
   rw[RK]at N;have ac:Hid (L.length=d.length):=A;go_wp2;go_ret;exact⟨i,rfl,by rw[<-N.out];exact K.out⟩
theorem aw.opsIn{l:List pB}(o:aw f S (ja l)):mx f S.ao l:=fun i x c=>by
 obtain⟨g,e,b,a⟩:=(aw.srcG (f:=Kj) o (fun _=>rfl)) i x c;exact⟨g,0,e,b,fun j u d=>by rw[SJ];exact a j u d⟩
theorem LO(b:qB z5){o:pB}(h:AZ o):AZ (pj z5 o):=by
 unfold pj
 split
 ·exact⟨h.k,h.a,h.c,b,h.s,h.t⟩
 ·exact h
theorem Eh(l:List pB)(w:World)(u:l.length*64<=140737488351232)(m:mx w zt l)(n:∀o∈l,AZ o) :
  Calls prog 4 #[.slice zt l.length ya] w fun e i=>e=.returned (.bool true)/\ab [] w i:=by
 have f:Hid _:=LP zt ya 12 l w u m;have r:Hid _:=n;clear m n;go_enter func4,ntmps4
 go_upto_region 2 with (go_at_call 6;refine QU f.out ?_;rintro e c ⟨b,rfl,j⟩)
 have d:Hid _:=j.kept
 have g:Hid (Calls prog 5 #[.slice b.ao l.length b.cap,.slice (some ⟨c.heap.size,0,none⟩) 2 2] (c.alloc (.cells #[.int .i64 12,.int .i64 19] 3)) fun e i=>e=.returned (.bool true)/\ab [] (c.alloc (.cells #[.int .i64 12,.int .i64 19] 3)) i):=by
  have:=Jh b.ao b.cap (l.map (pj 12)) [12,19] (some ⟨c.heap.size,0,none⟩) (c.alloc (.cells #[.int .i64 12,.int .i64 19] 3)) (by rw[Ri];omega) (j.own.opsIn.Vb ((ab.refl [] _).alloc _)) (fun o h=>by
   obtain⟨q,p,rfl⟩:=Si.1 h;exact LO ⟨by decide,by decide⟩ (r.out q p)) (xD.of (QS _ _)) (by decide) (fun o h a=>by
   obtain⟨q,p,rfl⟩:=Si.1 h;simp only[List.mem_cons,List.not_mem_nil,or_false]at a
   rcases a with a | a
   ·exact Q1 a
   ·refine QV ⟨a,?_⟩
    unfold pj at a ⊢
    by_cases e:q.k=19
    ·rw[QW e]
    ·rw[QT e]at a;exact absurd a e)
  rw[Ri]at this;exact this
 clear j;obtain⟨s,t⟩:=b;go_wp2_with (go_at_call 5;refine QU g.out ?_;rintro e x ⟨rfl,v⟩);go_ret;exact⟨rfl,(d.out.alloc _).trans v⟩
section
open Go.ChangeShapes Go.WideShapes Go.ChangeAt Go.RowKit
theorem own:ownKnob prog.godebug=none:=by kernel_rfl
theorem NG:laidOutB prog=true:=by kernel_rfl
theorem OP:prog.bytesOf 28=64:=by kernel_rfl
theorem KR:prog.cellsOf 28=6:=by kernel_rfl
theorem zK:prog.cellsOf 3=1:=by kernel_rfl
theorem F7:prog.cellsOf 9=1:=by kernel_rfl
theorem uO:prog.underlying 28=some (.struct (prog.fieldsOf 28)):=by kernel_rfl
theorem Nn:(prog.fieldsOf 28).toList.map (fun f=>(f.type,f.offset))=[(3,0),(3,1),(3,2),(3,3),(9,4),(9,5)]:=by kernel_rfl
theorem tT(h:[(3,0),(3,1),(3,2),(3,3),(9,4),(9,5)][b]?=some (l,ya)):∃f,(prog.fieldsOf 28)[b]?=some f/\f.type=l/\f.offset=ya:=by
 rw[<-Nn,List.getElem?_map,Array.getElem?_toList]at h
 cases e:(prog.fieldsOf 28)[b]? with
 | none=>rw[e]at h;cases h
 | some f=>rw[e]at h;simp at h;exact⟨f,rfl,h.1,h.2⟩
theorem Qh:(prog.fieldsOf 28).size=6:=by kernel_rfl
theorem FF{H:Type}(P:Program)(e:TypeId){L:List (DataW H)}{d:DataW H}(b:d∈L)(c:n∈DataW.weights P e d):n∈DataW.weightsAll P e L:=by
 induction L with
 | nil=>cases b
 | cons a r f =>
  rw[DataW.weightsAll,List.mem_append]
  rcases List.mem_cons.1 b with rfl | h
  ·exact Or.inl c
  ·exact Or.inr (f h)
theorem FY:(⟨b,l,none⟩:Addr).add ya=⟨b,l+ya,none⟩:=by
 simp only[Addr.add]
 split
 ·next h=>subst h;rfl
 ·rfl
theorem NR{H:Type}{v:TypeId×Value->H}{i:List Value}{x:DataW H×List MemPlace}(h:DataW.trod v prog f 0 (fun _=>true) true n 28 i=some x) :
  ∃o:pB,i=Kj o/\(qB o.k/\qB o.a/\qB o.c/\qB o.d)/\o.s.data.toList.length∈DataW.weights prog 28 x.1/\o.t.data.toList.length∈DataW.weights prog 28 x.1:=by
 obtain⟨xs,m,-,rfl,e,g,b⟩:=DataW.trod_struct uO h;rw[KR]at e;rw[Qh]at g
 match i,e,xs,g with
 | [v0,v1,v2,v3,v4,v5],_,[y0,y1,y2,y3,y4,y5],_ =>
  obtain⟨Q,K,t0,q0⟩:=tT 0 _ _ rfl;obtain⟨R,L,t1,q1⟩:=tT 1 _ _ rfl;obtain⟨S,M,t2,q2⟩:=tT 2 _ _ rfl;obtain⟨T,N,t3,q3⟩:=tT 3 _ _ rfl;obtain⟨U,O,t4,q4⟩:=tT 4 _ _ rfl;obtain⟨V,P,t5,q5⟩:=tT 5 _ _ rfl;have D:=b 0 Q K;have E:=b 1 R L;have F:=b 2 S M;have G:=b 3 T N;have I:=b 4 U O;have J:=b 5 V P;rw[t0,q0,zK]at D;rw[t1,q1,zK]at E;rw[t2,q2,zK]at F;rw[t3,q3,zK]at G;rw[t4,q4,F7]at I;rw[t5,q5,F7]at J;obtain⟨W,w,j,w0⟩:=DataW.trod_int underlying3 D;obtain⟨X,y,l,w1⟩:=DataW.trod_int underlying3 E;obtain⟨Y,z,p,w2⟩:=DataW.trod_int underlying3 F;obtain⟨Z,A,q,w3⟩:=DataW.trod_int underlying3 G;obtain⟨s4,B,r,-⟩:=DataW.trod_string underlying9 I;obtain⟨s5,C,u,-⟩:=DataW.trod_string underlying9 J;simp at w y z A B C j l p q r u;refine⟨⟨W,X,Y,Z,s4,s5⟩,?_,⟨bounds_i64 w0,bounds_i64 w1,bounds_i64 w2,bounds_i64 w3⟩,?_,?_⟩
  ·rw[w,y,z,A,B,C];rfl
  ·rw[j,l,p,q,r,u]
   simp[DataW.weights,DataW.weightsEach]
  ·rw[j,l,p,q,r,u]
   simp[DataW.weights,DataW.weightsEach]
theorem Pn{H:Type}{I:TypeId×Value->H}{P:DataW H}{p0:List MemPlace}{O:List TypeId}{N:List (DataW H)}(X:DataW.Trod I prog f 0 (fun _=>true) true 22 (.slice yt n x) P p0)(z:(DataW.weightsEach prog O N).all (·<=reachBytes)=true)(S:O[0]?=some 22)(R:N[0]?=some P) :
  ∃l:List pB,l.length=n/\n*64<=140737488351232/\(∀o∈l,AZ o)/\mx f yt l:=by
 obtain⟨Q,hf⟩:=X
 rcases Go.Deep.open_slice underlying22 hf with ⟨d,_⟩ | ⟨a,af,U,m,ag,D,Pl,d,-,ac,Z,hm,T,v⟩
 ·simp[Value.cells]at d
  obtain⟨rfl,rfl,rfl⟩:=d;exact⟨[],rfl,by omega,(fun o y=>by cases y),fun i o c=>by cases c⟩
 ·simp[Value.cells]at d
  obtain⟨rfl,rfl,rfl⟩:=d;simp only[if_true]at hm;have ad:n<=m:=by omega
  simp only[Prod.mk.injEq]at T;obtain⟨rfl,-⟩:=T;have A:=sized_slice z (j:=0) S R underlying22;rw[OP]at A;simp only[List.length_map,List.length_range,reachBytes]at A
  have g:∀i,i<n->∃o:pB,AZ o/\∀(j:Nat) u,(Kj o)[j]?=some u->f.cell? ((a.add (i*6)).add j)=some u:=fun i c=>by
   obtain⟨cs,E,Y⟩:=v i (by omega);rw[KR]at E;obtain⟨-,hl,F⟩:=World.cells?_some E;obtain⟨o,y,⟨r0,r1,r2,r3⟩,V,W⟩:=NR Y
   have t:∀q,q∈DataW.weights prog 28 (D i)->q<=140737488351232:=fun q hq=>by
    have L:q∈DataW.weights prog 22 (.slice ((List.range n).map D) ((List.range (m-n)).map fun j=>D (n+j)):DataW H):=by
     simp only[DataW.weights,underlying22];exact List.mem_cons_of_mem _ (List.mem_append_left _ (FF prog _ (List.mem_map.2 ⟨i,List.mem_range.2 c,rfl⟩) hq))
    have:=List.all_eq_true.1 z _ (DataW.weights_mem_each (j:=0) S R _ L);have s:q<=reachBytes:=by simpa using this
    simpa only [reachBytes] using s
   refine⟨o,⟨r0,r1,r2,r3,t _ V,t _ W⟩,fun j u G=>?_⟩;have K:j<6:=(List.getElem?_eq_some_iff.1 G).1;rw[F j K,y];exact G
  have k:Nonempty pB:=⟨⟨0,0,0,0,⟨#[]⟩,⟨#[]⟩⟩⟩
  have J:∃C:Nat->pB,∀i,i<n->AZ (C i)/\∀(j:Nat) u,(Kj (C i))[j]?=some u->f.cell? ((a.add (i*6)).add j)=some u:=by
   classical
   refine⟨fun i=>if c:i<n then Classical.choose (g i c) else Classical.choice k,fun i c=>?_⟩;simp only[dif_pos c];exact Classical.choose_spec (g i c)
  obtain⟨C,p⟩:=J;refine⟨(List.range n).map C,by simp,by omega,fun o y=>?_,fun i o c=>?_⟩
  ·obtain⟨i,E,rfl⟩:=List.mem_map.1 y
   exact(p i (List.mem_range.1 E)).1
  ·rw[List.getElem?_map]at c
   have w:i<n:=by
    rcases Nat.lt_or_ge i n with h | h
    ·exact h
    ·rw[List.getElem?_eq_none (by simp;exact h)]at c;cases c
   rw[List.getElem?_range w]at c
   cases c
   have F:=(p i w).2;obtain⟨b,M,B⟩:=a;have e:=F 0 _ rfl;have r:B=none:=by simpa [Addr.add] using World.cell?_spot ((p 0 (by omega)).2 0 _ rfl)
   subst r;refine⟨b,M,rfl,?_,fun j u G=>?_⟩
   ·rw[FY,FY]at e
    unfold World.cell? at e
    split at e
    ·next hh=>exact ae hh
    ·cases e
   ·have:=F j u G
    rw[FY,FY]at this;exact this
end
end Go.Proofs.YtpddjjabfbfifaaGreat
