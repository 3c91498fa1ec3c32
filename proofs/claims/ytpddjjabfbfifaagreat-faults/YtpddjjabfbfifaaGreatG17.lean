import Derived.Test.YtpddjjabfbfifaaGreatRows
import Derived.Deep.Slices
import Derived.ProofKit
import Derived.OpenShut
import Derived.ShutString
import Derived.ChangeOld
import Derived.Below
import Derived.SizedLaws
import Derived.Test.YtpddjjabfbfifaaGreatG16
namespace Go.Proofs.YtpddjjabfbfifaaGreat
open Go.RowKit Go.Proofs.Tryz
set_option maxHeartbeats 0
variable{f g:World}{y zb:Hd}{T v S t c y6 y8 yr ys yf:Nat}{yy yv:ByteArray}{z0 y7:Fs}{s yg:Option Nat}{D:Nat×Nat->It}{a:Mc}{z5:Int}{yt:Option Addr}{z6:List ByteArray}{yd:List Int}(b:Nat)(zt:Option Addr)(l:Nat)(H:Nat×Nat->It)(w:Mc)(y9 i N L:Int)(ya:Nat)(I M:ByteArray)(d:World)(yu:World->Prop)(m:Hd)
theorem zc{L:List Nat}(o:aw f y (lB T L)){k x:Nat}(c:L[k]?=some x):∃g,y.ao=some ⟨g,0,none⟩/\g<f.heap.size/\f.cell? ⟨g,k,none⟩=some (NY x):=by
 have i:=(Q8.1 c).1
 rcases o.Vm with ⟨_,b,_⟩ | ⟨g,d,a,e,h,-⟩
 ·have b:L.length=0:=b
  omega
 ·exact⟨g,a,ae e,o.cell a k (NY x) (by show(L.map NY)[k]?=_;rw[Rq,c];rfl)⟩
theorem KU(h:cJ yy yv=0):yv.size<=1024:=by
 unfold cJ at h
 split at h
 ·cases h
 ·split at h
  ·cases h
  ·omega
theorem Pq(h:zw z0)(n d:ByteArray):zw (fc z0 n d).2:=by
 unfold fc
 split
 ·exact h
 ·next c =>
  have b:=KU (Decidable.not_not.1 c)
  split
  ·intro j a
   rw[Rv]at a;have:=h j a;unfold ak at *;rw[QQ]at *;rw[RU]
   split
   ·split
    ·exact b
    ·show(0:Nat)<=_;omega
   ·exact this
  ·split
   ·exact h
   ·intro j a
    rw[Q0]at a;replace a:j<z0.length+1:=a;unfold ak;rw[QQ]
    by_cases e:j<z0.length
    ·have:=h j e
     unfold ak at this;rw[QQ]at this;rw[Q7 e];exact this
    ·rw[Q5 (by omega),show j-z0.length=0 by omega];exact b
theorem LF(h:zw z0)(a:Fs):zw (jt z0 a):=by
 unfold jt
 split
 ·next e=>exact(NL e).2
 ·exact h
theorem bZ.both{m p o:Nat}(b:bZ f T D a v)(z:a.V[S]?=some (t,c,z0))(G:D (6,S)=O6 t z0 y6 y8 s)(H:D (7,S)=O4 c y z0 yr ys s)(L:dE g t y7 yf m yg)(K:dn g c y7 zb p o yg)(P:nH f.heap.size y6 y8 yf m)(Q:nH f.heap.size yr ys p o)(I:∀q,zb.blk=some q->y.blk=some q∨f.heap.size<=q)(J:∀q,q∈t :: ie yf m->q∉c :: (zb.blk.toList++ie p o))(k:ab ([t]++c :: y.blk.toList) f g)(A:zw y7):∃B C,bZ g T B C (v+1)/\rh D a B C:=by
 have R:=b.sep.put2 (6,S) (7,S) (bn (by decide)) (O6 t y7 yf m yg) (O4 c zb y7 p o yg) (by
  rw[G,H];refine k.mono (fun q w _=>?_)
  rcases Rr.1 w with e | e
  ·exact RN _ (by rw[Q9.1 e];exact Rn)
  ·refine Se _ ?_
   rcases Rj.1 e with e | e
   ·rw[e];exact Rn
   ·exact Rm _ (RN _ e)) L K (fun q w=>by
  rw[G]
  rcases Rj.1 w with e | e
  ·exact Q1 (by rw[e];exact Rn)
  ·rcases P.mem e with d | d
   ·exact Q1 (Rm _ d)
   ·exact QV d) (fun q w=>by
  rw[H]
  rcases Rj.1 w with e | e
  ·exact Q1 (by rw[e];exact Rn)
  ·rcases Rr.1 e with e | e
   ·rcases I q (aN e) with d | d
    ·exact Q1 (Rm _ (RN _ (by rw[d];simp)))
    ·exact QV d
   ·rcases Q.mem e with d | d
    ·exact Q1 (Rm _ (Se _ d))
    ·exact QV d) J
 have E:∀u:Nat×Nat×Fs->Nat,u (t,c,y7)=u (t,c,z0)->(a.V.set S (t,c,y7)).map u=a.V.map u:=fun u A=>by
  rw[Tn,A]
  apply Sq
  intro j;rw[RU]
  by_cases F:S=j
  ·subst F
   have:=(Q8.1 z).1;rw[QW rfl,Rq,z];simp[this]
  ·rw[QT F]
 refine⟨_,{ a with V:=a.V.set S (t,c,y7) },⟨R,?_,?_,?_,?_,?_,?_,?_,?_,?_,?_,?_⟩,?_⟩
 ·rw[aq _ _ (bn (by decide)),aq _ _ (bn (by decide)),b.w0];unfold Mc.cells;rw[Rv]
 ·rw[aq _ _ (bn (by decide)),aq _ _ (bn (by decide)),E _ rfl];exact b.x
 ·rw[aq _ _ (bn (by decide)),aq _ _ (bn (by decide)),E _ rfl];exact b.m
 ·simp only[fk];exact b.r
 ·simp only[fk];exact b.ls
 ·simp only[fk];exact b.lw
 ·intro j x n i h
  replace h:(a.V.set S (t,c,y7))[j]?=some (x,n,i):=h;rw[RU]at h;rw[aq _ _ (bn (by decide))]
  by_cases e:S=j
  ·subst e
   rw[QW rfl,QW (Q8.1 z).1]at h
   cases h
   rw[bJ,bJ];exact⟨⟨_,_,_,_,_,_,rfl,rfl⟩,A⟩
  ·rw[QT e]at h
   rw[aq _ _ (rC (Ne.symm e)),aq _ _ (rC (Ne.symm e)),aq _ _ (bn (by decide))];exact b.v j x n i h
 ·intro j x n i h
  simp only[fk];exact b.more.l j x n i h
 ·exact b.fit
 ·obtain⟨M,N,O⟩:=b.more.len
  exact⟨by show(a.V.set S (t,c,y7)).length<=_;rw[Rv];exact M,N,O⟩
 ·exact b.rng
 ·exact⟨fun j S h=>by(repeat rw[oY (by decide) h]),rfl,rfl⟩
set_option maxRecDepth 100000
theorem iy(h:bZ d b H w l)(j:∀W,bZ W b H w l->Calls prog 11 #[.pointer (some ⟨b,0,none⟩),.agg #[.int .i64 y9,.int .i64 i,.int .i64 N,.int .i64 L,.string I,.string M]] W fun e a=>iB b H w l true e a) :
  Calls prog 9 #[.pointer (some ⟨b,0,none⟩),.agg #[.int .i64 y9,.int .i64 i,.int .i64 N,.int .i64 L,.string I,.string M]] d fun e a=>iB b H w l true e a:=by
 obtain⟨W,c⟩:∃W,Hid (d.alloc (.cells #[.int .i64 y9,.int .i64 i,.int .i64 N,.int .i64 L,.string I,.string M] 28)=W):=⟨_,rfl⟩
 obtain⟨g,f,n,-⟩:=h.boxed y9 i N L I M W c.out;obtain⟨o,p,q,r,s,t,u⟩:=cQ f;have k:Hid _:=j W g;clear h g f j;go_enter func9,ntmps9
 go_upto_region 1 with fail
 rw[c.out];go_wp2_with (go_at_call 11;refine QU k.out ?_;rintro e v ⟨rfl,m⟩);go_ret;exact⟨rfl,m⟩
structure gx(W:World)(b B:Nat)(I:Nat×Nat->It)(M:Mc)(N:Nat)(k A C D:Int)(s t:ByteArray):Prop where
 m:bZ W b I M N
 o:W.heap[B]?=some (.cells #[.int .i64 k,.int .i64 A,.int .i64 C,.int .i64 D,.string s,.string t] 28 (0,0))
theorem gx.Vb{A C b:Int}(c:gx f T v D a S z5 A C b yy yv)(h:ab [] f g):gx g T v D a S z5 A C b yy yv:=⟨c.m.Vb h,h.get c.o (by simp)⟩
theorem JT(h:bZ d b H w l)(j:(8<=y9/\y9<=14)∨19<=y9)(p:w.V.length=0) :
  Calls prog 9 #[.pointer (some ⟨b,0,none⟩),.agg #[.int .i64 y9,.int .i64 i,.int .i64 N,.int .i64 L,.string I,.string M]] d fun e s=>iB b H w l true e s:=by
 obtain⟨W,f⟩:∃W,Hid (d.alloc (.cells #[.int .i64 y9,.int .i64 i,.int .i64 N,.int .i64 L,.string I,.string M] 28)=W):=⟨_,rfl⟩
 obtain⟨c,g,q,-⟩:=h.boxed y9 i N L I M W f.out;obtain⟨u,v,x,y,z,A,B⟩:=cQ g;have m:Hid _:=lq b l H w y9 i N L I M W c j;have n:Hid (bZ W b H w l):=c;clear h c g j;go_enter func9,ntmps9
 go_upto_region 1 with fail
 rw[f.out]
 go_upto_region 2 with (go_at_call 11;refine QU m.out ?_;rintro e k ⟨rfl,r⟩)
 have a:Hid (bZ k b H w l):=n.out.Vb r;have o:k.cell? ⟨b,0,none⟩=some (.slice w.hx.ao w.V.length w.hx.cap):=by rw[aa a.out.blk];rfl
 rw[p]at o;have t:=ae a.out.blk;go_wp2;go_ret;exact⟨rfl,_,_,a.out.more,rh.refl _ _⟩
theorem Gh(b:∀q,q∈v :: ie t c->q∉S :: (y.blk.toList++ie y6 y8))(g:∀q,q∈v :: ie t c->q<T)(f:∀q,zb.blk=some q->y.blk=some q∨T<=q):∀q,q∈v :: ie t c->q∉S :: (zb.blk.toList++ie y6 y8):=fun q a h=>by
 rcases Rj.1 h with e | e
 ·exact b q a (by rw[e];exact Rn)
 ·rcases Rr.1 e with e | e
  ·rcases f q (aN e) with d | d
   ·exact b q a (Rm _ (RN _ (by rw[d];simp)))
   ·have:=g q a;omega
  ·exact b q a (Rm _ (Se _ e))
structure pb(w:World)(I:Nat×Nat->It)(M:Mc)(i x m:Nat)(fs:Fs)(h:Hd)(lo hi lo2 hi2:Nat)(st:Option Nat):Prop where
 v:M.V[i]?=some (x,m,fs)
 i6:I (6,i)=O6 x fs lo hi st
 i7:I (7,i)=O4 m h fs lo2 hi2 st
 ok:zw fs
 p:dE w x fs lo hi st
 d:dn w m fs h lo2 hi2 st
 far:∀q,q∈x :: ie lo hi->q∉m :: (h.blk.toList++ie lo2 hi2)
theorem pb.le(b:pb f D a T v S z0 y t c y6 y8 s):z0.length<=4:=by
 obtain⟨e,g,h,i,r⟩:=b.d.anyS;exact r.le
theorem pb.st(b:pb f D a T v S z0 y t c y6 y8 s)(k:Nat)(e:s=some k):k<z0.length/\((fE z0 k).1==0)=true:=by
 subst e;exact b.p.s.1
theorem pb.Vb(b:pb f D a T v S z0 y t c y6 y8 s)(k:ab [] f g):pb g D a T v S z0 y t c y6 y8 s:={ b with p:=b.p.Vb k,d:=b.d.Vb k }
theorem bZ.ver(d:bZ f T D a v)(i:S<a.V.length) :
  ∃x m j h r i c b s e g,pb f D a S x m j h r i c b s/\(a.hx.ao=some ⟨e,0,none⟩/\e<f.heap.size/\f.cell? ⟨e,S,none⟩=some (.pointer (some ⟨x,0,none⟩)))/\(a.hm.ao=some ⟨g,0,none⟩/\g<f.heap.size/\f.cell? ⟨g,S,none⟩=some (.pointer (some ⟨m,0,none⟩))):=by
 obtain⟨⟨x,m,j⟩,l⟩:∃y,a.V[S]?=some y:=⟨a.V[S],QP i⟩
 obtain⟨⟨s,h,r,i,c,b,n,o⟩,p⟩:=d.v S x m j l;obtain⟨e,A,F,w⟩:=zc d.ownX (k:=S) (x:=x) (by rw[Rq,l];rfl);obtain⟨g,B,G,z⟩:=zc d.ownM (k:=S) (x:=m) (by rw[Rq,l];rfl);have t:=d.sep.all (6,S);have u:=d.sep.all (7,S);rw[n]at t;rw[o]at u;exact⟨x,m,j,h,r,i,c,b,s,e,g,⟨l,n,o,p,t,u,fun q E C=>d.sep.far (6,S) (7,S) (bn (by decide)) q (by rw[n];exact E) (by rw[o];exact C)⟩,⟨A,F,w⟩,B,G,z⟩
theorem Pu(h:bZ d b H w l)(hV:w.V.length≠0)(hA:qB i)(hN:l<=1073741824) :
  Calls prog 9 #[.pointer (some ⟨b,0,none⟩),.agg #[.int .i64 10,.int .i64 i,.int .i64 N,.int .i64 L,.string I,.string M]] d fun e G=>iB b H w l true e G:=by
 obtain⟨W,K⟩:∃W,Hid (d.alloc (.cells #[.int .i64 10,.int .i64 i,.int .i64 N,.int .i64 L,.string I,.string M] 28)=W):=⟨_,rfl⟩
 obtain⟨C,B,af,-⟩:=h.boxed 10 i N L I M W K.out;obtain⟨s,t,S,T,U,X,u⟩:=cQ B;have Y:Hid _:=(lq b l H w 10 i N L I M W C (by omega));have Z:Hid (gx W b d.heap.size H w l 10 i N L I M):=⟨C,B⟩;have ad:=h.len.1;have k:Hid (∀y,Calls prog 12 #[.int .i64 i,.int .i64 w.V.length] y fun e G=>e=.returned (.int .i64 (eG i w.V.length:Nat))/\G=y):=fun y=>eQ i w.V.length y hA ⟨by omega,by omega⟩
 have r:=fY i w.V.length (by omega);obtain⟨E,Hi⟩:∃E,Hid (eG i w.V.length=E):=⟨_,rfl⟩
 rw[Hi.out]at k r;have ac:((w.V.length:Int)==0)=false:=Rh.2 (by omega);have ag:(E:Int)<(w.V.length:Int):=by omega
 clear h C B;go_enter func9,ntmps9
 go_upto_region 1 with fail
 rw[K.out]
 go_upto_region 2 with (go_at_call 11;refine QU Y.out ?_;rintro e J ⟨rfl,R⟩)
 have f:Hid (gx J b d.heap.size H w l 10 i N L I M):=Z.out.Vb R;clear s t S T U X u R;obtain⟨s,t,-⟩:=cQ f.out.o;have u:=ae f.out.o;have A:J.cell? ⟨b,0,none⟩=some (.slice w.hx.ao w.V.length w.hx.cap):=by rw[aa f.out.m.blk];rfl
 have O:=ae f.out.m.blk
 go_upto_region 4 with fail
 go_quiet ((go_at_call 12;exact Rd (k.out _)))
 go_upto_region 5 with fail
 obtain⟨j,n⟩:∃j,Hid (J.drewN nq=j):=⟨_,rfl⟩
 rw[n.out];have a:Hid (gx j b d.heap.size H w l 10 i N L I M):=f.out.Vb (by rw[<-n.out];exact(ab.refl [] _).drewN nq);clear s t u A O;obtain⟨s,t,S,T,U,X,u⟩:=cQ a.out.o;obtain⟨x,m,fs,hd,lo,hi,F,D,st,g1,g2,c,⟨P,z1,d1⟩,Q,z2,d2⟩:=a.out.m.ver r;have A:j.cell? ⟨b,0,none⟩=some (.slice w.hx.ao w.V.length w.hx.cap):=by rw[aa a.out.m.blk];rfl
 have c1:j.cell? ⟨b,1,none⟩=some (.slice w.hm.ao w.V.length w.hm.cap):=by rw[aa a.out.m.blk];rfl
 rw[P]at A;rw[Q]at c1;have O:=ae a.out.m.blk;have z:Hid _:=AN x m fs hd lo hi F D st I j c.p c.d c.ok c.far;have g:Hid _:=c;clear c P Q;go_wp2_with (go_at_call 16;refine QU z.out ?_;rintro e w3 ⟨rfl,⟨ai,l1,u1,l3,u3,q1,q2,q3,q4,q5⟩,q6⟩);go_ret;exact⟨rfl,a.out.m.both g.out.v g.out.i6 g.out.i7 q1 q3 q2 q4 (fun q hq=>Q1 hq) q5 q6 g.out.ok⟩
theorem Qk(h:bZ d b H w l)(hV:w.V.length≠0)(hA:qB i)(hN:l<=1073741824)(hs:I.size<=1073741824)(ht:M.size<=1073741824) :
  Calls prog 9 #[.pointer (some ⟨b,0,none⟩),.agg #[.int .i64 9,.int .i64 i,.int .i64 N,.int .i64 L,.string I,.string M]] d fun e w'=>iB b H w l true e w':=by
 obtain⟨W,HW⟩:∃W,Hid (d.alloc (.cells #[.int .i64 9,.int .i64 i,.int .i64 N,.int .i64 L,.string I,.string M] 28)=W):=⟨_,rfl⟩
 obtain⟨hM,hB,az,-⟩:=h.boxed 9 i N L I M W HW.out;obtain⟨P,Q,o2,o3,U,X,A⟩:=cQ hB;have HL:Hid _:=(lq b l H w 9 i N L I M W hM (by omega));have HS:Hid (gx W b d.heap.size H w l 9 i N L I M):=⟨hM,hB⟩;have ax:=h.len.1;have E:Hid (∀wx,Calls prog 12 #[.int .i64 i,.int .i64 w.V.length] wx fun e w'=>e=.returned (.int .i64 (eG i w.V.length:Nat))/\w'=wx):=fun wx=>eQ i w.V.length wx hA ⟨by omega,by omega⟩
 have J:=fY i w.V.length (by omega);obtain⟨T,Hi⟩:∃T,Hid (eG i w.V.length=T):=⟨_,rfl⟩
 rw[Hi.out]at E J;have ar:((w.V.length:Int)==0)=false:=Rh.2 (by omega);have aS:(T:Int)<(w.V.length:Int):=by omega
 have ad:Hid (bZ d b H w l):=h;clear h hM hB;go_enter func9,ntmps9
 go_upto_region 1 with fail
 rw[HW.out]
 go_upto_region 2 with (go_at_call 11;refine QU HL.out ?_;rintro e w1 ⟨rfl,k1⟩)
 have g:Hid (gx w1 b d.heap.size H w l 9 i N L I M):=HS.out.Vb k1;clear P Q o2 o3 U X A k1;obtain⟨P,Q,-⟩:=cQ g.out.o;have A:=ae g.out.o;have S:w1.cell? ⟨b,0,none⟩=some (.slice w.hx.ao w.V.length w.hx.cap):=by rw[aa g.out.m.blk];rfl
 have bz:=ae g.out.m.blk
 go_upto_region 4 with fail
 go_quiet ((go_at_call 12;exact Rd (E.out _)))
 go_upto_region 5 with fail
 obtain⟨u,G⟩:∃u,Hid (w1.drewN nq=u):=⟨_,rfl⟩
 rw[G.out];have c:Hid (gx u b d.heap.size H w l 9 i N L I M):=g.out.Vb (by rw[<-G.out];exact(ab.refl [] _).drewN nq);clear P Q A S bz;obtain⟨P,Q,o2,o3,U,X,A⟩:=cQ c.out.o;obtain⟨x,m,t,y,lo,hi,n,k,R,g1,g2,j,⟨e1,z1,d1⟩,e2,z2,d2⟩:=c.out.m.ver J;have S:u.cell? ⟨b,0,none⟩=some (.slice w.hx.ao w.V.length w.hx.cap):=by rw[aa c.out.m.blk];rfl
 have c1:u.cell? ⟨b,1,none⟩=some (.slice w.hm.ao w.V.length w.hm.cap):=by rw[aa c.out.m.blk];rfl
 rw[e1]at S;rw[e2]at c1;have bz:=ae c.out.m.blk;have F:Hid _:=(NW x I M t lo hi R u j.p hs (by omega));have C:Hid (∀s,dn s m t y n k R->Calls prog 15 #[.pointer (some ⟨m,0,none⟩),.string I,.string M] s _):=fun s hr=>Ni m I M t y n k R s hr hs (by omega)
 have D:Hid (zw (fc t I M).2):=Pq j.ok I M;have a:Hid _:=j;have ac:Hid _:=c.out.o
 have ai:Hid (x≠d.heap.size):=fun e=>by
  have p:=ad.out.sep.all (6,T);rw[j.i6]at p;have:=dE.lt p x Rn;omega
 generalize mb (fc t I M).1 R=an at *;generalize fc t I M=pf at *;obtain⟨r,al⟩:=pf;simp only at F C D;clear j e1 e2
 go_upto_region 18 with (go_at_call 14;refine QU F.out ?_;rintro e s ⟨rfl,Y,Z⟩)
 have af:Hid (dn s m t y n k R):=a.out.d.kept Z (fun q f K=>a.out.far x Rn (by rw[<-Q9.1 K];exact f));have ag:Hid (dE s x al lo hi an):=Y;have B:Hid _:=Z;have B3:=Z.get ac.out (by simp;exact fun e=>ai.out e.symm);clear P Q o2 o3 U X A S c1 bz z1 d1 z2 d2 Y Z;obtain⟨-,-,-,-,U,X,A⟩:=cQ B3;clear B3;go_wp2_with (go_at_call 15;refine QU (C.out s af.out) ?_;rintro e w4 ⟨rfl,h',Y,q4,q5⟩);go_ret;have O:∀q,h'.blk=some q->y.blk=some q∨u.heap.size<=q:=fun q f=>(q5 q f).elim Q1 (fun z=>QV (Q3 B.out.size z))
 have ap:∀q,q∈m :: y.blk.toList->q∈m :: (y.blk.toList++ie n k):=fun q f=>by
  rcases Rj.1 f with e | e
  ·rw[e];exact Rn
  ·exact Rm _ (RN _ e)
 refine⟨rfl,c.out.m.both a.out.v a.out.i6 a.out.i7 (ag.out.kept q4 (fun q f K=>a.out.far q f (ap q K))) Y (Q1 ⟨rfl,rfl⟩) (Q1 ⟨rfl,rfl⟩) O (fun q f K=>?_) ((B.out.mono (fun q f _=>RN _ f)).trans (q4.mono (fun q f _=>Se _ f))) D.out⟩;exact Gh a.out.far (a.out.p.lt) O q f K
theorem bZ.loads(i:bZ f T D a v)(F:v<=1073741824){o n e:Nat}{u:Option Nat}(V:pb f D a S c y6 z0 y y8 yr ys yf s)(C:a.L[t]?=some (yg,u,y7))(j:o+n+e<=y7.length) :
  Calls prog 13 #[.pointer (some ⟨c,0,none⟩),.pointer (some ⟨y6,0,none⟩),.slice (wD yg) y7.length y7.length,.int .i64 o,.int .i64 n,.int .i64 e] f fun r E=>Dy f c y6 y y8 yr ys yf (mb (dy ((y7.drop o).take n)) s) (jt z0 ((y7.drop o).take n)) r E:=by
 obtain⟨k,-,g,B⟩:=i.l t yg u y7 C;have m:=i.sep.all (8,t);rw[k]at m
 cases yg with
 | none =>
  have h:=iG.nil m rfl;subst h;have w:o=0:=by simp at j;omega
  have x:n=0:=by simp at j;omega
  have z:e=0:=by simp at j;omega
  subst w x z;exact Ey c y6 z0 y y8 yr ys yf s f V.p V.d V.far
 | some b =>
  have A:b∉c :: ie y8 yr:=by have:=i.sep.far (8,t) (6,S) (bn (by decide)) b (by rw[k];exact Q9.2 rfl);rw[V.i6]at this;exact this
  have q:b∉y6 :: (y.blk.toList++ie ys yf):=by have:=i.sep.far (8,t) (7,S) (bn (by decide)) b (by rw[k];exact Q9.2 rfl);rw[V.i7]at this;exact this
  exact Cm c y6 b o n e z0 y7 y y8 yr ys yf s f V.p V.d (iG.blk m b rfl) V.far (fun e=>A (by rw[e];exact Rn)) (fun e=>q (by rw[e];exact Rn)) (fun e=>q (Rm _ (RN _ (by rw[e];simp)))) j (by omega) g
theorem Qj(h:bZ d b H w l)(hV:w.V.length≠0)(hA:qB i)(hC:qB N)(hN:l<=1073741824) :
  Calls prog 9 #[.pointer (some ⟨b,0,none⟩),.agg #[.int .i64 8,.int .i64 i,.int .i64 N,.int .i64 L,.string I,.string M]] d fun e y=>iB b H w l true e y:=by
 obtain⟨W,HW⟩:∃W,Hid (d.alloc (.cells #[.int .i64 8,.int .i64 i,.int .i64 N,.int .i64 L,.string I,.string M] 28)=W):=⟨_,rfl⟩
 obtain⟨hM,hB,ap,-⟩:=h.boxed 8 i N L I M W HW.out;obtain⟨X,Y,o2,o3,o4,o5,Z⟩:=cQ hB;have HL:Hid _:=(lq b l H w 8 i N L I M W hM (by omega));have HS:Hid (gx W b d.heap.size H w l 8 i N L I M):=⟨hM,hB⟩;have an:=h.len.1;have G:Hid (∀f,Calls prog 12 #[.int .i64 i,.int .i64 w.V.length] f fun e y=>e=.returned (.int .i64 (eG i w.V.length:Nat))/\y=f):=fun f=>eQ i w.V.length f hA ⟨by omega,by omega⟩
 have Q:=fY i w.V.length (by omega);obtain⟨T,Hi⟩:∃T,Hid (eG i w.V.length=T):=⟨_,rfl⟩
 rw[Hi.out]at G Q;have al:((w.V.length:Int)==0)=false:=Rh.2 (by omega);have ax:(T:Int)<(w.V.length:Int):=by omega
 clear h hM hB;go_enter func9,ntmps9
 go_upto_region 1 with fail
 rw[HW.out]
 go_upto_region 2 with (go_at_call 11;refine QU HL.out ?_;rintro e w1 ⟨rfl,k1⟩)
 have u:Hid (gx w1 b d.heap.size H w l 8 i N L I M):=HS.out.Vb k1;clear X Y o2 o3 o4 o5 Z k1;obtain⟨X,Y,-⟩:=cQ u.out.o;have Z:=ae u.out.o;have c0:w1.cell? ⟨b,0,none⟩=some (.slice w.hx.ao w.V.length w.hx.cap):=by rw[aa u.out.m.blk];rfl
 have bz:=ae u.out.m.blk
 go_upto_region 4 with fail
 go_quiet ((go_at_call 12;exact Rd (G.out _)))
 go_upto_region 5 with fail
 obtain⟨z,K⟩:∃z,Hid (w1.drewN nq=z):=⟨_,rfl⟩
 rw[K.out];have c:Hid (gx z b d.heap.size H w l 8 i N L I M):=u.out.Vb (by rw[<-K.out];exact(ab.refl [] _).drewN nq);clear X Y Z c0 bz;obtain⟨X,Y,o2,o3,o4,o5,Z⟩:=cQ c.out.o;obtain⟨x,m,fs,hd,lo,hi,U,P,st,g1,g2,B,⟨e1,z1,d1⟩,e2,z2,d2⟩:=c.out.m.ver Q;have c0:z.cell? ⟨b,0,none⟩=some (.slice w.hx.ao w.V.length w.hx.cap):=by rw[aa c.out.m.blk];rfl
 have c1:z.cell? ⟨b,1,none⟩=some (.slice w.hm.ao w.V.length w.hm.cap):=by rw[aa c.out.m.blk];rfl
 rw[e1]at c0;rw[e2]at c1;have bz:=ae c.out.m.blk;have ad:Hid _:=B;have c3:z.cell? ⟨b,3,none⟩=some (.slice w.hl.ao w.L.length w.hl.cap):=by rw[aa c.out.m.blk];rfl
 by_cases hL:w.L.length=0
 ·rw[hL]at c3
  clear B e1 e2;go_wp2;go_ret;exact⟨rfl,_,_,c.out.m.more,rh.refl _ _⟩
 ·have ai:=c.out.m.len.2.2
  have J:Hid (∀f,Calls prog 12 #[.int .i64 N,.int .i64 w.L.length] f fun e y=>e=.returned (.int .i64 (eG N w.L.length:Nat))/\y=f):=fun f=>eQ N w.L.length f hC ⟨by omega,by omega⟩
  have S:=fY N w.L.length (by omega);obtain⟨k,Hk⟩:∃k,Hid (eG N w.L.length=k):=⟨_,rfl⟩
  rw[Hk.out]at J S;obtain⟨⟨la,lc,j⟩,R⟩:∃x,w.L[k]?=some x:=⟨w.L[k],QP S⟩
  obtain⟨-,-,-,ar⟩:=c.out.m.l k la lc j R;obtain⟨gl,O,gz,gc⟩:=n8 c.out.m.ownL (k:=k) (x:=(la,j)) (by rw[Rq,R];rfl);replace gc:z.cell? ⟨gl,k,none⟩=some (.slice (wD la) j.length j.length):=gc;rw[O]at c3;have az:(k:Int)<(w.L.length:Int):=by omega
  have ag:((w.L.length:Int)==0)=false:=Rh.2 (by omega);have af:Hid _:=R;obtain⟨ra,rn,re⟩:=c.out.m.rng;have D:Hid (∀f,Calls prog 12 #[.int .i64 w.a,.int .i64 ((j.length:Int)+1)] f fun e y=>e=.returned (.int .i64 (eG w.a (j.length+1):Nat))/\y=f):=fun f=>eQ w.a (j.length+1) f ra ⟨by omega,by omega⟩
  have ho:=fY w.a (j.length+1) (by omega);obtain⟨o,Ho⟩:∃o,Hid (eG w.a (j.length+1)=o):=⟨_,rfl⟩
  rw[Ho.out]at D ho
  have E:Hid (∀f,Calls prog 12 #[.int .i64 w.n,.int .i64 ((j.length:Int)-(o:Int)+1)] f fun e y=>e=.returned (.int .i64 (eG w.n (j.length-o+1):Nat))/\y=f):=fun f=>by
   rw[show(j.length:Int)-(o:Int)+1=((j.length-o+1:Nat):Int) by omega];exact eQ w.n (j.length-o+1) f rn ⟨by omega,by omega⟩
  have hn:=fY w.n (j.length-o+1) (by omega);obtain⟨n,Hn⟩:∃n,Hid (eG w.n (j.length-o+1)=n):=⟨_,rfl⟩
  rw[Hn.out]at E hn
  have F:Hid (∀f,Calls prog 12 #[.int .i64 w.e,.int .i64 ((j.length:Int)-(o:Int)-(n:Int)+1)] f fun e y=>e=.returned (.int .i64 (eG w.e (j.length-o-n+1):Nat))/\y=f):=fun f=>by
   rw[show(j.length:Int)-(o:Int)-(n:Int)+1=((j.length-o-n+1:Nat):Int) by omega];exact eQ w.e (j.length-o-n+1) f re ⟨by omega,by omega⟩
  have he:=fY w.e (j.length-o-n+1) (by omega);obtain⟨e,He⟩:∃e,Hid (eG w.e (j.length-o-n+1)=e):=⟨_,rfl⟩
  rw[He.out]at F he;have ac:Hid (∀t,bZ t b H w l->pb t H w T x m fs hd lo hi U P st->Calls prog 13 _ t _):=fun t a V=>a.loads hN V R (o:=o) (n:=n) (e:=e) (by omega)
  clear B e1 e2 R O ra rn re
  go_upto_region 11 with fail
  go_quiet ((go_at_call 12;exact Rd (J.out _)))
  go_upto_region 12 with fail
  obtain⟨t,A⟩:∃t,Hid (z.drewN nq=t):=⟨_,rfl⟩
  rw[A.out];have s:Hid (gx t b d.heap.size H w l 8 i N L I M):=c.out.Vb (by rw[<-A.out];exact(ab.refl [] _).drewN nq);clear X Y o2 o3 o4 o5 Z c0 c1 c3 bz z1 d1 z2 d2 gz gc;have c5:t.cell? ⟨b,5,none⟩=some (.int .i64 w.a):=by rw[aa s.out.m.blk];rfl
  have c6:t.cell? ⟨b,6,none⟩=some (.int .i64 w.n):=by rw[aa s.out.m.blk];rfl
  have c7:t.cell? ⟨b,7,none⟩=some (.int .i64 w.e):=by rw[aa s.out.m.blk];rfl
  have bz:=ae s.out.m.blk;have g:Hid (pb t H w T x m fs hd lo hi U P st):=ad.out.Vb (by rw[<-A.out];exact(ab.refl [] _).drewN nq);have C:Hid _:=ac.out t s.out.m g.out
  go_upto_region 13 with (go_at_call 12;refine QU (D.out _) ?_;rintro q w4 ⟨rfl,r⟩;rw[r];clear r)
  go_upto_region 14 with (go_at_call 12;refine QU (E.out _) ?_;rintro q w4 ⟨rfl,r⟩;rw[r];clear r)
  go_upto_region 15 with (go_at_call 12;refine QU (F.out _) ?_;rintro q w4 ⟨rfl,r⟩;rw[r];clear r)
  go_wp2_with (go_at_call 13;refine QU C.out ?_;rintro q w4 ⟨rfl,q1,⟨h',q2,q3⟩,q4⟩);go_ret;exact⟨rfl,s.out.m.both g.out.v g.out.i6 g.out.i7 q1 q2 (Q1 ⟨rfl,rfl⟩) (Q1 ⟨rfl,rfl⟩) q3 (Gh g.out.far g.out.p.lt q3) q4 (LF g.out.ok _)⟩
structure pB where
 k:Int
 a:Int
 c:Int
 d:Int
 s:ByteArray
 t:ByteArray
def Kj(o:pB):List Value:=[.int .i64 o.k,.int .i64 o.a,.int .i64 o.c,.int .i64 o.d,.string o.s,.string o.t]
def ja(L:List pB):dN:=kU 28 6 Kj L
theorem Lv:(prog.info? 28).map (fun i=>(i.zero,i.size,i.bytes))=some (some (.agg #[.int .i64 0,.int .i64 0,.int .i64 0,.int .i64 0,.string ⟨#[]⟩,.string ⟨#[]⟩]),6,64):=by kernel_rfl
theorem Aq(o:pB):∀u∈Kj o,u.oneCell'=true:=by
 intro u a;simp only[Kj,List.mem_cons,List.not_mem_nil,or_false]at a
 rcases a with rfl | rfl | rfl | rfl | rfl | rfl <;> rfl
structure M3(o:pB):Prop where
 a:qB o.a
 c:qB o.c
 d:qB o.d
 s:o.s.size<=1073741824
 t:o.t.size<=1073741824
 k:(1<=o.k/\o.k<=10)∨(15<=o.k/\o.k<=18)∨o.k=12∨(o.k=19/\o.d=12)
def mx(w:World)(ao:Option Addr)(l:List pB):Prop:=∀(i:Nat) (o:pB),l[i]?=some o->∃b off,ao=some ⟨b,off,none⟩/\b<w.heap.size/\∀(j:Nat) u,(Kj o)[j]?=some u->w.cell? ⟨b,off+i*6+j,none⟩=some u
theorem mx.Vb{l:List pB}(h:mx f yt l)(k:ab [] f g):mx g yt l:=by
 intro i o m;obtain⟨b,a,e,c,d⟩:=h i o m;exact⟨b,a,e,QX c k.size,fun j u n=>by rw[Q6 (k.block b c (by simp))];exact d j u n⟩
structure AZ(o:pB):Prop where
 k:qB o.k
 a:qB o.a
 c:qB o.c
 d:qB o.d
 s:o.s.size<=140737488351232
 t:o.t.size<=140737488351232
def lT(l:List pB)(k:Nat):pB:=l.getD k ⟨0,0,0,0,⟨#[]⟩,⟨#[]⟩⟩
theorem lU(l:List pB)(k:Nat)(h:k<l.length):l[k]?=some (lT l k):=by
 unfold lT;rw[QQ,QP h];rfl
def OI(l:List pB)(w:World)(e:Ending)(w':World):Prop:=(∃r,e=.returned (.bool r)/\(r=true->l.length<=1073741824/\∀i,i<l.length->(lT l i).s.size<=1073741824/\(lT l i).t.size<=1073741824))/\ab [] w w'
theorem Fh(l:List pB)(w:World)(Q:l.length<=140737488351232)(j:mx w zt l)(v:∀o∈l,AZ o) :
  Calls prog 7 #[.slice zt l.length ya] w fun e L=>OI l w e L:=by
 have x:Hid (mx w zt l):=j;have q:Hid _:=v;clear j v
 by_cases M:1073741824<l.length
 ·have n:(1073741824:Int)<(l.length:Int):=by omega
  go_enter func7,ntmps7;go_wp2;go_ret;exact⟨⟨false,rfl,by simp⟩,ab.refl _ _⟩
 ·have n:¬(1073741824:Int)<(l.length:Int):=by omega
  go_enter func7,ntmps7;go_wp2
  go_loopg [3,4] l.length (fun g m i wr=>∃(k:Nat) (z:Int),k<=l.length/\g=l.length-k/\i=.int .i64 k/\m=.int .i64 z/\Hid (∀i,i<k->(lT l i).s.size<=1073741824/\(lT l i).t.size<=1073741824)/\0<=z/\z<=1073741824/\Hid (ab [] w wr))
  case atStart=>exact⟨0,l.length,by omega,by omega,rfl,rfl,fun i h=>by omega,by omega,by omega,ab.refl _ _⟩
  case round =>
   obtain⟨k,z,P,O,rfl,rfl,r,I,J,f⟩:=hrel
   by_cases d:k<l.length
   ·have C:(k:Int)<(l.length:Int):=by omega
    obtain⟨b,K,rfl,N,p⟩:=(mx.Vb x.out f.out) k _ (lU l k d);have y:=p 4 _ rfl;have A:=p 5 _ rfl;have E:=(q.out (lT l k) (R4 (lU l k d))).s;have G:=(q.out (lT l k) (R4 (lU l k d))).t;obtain⟨o,u⟩:∃o,Hid (lT l k=o):=⟨_,rfl⟩
    rw[u.out]at y A E G;clear p;have F:(o.s.size:Int)<=140737488351232:=by omega
    have H:(o.t.size:Int)<=140737488351232:=by omega
    by_cases B:(1073741824:Int)<z+o.s.size+o.t.size
    ·go_upto_region 7 with fail
     go_quiet (fail)
     have a:Hid (ab [] w (wr.drewN nq)):=f.out.drewN nq;go_wp2;go_ret;exact⟨⟨false,rfl,by simp⟩,a.out⟩
    ·have c:Hid (∀i,i<k+1->(lT l i).s.size<=1073741824/\(lT l i).t.size<=1073741824):=fun i j=>by
      by_cases e:i=k
      ·rw[e,u.out];omega
      ·exact r.out i (by omega)
     go_upto_region 7 with fail
     go_quiet (fail)
     have a:Hid (ab [] w (wr.drewN nq)):=f.out.drewN nq;go_wp2
     go_roundg (l.length-(k+1))
     case measure=>omega
     case rel=>exact⟨k+1,z+o.s.size+o.t.size,by omega,rfl,by go_num,rfl,c,by omega,by omega,a⟩
   ·have D:¬(k:Int)<(l.length:Int):=by omega
    have c:Hid (∀i,i<l.length->(lT l i).s.size<=1073741824/\(lT l i).t.size<=1073741824):=fun i j=>r.out i (by omega)
    go_wp2;go_ret;exact⟨⟨true,rfl,fun _=>⟨by omega,c.out⟩⟩,f.out⟩
set_option maxRecDepth 512
theorem qU(d:Option Addr)(o p:Nat)(L:List ByteArray)(w:World)(h:ge w zt L)(j:ge w d L)(D:L.length<=4294967296) :
  Calls prog 25 #[.slice zt L.length o,.slice d L.length p] w fun e s=>e=.returned (.bool true)/\∃n,s=w.drewN n:=by
 have l:Hid (ge w zt L):=h;have m:Hid (ge w d L):=j;clear h j;go_enter func25,ntmps25;go_wp2
 go_loopg [5] L.length (fun g i wr=>∃k:Nat,k<=L.length/\g=L.length-k/\i=.int .i64 k/\Hid (∃n,wr=w.drewN n))
 case atStart=>exact⟨0,by omega,by omega,rfl,0,rfl⟩
 case round =>
  obtain⟨k,C,B,rfl,b⟩:=hrel;have f:Hid (ab [] w wr):=by show ab _ _ _;obtain⟨n,e⟩:=b.out;rw[e];exact(ab.refl [] w).drewN n
  by_cases a:k<L.length
  ·have q:(k:Int)<(L.length:Int):=by omega
   obtain⟨v,rfl,z,t⟩:=(ge.Vb l.out f.out) k _ (QP a);obtain⟨y,rfl,A,u⟩:=(ge.Vb m.out f.out) k _ (QP a);generalize L[k]=x at *;have E:(x.toList==x.toList)=true:=UQ _
   go_upto_region 6 with fail
   go_quiet (fail)
   have c:Hid (∃n,wr.drewN nq=w.drewN n):=by show ∃_,_;obtain⟨n,e⟩:=b.out;exact⟨n+nq,by rw[e,Uf]⟩
   go_wp2
   go_roundg (L.length-(k+1))
   case measure=>omega
   case rel=>exact⟨k+1,by omega,rfl,by go_num,c⟩
  ·have r:¬(k:Int)<(L.length:Int):=by omega
   go_wp2;go_ret;exact⟨rfl,b.out⟩
def Ix(bo:Option Nat)(L:List ByteArray):It where
 B:=bo.toList
 P w:=vF w bo L
 lt w a q hq:=by
  cases bo with
  | none=>cases hq
  | some b=>rw[UI,Q9]at hq;rw[hq];exact ae (a.blk b rfl)
 ok S w w' a k hb:=⟨a.nil,fun b e=>k.get (a.blk b e) (hb b (by rw[e];simp))⟩
theorem vF.srcX(h:vF f s z6):ge f (wD s) z6:=by
 intro k x a
 cases s with
 | none=>rw[h.nil.1 rfl]at a;cases a
 | some b =>
  have c:=h.blk b rfl;exact⟨b,rfl,ae c,by rw[aa c];simp[cN,a]⟩
abbrev Tx:=Option Nat×Hd×List ByteArray
def MN(t:Tx):List Value:=[.slice (wD t.1) t.2.2.length t.2.2.length,.slice t.2.1.ao t.2.2.length t.2.1.cap]
def md(TS:List Tx):dN:=kU 63 2 MN TS
structure QF(I:Nat×Nat->It)(tv:Value)(ht:Hd)(TS:List Tx)(N:Nat):Prop where
 e:tv=.slice ht.ao TS.length ht.cap
 r:I (11,0)=ce ht (md TS)
 l:∀k bo h L,TS[k]?=some (bo,h,L)->I (12,k)=Ix bo L/\I (13,k)=ce h (aB L)/\L.length<=900000000
 n:TS.length<=N
structure cM(w:World)(b:Nat)(I:Nat×Nat->It)(M:Mc)(ht:Hd)(TS:List Tx)(N:Nat):Prop where
 m:bZ w b I M N
 q:M.qv=.slice none 0 0
 t:QF I M.tv ht TS N
theorem cM.Vb{b:List Tx}(h:cM f T D a y b v)(k:ab [] f g):cM g T D a y b v:=⟨h.m.Vb k,h.q,h.t⟩
theorem cM.more{b:List Tx}(h:cM f T D a y b v):cM f T D a y b (v+1):=⟨h.m.more,h.q,{ h.t with n:=UK h.t.n }⟩
def qM(b:Nat)(I:Nat×Nat->It)(N:Nat)(e:Ending)(w':World):Prop:=e=.returned (.bool true)/\∃I' M' ht' TS',cM w' b I' M' ht' TS' (N+1)/\I' (10,0)=I (10,0)
theorem cM.up{c:List Tx}{e:Ending}(h:cM f T D a y c v)(s:iB T D a v true e g):qM T D v e g:=by
 obtain⟨m,d,i,o,b⟩:=s;refine⟨m,d,i,y,c,⟨o,b.q.trans h.q,⟨b.t.trans h.t.e,(b.k 11 0 (by decide)).trans h.t.r,fun k j p L u=>?_,UK h.t.n⟩⟩,b.k 10 0 (QR _)⟩;rw[b.k 12 k (by decide),b.k 13 k (by decide)];exact h.t.l k j p L u
theorem cM.rowOwn{b:List Tx}(h:cM f T D a y b v):aw f y (md b):=by have:=h.m.sep.all (11,0);rw[h.t.r]at this;exact this
theorem cM.c16{b:List Tx}(h:cM f T D a y b v):f.cell? ⟨T,16,none⟩=some (.slice y.ao b.length y.cap):=by rw[aa h.m.blk,<-h.t.e];rfl
theorem cM.at_{i:List Tx}(h:cM f T D a y i v)(q:S<i.length):∃d b L g,i[S]?=some (d,b,L)/\(y.ao=some ⟨g,0,none⟩/\g<f.heap.size/\f.cell? ⟨g,S*2,none⟩=some (.slice (wD d) L.length L.length)/\f.cell? ⟨g,S*2+1,none⟩=some (.slice b.ao L.length b.cap))/\vF f d L/\aw f b (aB L)/\L.length<=900000000:=by
 obtain⟨⟨d,b,L⟩,e⟩:∃x,i[S]?=some x:=⟨i[S],QP q⟩
 obtain⟨g,p,z,c⟩:=(aw.srcG (f:=MN) h.rowOwn (fun _=>rfl)) S _ e;obtain⟨n,o,r⟩:=h.t.l S d b L e;have j:=h.m.sep.all (12,S);have k:=h.m.sep.all (13,S);rw[n]at j;rw[o]at k;exact⟨d,b,L,g,e,⟨p,z,c 0 _ rfl,c 1 _ rfl⟩,j,k,r⟩
set_option maxRecDepth 100000
theorem IK(o:List Tx)(j:World)(h:cM j b H w m o l)(hN:l<=1073741825) :
  Calls prog 10 #[.pointer (some ⟨b,0,none⟩)] j fun e F=>e=.returned (.bool true)/\ab [] j F:=by
 have W:Hid (cM j b H w m o l):=h;have V:Hid (bZ j b H w l):=h.m;have G:=ae h.m.blk;have X:j.cell? ⟨b,15,none⟩=some (.slice none 0 0):=by rw[aa h.m.blk,<-h.q];rfl
 have ac:=h.m.len.2.2;have ad:=h.t.n;clear h;go_enter func10,ntmps10;go_wp2
 go_loopg [3] 0 (fun g i wr=>g=0/\i=.int .i64 0/\j=wr)
 case atStart=>exact⟨rfl,rfl,rfl⟩
 case round =>
  obtain⟨M,rfl,rfl⟩:=hrel;go_wp2
  go_loopg [5] o.length (fun g i wr=>∃k:Nat,k<=o.length/\g=o.length-k/\i=.int .i64 k/\Hid (ab [] j wr))
  case atStart=>exact⟨0,by omega,rfl,rfl,ab.refl _ _⟩
  case round =>
   obtain⟨k,hk,ag,rfl,r⟩:=hrel;have v:Hid (cM wr b H w m o l):=W.out.Vb r.out;have J:=v.out.c16;clear G;have G:=ae v.out.m.blk
   by_cases y:k<o.length
   ·obtain⟨Q,K,L,g,-,⟨M,gz,g0,g1⟩,T,S,hl⟩:=v.out.at_ y
    rw[M]at J;have u:Hid (∀n,Calls prog 25 #[.slice (wD Q) L.length L.length,.slice K.ao L.length K.cap] (wr.drewN n) fun e F=>e=.returned (.bool true)/\∃P,F=(wr.drewN n).drewN P):=fun n=>qU (wD Q) K.ao _ _ L (wr.drewN n) (ge.Vb T.srcX ((ab.refl [] _).drewN n)) (ge.Vb S.srcX ((ab.refl [] _).drewN n)) (by omega)
    have N:(k:Int)<(o.length:Int):=by omega
    clear T S M
    go_upto_region 10 with fail
    go_quiet ((go_at_call 25;exact UF (u.out _)))
    have s:Hid (ab [] j (wr.drewN nq)):=r.out.drewN nq;go_wp2
    go_roundg (o.length-(k+1))
    case measure=>omega
    case rel=>exact⟨k+1,by omega,rfl,by go_num,s⟩
   ·have O:¬(k:Int)<(o.length:Int):=by omega
    have I:Hid _:=r.out;clear r;go_wp2
    go_loopg [7] w.L.length (fun g i wr=>∃k:Nat,k<=w.L.length/\g=w.L.length-k/\i=.int .i64 k/\Hid (ab [] j wr))
    case atStart=>exact⟨0,by omega,rfl,rfl,I⟩
    case round =>
     obtain⟨k,hk,ai,rfl,r⟩:=hrel;have d:Hid (bZ wr b H w l):=V.out.Vb r.out;have Y:wr.cell? ⟨b,3,none⟩=some (.slice w.hl.ao w.L.length w.hl.cap):=by rw[aa d.out.blk];rfl
     have Z:wr.cell? ⟨b,4,none⟩=some (.slice w.hc.ao w.L.length w.hc.cap):=by rw[aa d.out.blk];rfl
     clear G;have G:=ae d.out.blk
     by_cases y:k<w.L.length
     ·obtain⟨⟨a,c,f⟩,p⟩:∃x,w.L[k]?=some x:=⟨w.L[k],QP y⟩
      obtain⟨z,A,-,af⟩:=d.out.l k a c f p;obtain⟨gl,D,gz,R⟩:=n8 d.out.ownL (k:=k) (x:=(a,f)) (by rw[Rq,p];rfl);obtain⟨gr,E,rz,U⟩:=n8 d.out.ownC (k:=k) (x:=(c,f)) (by rw[Rq,p];rfl);replace R:wr.cell? ⟨gl,k,none⟩=some (.slice (wD a) f.length f.length):=R;replace U:wr.cell? ⟨gr,k,none⟩=some (.slice (wD c) f.length f.length):=U;rw[D]at Y;rw[E]at Z;have B:iG wr a f:=by have:=d.out.sep.all (8,k);rw[z]at this;exact this
      have C:iG wr c f:=by have:=d.out.sep.all (9,k);rw[A]at this;exact this
      have u:Hid (∀n,Calls prog 26 #[.slice (wD a) f.length f.length,.slice (wD c) f.length f.length] (wr.drewN n) fun e F=>e=.returned (.bool true)/\∃P,F=(wr.drewN n).drewN P):=fun n=>nC (wD a) (wD c) _ _ f (wr.drewN n) (kR.kept B.src ((ab.refl [] _).drewN n) (by simp)) (kR.kept C.src ((ab.refl [] _).drewN n) (by simp)) (by omega)
      have N:(k:Int)<(w.L.length:Int):=by omega
      clear p z A D E B C
      go_upto_region 16 with fail
      go_quiet ((go_at_call 26;exact UF (u.out _)))
      have s:Hid (ab [] j (wr.drewN nq)):=r.out.drewN nq;go_wp2
      go_roundg (w.L.length-(k+1))
      case measure=>omega
      case rel=>exact⟨k+1,by omega,rfl,by go_num,s⟩
     ·have O:¬(k:Int)<(w.L.length:Int):=by omega
      go_wp2;go_ret;exact⟨rfl,r.out⟩
theorem O3:(prog.info? 63).map (fun i=>(i.zero,i.size,i.bytes))=some (some (.agg #[.slice none 0 0,.slice none 0 0]),2,48):=by kernel_rfl
theorem Qq(t:Tx):∀u∈MN t,u.oneCell'=true:=by
 intro u a;simp only[MN,List.mem_cons,List.not_mem_nil,or_false]at a
 rcases a with rfl | rfl <;> rfl
theorem bZ.retv{c:Nat×Nat->It}(h:bZ f T D a v)(s:nJ g c)(k:Value)(n:c (0,0)=rB T 42 ({ a with tv:=k }:Mc).cells)(b:∀j i,0<j->j<10->c (j,i)=D (j,i)):bZ g T c { a with tv:=k } v:={
 sep:=s
 w0:=n
 x:=by rw[b 1 0 (by decide) (by decide)];exact h.x
 m:=by rw[b 2 0 (by decide) (by decide)];exact h.m
 r:=by rw[b 3 0 (by decide) (by decide)];exact h.r
 ls:=by rw[b 4 0 (by decide) (by decide)];exact h.ls
 lw:=by rw[b 5 0 (by decide) (by decide)];exact h.lw
 v:=fun i x m d e=>by rw[b 6 i (by decide) (by decide),b 7 i (by decide) (by decide)];exact h.v i x m d e
 l:=fun i x m d e=>by rw[b 8 i (by decide) (by decide),b 9 i (by decide) (by decide)];exact h.l i x m d e
 fit:=h.fit
 len:=h.len
 rng:=h.rng }
theorem rP{a:It}(b:10<=T)(c:S<10):fk D (T,v) a (S,t)=D (S,t):=aq _ _ (bn (by omega))
theorem cM.lay{b:List Tx}(h:cM f T D a y b v)(d:It)(C:S=12∨S=13)(k:ab [] f g)(z:d.P g)(u:∀q,q∈d.B->f.heap.size<=q):cM g T (fk D (S,b.length) d) a y b v:=by
 have c:10<=S:=by omega
 have s:=h.m.sep.put (S,b.length) d (k.mono (by simp)) z (fun q A=>QV (u q A));have m:bZ g T (fk D (S,b.length) d) a v:=h.m.retv s a.tv (by rw[rP c (by decide)];exact h.m.w0) (fun j i _ o=>rP c o);refine⟨m,h.q,⟨h.t.e,by rw[aq _ _ (bn (by omega))];exact h.t.r,fun j p w L o=>?_,h.t.n⟩⟩;have x:=(Q8.1 o).1;rw[aq _ _ (rC (by omega)),aq _ _ (rC (by omega))];exact h.t.l j p w L o
theorem cM.add{b:List Tx}{k:Hd}(h:cM f T D a y b v)(w:D (12,b.length)=Ix s z6)(x:D (13,b.length)=ce k (aB z6))(I:z6.length<=900000000)(G:bt f g y zb)(o:aw g zb (md (b++[(s,k,z6)]))) :
  ∃B E A p,cM (g.setCell ⟨T,16,none⟩ (.slice zb.ao (b.length+1) zb.cap)) T B E A p (v+1)/\B (10,0)=D (10,0):=by
 have J:=h.m.sep.grown h.m.w0 (bn (by decide)) h.t.r G o 16 (.slice zb.ao (b.length+1) zb.cap);have m:=(h.m.retv J (.slice zb.ao (b.length+1) zb.cap) (bJ _ _ _) (fun j i K H=>by rw[aq _ _ (bn (by omega)),rP (by decide) H])).more;have q:∀d i,11<d->fk (fk D (11,0) (ce zb (md (b++[(s,k,z6)])))) (0,0) (rB T 42 (a.cells.set 16 (.slice zb.ao (b.length+1) zb.cap))) (d,i)=D (d,i):=fun d i L=>by rw[aq _ _ (bn (by omega)),aq _ _ (bn (by omega))]
 refine⟨_,_,zb,b++[(s,k,z6)],⟨m,h.q,⟨by rw[Q0];rfl,by rw[aq _ _ (bn (by decide))];exact bJ _ _ _,fun j u z C c=>?_,?_⟩⟩,?_⟩
 ·rw[q 12 j (by decide),q 13 j (by decide)]
  by_cases e:j<b.length
  ·rw[Q7 e]at c
   exact h.t.l j u z C c
  ·have F:j=b.length:=by
    have:=(Q8.1 c).1;rw[Q0]at this;have:j<b.length+1:=this;omega
   subst F;rw[Q5 (QR _),RY]at c
   cases c
   exact⟨w,x,I⟩
 ·have:=h.t.n
  rw[Q0];show _+1<=_;omega
 ·rw[aq _ _ (bn (by decide)),aq _ _ (bn (by decide))]
theorem Iz(c:List Tx)(o:Option Nat)(s:Hd)(L:List ByteArray)(A:World)(h:cM A b H w m c l)(hN:l<=1073741824)(B:H (12,c.length)=Ix o L)(hO:aw A s (aB L))(hl:L.length<=900000000) :
  Calls prog 41 #[.pointer (some ⟨b,0,none⟩),.slice (wD o) L.length L.length,.slice s.ao L.length s.cap] A fun e w'=>qM b H l e w':=by
 have hX:vF A o L:=by have:=h.m.sep.all (12,c.length);rw[B]at this;exact this
 have N:Hid _:=(qU (wD o) s.ao L.length s.cap L A hX.srcX hO.srcX (by omega));have HM:Hid (cM A b H w m c l):=h;have ag:Hid _:=B;have a5:Hid _:=hX.nil;have HO:Hid (aw A s (aB L)):=hO;obtain⟨iS,a0,W,X,Y⟩:=Re js;obtain⟨iT,a1,Z,ac,af⟩:=Re O3;have a7:=h.t.n
 have D:Hid (s.ao=none->L.length=0/\s.cap=0):=fun e=>by
  rcases hO.Vm with ⟨p,e2,e3⟩ | ⟨g,ap,p,-⟩
  ·exact⟨e2,by rw[p]⟩
  ·rw[e]at p;cases p
 have U:Hid (∀u∈cN L,u.oneCell'=true):=fun u hu=>by
  obtain⟨x,-,rfl⟩:=Si.1 hu;rfl
 have T:Hid ((cN L).length=L.length*1):=by show _=_;rw[cN,Ri,UZ]
 have k:(L.length=0/\wD o=none)∨L.length≠0:=by
  by_cases e:L=[]
  ·exact Q1 ⟨by rw[e];rfl,by rw[hX.nil.2 e];rfl⟩
  ·exact QV (fun e2=>e (Ud.1 e2))
 have ax:∀w',aw w' ⟨none,0⟩ (aB []):=fun w'=>QZ _ _ _ _
 have aS:Hid ((md c).n<=4294967296):=by show c.length<=_;omega
 have O:Hid ((md c).n=c.length):=rfl;have a3:Hid ((⟨(aB []).e,(aB []).size,(aB []).n+L.length,(aB []).xs++cN L⟩:dN)=aB L):=by show dN.mk _ _ (0+L.length) ([]++cN L)=_;rw[SJ];rfl
 have ar:Hid ((aB []).n+L.length<=1000000000):=by show 0+L.length<=_;omega
 have a2:Hid ((aB []).n+L.length=L.length):=SJ _;clear h hX B
 have d:((((L.length:Int)==0)=true/\wD o=none))∨((L.length:Int)==0)=false:=by
  rcases k with ⟨h0,hn⟩ | h0
  ·exact Q1 ⟨by rw[h0];rfl,hn⟩
  ·exact QV (Rh.2 (by omega))
 clear k;obtain⟨ra,P⟩:∃ra,Hid (wD o=ra):=⟨_,rfl⟩
 rw[P.out]at N d ⊢;have al:Hid (∀f:Hd,MN (o,f,L)=[.slice ra L.length L.length,.slice f.ao L.length f.cap]):=fun f=>by rw[<-P.out];rfl
 obtain⟨i,y⟩:=s
 rcases d with ⟨h0,rfl⟩ | h0
 all_goals
  go_enter func41,ntmps41
  go_upto_region 2 with (go_at_call 25;refine QU N.out ?_;rintro e w1 ⟨rfl,n1,V⟩;have K:Hid (ab [] A w1):=(by show ab _ _ _;rw[V];exact(ab.refl [] _).drewN n1);clear V)
  have M:Hid (aw w1 ⟨i,y⟩ (aB L)):=HO.out.Vb K.out
  have aT:Hid (∀ad,i=some ad->∀j u,(cN L)[j]?=some u->w1.cell? (ad.add j)=some u):=fun ad e j u hj=>by
   rcases M.out.Vm with ⟨p,-,-⟩ | ⟨g,ap,p,e2,-⟩
   ·rw[show i=none from congrArg Hd.ao p]at e;cases e
   ·rw[show i=some ⟨g,0,none⟩ from p]at e
    cases e
    rw[bL];exact(M.out.cell p j u hj)
  go_upto_region 4 with fail
  go_upto_region 5 with (at_builtin;refine ed _ rfl (.const (.slice none 0 0)) (.tmp 30) 61 rfl iS (.string ⟨#[]⟩) 16 ⟨none,0⟩ (aB []) underlying61 a0 W X Y rfl Rc rfl (ax _) i L.length y (cN L) rfl T.out D.out aT.out U.out ar.out (by omega) ?_;intro f w5 E C;rw[a3.out]at E;rw[a2.out])
  have ai:Hid (ab [] w1 w5):=C.kept.mono (by simp[Hd.blk])
  have a:=(show Hid _ from(HM.out.Vb K.out).lay (ce f (aB L)) (QV rfl) ai.out E (fun q z=>by
   have z:=aN z
   rcases C.blk with e | ⟨g,e,hg⟩
   ·rw[e]at z;cases z
   ·rw[e]at z;cases z;exact hg))
  have I:Hid (fk H (13,c.length) (ce f (aB L)) (12,c.length)=Ix o L):=by show _=_;rw[aq _ _ (bn (by decide))];exact ag.out
  have J:Hid _:=bJ H (13,c.length) (ce f (aB L));have G:Hid (fk H (13,c.length) (ce f (aB L)) (10,0)=H (10,0)):=by show _=_;rw[aq _ _ (bn (by decide))]
  clear E C;generalize fk H (13,c.length) (ce f (aB L))=I5 at *;have a6:=a.out.c16;have bz:=ae a.out.m.blk;have fb:=am a.out.m.blk;have az:=a.out.rowOwn;have F:Hid (b∉m.blk.toList):=fun z=>a.out.m.sep.far (0,0) (11,0) (bn (by decide)) b (by rw[a.out.m.w0];exact Q9.2 rfl) (by rw[a.out.t.r];exact z)
  obtain⟨Q,R⟩:=f;go_wp2_with (at_builtin;refine cZ w5 rfl (.tmp 36) (.tmp 40) 40 rfl iT (.agg #[.slice none 0 0,.slice none 0 0]) 48 m (md c) [.slice _ L.length L.length,.slice Q L.length R] underlying40 a1 Z ac af rfl Uq (by rw[O.out];simp[Act.eval]) az aS.out (by omega) (by simp[Act.eval]) rfl (by intro u hu;simp only[List.mem_cons,List.not_mem_nil,or_false]at hu;rcases hu with rfl | rfl <;> rfl) ?_;intro h7 w7 v S;replace v:aw w7 h7 ⟨(md c).e,(md c).size,(md c).n+1,(md c).xs++MN (o,⟨Q,R⟩,L)⟩:=(by rw[al.out];exact v);rw[md,gM]at v;have p7:=S.kept.get a.out.m.blk F.out;have f7:=am p7;have c7:w7.cell? ⟨b,16,none⟩=some (.slice m.ao c.length m.cap):=(by rw[aa p7,<-a.out.t.e];rfl);have z7:=ae p7;have HF:Hid _:=a.out.add I.out J.out hl S v;rw[O.out]);go_ret;obtain⟨I',M',a4,an,q1,q2⟩:=HF.out;exact⟨rfl,I',M',a4,an,q1,q2.trans G.out⟩
theorem NC(h:T∈(Ix s z6).B):s=some T:=by
 replace h:T∈s.toList:=h
 cases s with
 | none=>cases h
 | some g=>rw[UI,Q9]at h;rw[h]
theorem M7(a:Fs)(d:Option Nat)(b:ByteArray)(c:zw a):(vG a d b).1.length<=900000000:=by
 unfold vG
 cases d with
 | none=>show(0:Nat)<=_;omega
 | some k =>
  have i:=(wT a c k).ok.len;simp only
  cases gC (bK a k).2.2.Vn b with
  | none=>show(0:Nat)<=_;omega
  | some n =>
   have e:=t8 (bK a k).2.2.Vn n;have f:=wo (bK a k).2.2.Vn n;have g:=tW (bK a k).2.2.Vn (aK (bK a k).2.2.Vn n);have h:(gI (bK a k).2.2.Vn n).length<=100000000:=GC _ _ (by omega)
   show(cW (bK a k).2.2.Vn n).length<=_
   omega
theorem wj(y:List Tx)(i x B:Nat)(f:Fs)(O:Hd)(Q P v u:Nat)(g:Option Nat)(a:ByteArray)(n:World)(h:cM n b H w m y l)(X:l<=1073741824)(V:pb n H w i x B f O Q P v u g) :
  Calls prog 18 #[.pointer (some ⟨b,0,none⟩),.pointer (some ⟨x,0,none⟩),.pointer (some ⟨B,0,none⟩),.string a] n fun e K=>qM b H l e K:=by
 have t:Hid _:=Jk x f Q P g a n V.p V.le V.ok;have s:Hid (∀j,ab [] n j->Calls prog 40 #[.pointer (some ⟨B,0,none⟩),.string a] j fun e K=>Qy (vG f g a).1 (vG f g a).2 j e K):=fun j k=>Ia B f O v u g a j (V.d.Vb k) V.st V.le V.ok
 have r:Hid _:=M7 f g a V.ok;have T:Hid (cM n b H w m y l):=h;generalize vG f g a=A at *;obtain⟨L,c⟩:=A;simp only at t s r;clear h V;go_enter func18,ntmps18
 go_upto_region 2 with (go_at_call 39;refine QU t.out ?_;rintro e w1 ⟨z,rfl,S,R,J⟩)
 have C:Hid _:=J;have E:Hid _:=(T.out.lay (Ix z L) (Q1 rfl) J S (fun q hq=>R q (NC hq)));clear S R J
 go_upto_region 3 with (go_at_call 40;refine QU (s.out w1 C.out) ?_;rintro e j ⟨N,rfl,M⟩)
 have F:Hid _:=E.out.Vb M.kept;have o:Hid (fk H (12,y.length) (Ix z L) (10,0)=H (10,0)):=by show _=_;rw[aq _ _ (bn (by decide))]
 have D:Hid _:=Iz b l _ w m y z N L j F.out X (bJ _ _ _) M.own r.out;clear M;generalize wD z=ra at *;obtain⟨Y,Z⟩:=N;go_wp2_with (go_at_call 41;refine QU D.out ?_;rintro e w3 ⟨rfl,U,W,I,G,q1,q2⟩);go_ret;exact⟨rfl,U,W,I,G,q1,q2.trans o.out⟩
theorem Nb(c:Calls prog 18 #[.pointer (some ⟨b,0,none⟩),.pointer (some ⟨l,0,none⟩),.pointer (some ⟨ya,0,none⟩),.string I] d fun e a=>e=.returned (.bool true)/\yu a) :
  Calls prog 23 #[.pointer (some ⟨b,0,none⟩),.pointer (some ⟨l,0,none⟩),.pointer (some ⟨ya,0,none⟩),.string I,.string M,.int .i64 12] d fun e a=>e=.returned (.bool true)/\yu a:=by
 have f:Hid _:=c;clear c;go_enter func23,ntmps23;go_wp2_with (go_at_call 18;refine QU f.out ?_;rintro e h ⟨rfl,g⟩);go_ret;exact⟨rfl,g⟩
theorem JP(f:∀W,ab [] d W->Calls prog 11 #[.pointer (some ⟨l,0,none⟩),.agg #[.int .i64 y9,.int .i64 i,.int .i64 N,.int .i64 L,.string I,.string M]] W fun e b=>e=.returned (.bool true)/\yu b) :
  Calls prog 9 #[.pointer (some ⟨l,0,none⟩),.agg #[.int .i64 y9,.int .i64 i,.int .i64 N,.int .i64 L,.string I,.string M]] d fun e b=>e=.returned (.bool true)/\yu b:=by
 obtain⟨W,a⟩:∃W,Hid (d.alloc (.cells #[.int .i64 y9,.int .i64 i,.int .i64 N,.int .i64 L,.string I,.string M] 28)=W):=⟨_,rfl⟩
 have g:ab [] d W:=by rw[<-a.out];exact(ab.refl [] _).alloc _
 have c:W.heap[d.heap.size]?=some (.cells #[.int .i64 y9,.int .i64 i,.int .i64 N,.int .i64 L,.string I,.string M] 28 (0,0)):=by rw[<-a.out];exact QS _ _
 obtain⟨k,m,n,o,p,q,r⟩:=cQ c;have h:Hid _:=f W g;clear c f g;go_enter func9,ntmps9
 go_upto_region 1 with fail
 rw[a.out];go_wp2_with (go_at_call 11;refine QU h.out ?_;rintro e s ⟨rfl,j⟩);go_ret;exact⟨rfl,j⟩
theorem vF.wrote(h:vF f (some T) z6)(s:ByteArray):vF (f.setCell ⟨T,v,none⟩ (.string s)) (some T) (z6.set v s):=by
 refine⟨⟨(fun e=>by cases e),fun e=>?_⟩,fun q e=>?_⟩
 ·have:z6=[]:=Ud.1 (by rw[<-Rv (i:=v) (a:=s),e];rfl)
  exact absurd (h.nil.2 this) (by simp)
 ·cases e
  rw[ah (h.blk T rfl),Ru,xk]
theorem Mm(o:aw f y (aB z6))(a:y.ao=some ⟨T,0,none⟩)(s:ByteArray):aw (f.setCell ⟨T,v,none⟩ (.string s)) y (aB (z6.set v s)):=by
 have:=o.putAt a v (.string s)
 have e:(⟨(aB z6).e,(aB z6).size,(aB z6).n,(aB z6).xs.set v (.string s)⟩:dN)=aB (z6.set v s):=by
  unfold aB;rw[xk,Rv]
 rw[e]at this;exact this
theorem cM.wrote{d:List ByteArray}{b:List Tx}(h:cM f T D a zb b v)(w:b[S]?=some (s,y,z6))(G:d.length=z6.length)(H:nJ g (fk (fk D (12,S) (Ix s d)) (13,S) (ce y (aB d)))):∃z C x o,cM g T z C x o (v+1)/\z (10,0)=D (10,0):=by
 have k:=(Q8.1 w).1
 have F:md (b.set S (s,y,d))=md b:=by
  have e:(b.set S (s,y,d)).flatMap MN=b.flatMap MN:=by
   have E:(b.set S (s,y,d)).map MN=b.map MN:=by
    rw[Tn]
    apply Sq
    intro j;rw[RU]
    by_cases A:S=j
    ·subst A
     rw[QW rfl,Rq,w];simp only[List.length_map,k,if_true,Option.map_some,MN,G]
    ·rw[QT A]
   rw[Uo,Uo,E]
  unfold md kU;rw[e,Rv]
 have m:=(h.m.retv H a.tv (by rw[rP (by decide) (by decide),rP (by decide) (by decide)];exact h.m.w0) (fun j i _ c=>by rw[rP (by decide) c,rP (by decide) c])).more;refine⟨_,_,zb,b.set S (s,y,d),⟨m,h.q,⟨by rw[Rv];exact h.t.e,by rw[aq _ _ (bn (by decide)),aq _ _ (bn (by decide)),F];exact h.t.r,fun j p u B c=>?_,by rw[Rv];exact UK h.t.n⟩⟩,by rw[aq _ _ (bn (by decide)),aq _ _ (bn (by decide))]⟩;rw[RU]at c;rw[aq _ _ (bn (by decide))]
 by_cases e:S=j
 ·subst e
  rw[QW rfl,QW k]at c
  cases c
  obtain⟨-,-,I⟩:=h.t.l S s y z6 w;rw[bJ,bJ];exact⟨rfl,rfl,by omega⟩
 ·rw[QT e]at c
  rw[aq _ _ (rC (Ne.symm e)),aq _ _ (rC (Ne.symm e)),aq _ _ (bn (by decide))];exact h.t.l j p u B c
theorem NK(f:List Tx)(A C D:Int)(s t:ByteArray)(T:World)(h:cM T b H w m f l)(hN:l<=1073741824)(hA:qB A)(hC:qB C) :
  Calls prog 11 #[.pointer (some ⟨b,0,none⟩),.agg #[.int .i64 18,.int .i64 A,.int .i64 C,.int .i64 D,.string s,.string t]] T fun e w'=>qM b H l e w':=by
 obtain⟨W,HW⟩:∃W,Hid (T.alloc (.cells #[.int .i64 18,.int .i64 A,.int .i64 C,.int .i64 D,.string s,.string t] 28)=W):=⟨_,rfl⟩
 obtain⟨-,hB,bj,a5⟩:=h.m.boxed 18 A C D s t W HW.out;have o:=h.Vb a5;obtain⟨o0,o1,o2,o3,o4,o5,S⟩:=cQ hB;have bz:=ae o.m.blk;have d:=o.c16
 by_cases hL:f.length=0
 ·have HF:Hid (cM W b H w m f l):=o
  rw[hL]at d;clear h o hB;go_enter func11,ntmps11
  go_upto_region 1 with fail
  rw[HW.out];go_wp2;go_ret;exact⟨rfl,_,_,_,_,HF.out.more,rfl⟩
 ·have bg:=h.t.n
  have X:Hid (∀N,Calls prog 12 #[.int .i64 A,.int .i64 f.length] N fun e w'=>e=.returned (.int .i64 (eG A f.length:Nat))/\w'=N):=fun N=>eQ A f.length N hA ⟨by omega,by omega⟩
  have az:=fY A f.length (by omega);obtain⟨k,Hk⟩:∃k,Hid (eG A f.length=k):=⟨_,rfl⟩
  rw[Hk.out]at X az;have HM:Hid (cM W b H w m f l):=o;obtain⟨bo,F,L,P,hk,⟨M,Q,E,O⟩,hX,hO,br⟩:=o.at_ az;obtain⟨c,j,-⟩:=o.t.l k bo F L hk;rw[M]at d;have bp:(k:Int)<(f.length:Int):=by omega
  have bf:(0:Int)<(f.length:Int):=by omega
  have a2:Hid _:=hk;have U:Hid _:=c;have aT:Hid _:=j
  by_cases y:L.length=0
  ·rw[y]at E
   clear h o hB hk c j M hX hO;go_enter func11,ntmps11
   go_upto_region 1 with fail
   rw[HW.out]
   go_upto_region 48 with fail
   go_quiet ((go_at_call 12;exact Rd (X.out _)))
   have HF:Hid (cM (W.drewN nq) b H w m f l):=HM.out.Vb ((ab.refl [] _).drewN nq);go_wp2;go_ret;exact⟨rfl,_,_,_,_,HF.out.more,rfl⟩
  ·have ap:Hid (∀N,Calls prog 12 #[.int .i64 C,.int .i64 L.length] N fun e w'=>e=.returned (.int .i64 (eG C L.length:Nat))/\w'=N):=fun N=>eQ C L.length N hC ⟨by omega,by omega⟩
   have ad:=fY C L.length (by omega);obtain⟨i,Hi⟩:∃i,Hid (eG C L.length=i):=⟨_,rfl⟩
   rw[Hi.out]at ap ad
   obtain⟨a,rfl⟩:∃a,bo=some a:=by
    cases bo with
    | none=>rw[hX.nil.1 rfl]at y;exact absurd rfl y
    | some a=>exact⟨a,rfl⟩
   obtain⟨p,K⟩:∃p,F.ao=some ⟨p,0,none⟩:=by
    rcases hO.Vm with ⟨-,e2,-⟩ | ⟨g,a3,e1,-⟩
    ·exact absurd e2 y
    ·exact⟨g,e1⟩
   have u:Hid _:=K
   have R:a≠T.heap.size:=by
    intro e;have:=(Ix (some a) L).lt T (by have:=h.m.sep.all (12,k);rw[c]at this;exact this) a (Q9.2 rfl);omega
   have aS:p≠a:=by
    intro e;exact o.m.sep.far (13,k) (12,k) (bn (by decide)) p (by rw[j];show p∈F.blk.toList;unfold Hd.blk;rw[K];exact Q9.2 rfl) (by rw[c,e];exact Q9.2 rfl)
   have bd:Hid _:=hB;replace E:W.cell? ⟨P,k*2,none⟩=some (.slice (some ⟨a,0,none⟩) L.length L.length):=E;rw[K]at O;have bl:(i:Int)<(L.length:Int):=by omega
   have bk:(0:Int)<(L.length:Int):=by omega
   have an:Hid _:=R
   have af:Hid (P≠a):=by
    intro e;exact o.m.sep.far (11,0) (12,k) (bn (by decide)) P (by rw[o.t.r];show P∈m.blk.toList;unfold Hd.blk;rw[M];exact Q9.2 rfl) (by rw[c,e];exact Q9.2 rfl)
   have a0:Hid (b≠a):=by
    intro e;exact o.m.sep.far (0,0) (12,k) (bn (by decide)) b (by rw[o.m.w0];exact Q9.2 rfl) (by rw[c,e];exact Q9.2 rfl)
   have v:Hid (∀x,ab [a] W x->(x.cell? ⟨T.heap.size,2,none⟩=some (.int .i64 C)/\x.cell? ⟨T.heap.size,4,none⟩=some (.string s)/\T.heap.size<x.heap.size)/\(x.cell? ⟨b,16,none⟩=some (.slice (some ⟨P,0,none⟩) f.length m.cap)/\b<x.heap.size)/\x.cell? ⟨P,k*2,none⟩=some (.slice (some ⟨a,0,none⟩) L.length L.length)/\x.cell? ⟨P,k*2+1,none⟩=some (.slice (some ⟨p,0,none⟩) L.length F.cap)/\P<x.heap.size):=fun x kw=>by
    have q:∀g i,g<W.heap.size->g≠a->x.cell? ⟨g,i,none⟩=W.cell? ⟨g,i,none⟩:=fun g i hg hn=>Q6 (kw.block g hg (by simp;exact hn))
    have z:=kw.size;exact⟨⟨by rw[q _ _ S (Ne.symm an.out)];exact o2,by rw[q _ _ S (Ne.symm an.out)];exact o4,by omega⟩,⟨by rw[q _ _ bz a0.out];exact d,by omega⟩,by rw[q _ _ Q af.out];exact E,by rw[q _ _ Q af.out];exact O,by omega⟩
   have be:Hid (L.length<=F.cap):=by
    rcases hO.Vm with ⟨-,e2,-⟩ | ⟨g,a3,-,-,e3,-⟩
    ·exact absurd e2 y
    ·exact e3
   clear h o hB hk c j M hX hO R K aS;go_enter func11,ntmps11
   go_upto_region 1 with fail
   rw[HW.out]
   go_upto_region 48 with fail
   go_quiet ((go_at_call 12;exact Rd (X.out _)))
   go_upto_region 50 with fail
   obtain⟨W2,ar⟩:∃W2,Hid (W.drewN nq=W2):=⟨_,rfl⟩
   rw[ar.out];have ag:Hid (ab [] W W2):=by show ab _ _ _;rw[<-ar.out];exact(ab.refl [] _).drewN nq
   clear o0 o1 o2 o3 o4 o5 S d bz E O Q;obtain⟨⟨o2,o4,S⟩,⟨d,bz⟩,E,O,Q⟩:=v.out W2 (ag.out.mono (by simp))
   go_quiet ((go_at_call 12;exact Rd (ap.out _)))
   go_upto_region 51 with fail
   obtain⟨J,ax⟩:∃J,Hid (W2.drewN nq=J):=⟨_,rfl⟩
   rw[ax.out];have V:Hid (ab [] W J):=by show ab _ _ _;rw[<-ax.out];exact ag.out.drewN nq
   have al:Hid (cM J b H w m f l):=HM.out.Vb V.out;have I:Hid (vF J (some a) L):=by show vF _ _ _;have:=al.out.m.sep.all (12,k);rw[U.out]at this;exact this
   clear o2 o4 S d bz E O Q;obtain⟨⟨o2,o4,S⟩,⟨d,bz⟩,E,O,Q⟩:=v.out J (V.out.mono (by simp));have d0:J.cell? ⟨a,i,none⟩=some (.string L[i]):=by rw[aa (I.out.blk a rfl)];simp[cN,ad]
   have df:=am (I.out.blk a rfl) i;have dz:=ae (I.out.blk a rfl);generalize L[i]=a6 at *
   go_region
   all_goals
    obtain⟨B,Y⟩:∃B,Hid ((J.setCell ⟨a,i,none⟩ (.string s)).drew=B):=⟨_,rfl⟩
    rw[Y.out];have ai:Hid (ab [a] J B):=by show ab _ _ _;rw[<-Y.out];exact((ab.refl [a] _).setCell (Q1 (by simp)) _).drew
    have S4:Hid (nJ B (fk H (12,k) (Ix (some a) (L.set i s)))):=by
     show nJ _ _
     refine al.out.m.sep.put _ _ (by rw[U.out];exact ai.out) ?_ (fun q hq=>Q1 (by rw[U.out];exact hq));rw[<-Y.out];exact(Ix _ _).ok [] _ _ (I.out.wrote s) (ab.refl [] _).drew (by simp)
    have ac:Hid (fk H (12,k) (Ix (some a) (L.set i s)) (13,k)=ce F (aB L)):=by show _=_;rw[aq _ _ (bn (by decide))];exact aT.out
    have G:Hid (aw B F (aB L)):=by show aw _ _ _;have:=S4.out.all (13,k);rw[ac.out]at this;exact this
    clear d0 df dz o2 o4 S d bz E O Q;obtain⟨⟨o2,o4,S⟩,⟨d,bz⟩,E,O,Q⟩:=v.out B ((V.out.mono (by simp)).trans ai.out);have d0:B.cell? ⟨p,i,none⟩=some (.string L[i]):=G.out.cell u.out i _ (by simp[aB,cN,ad]);have df:=Cz G.out u.out i;have dz:p<B.heap.size:=G.out.lt (by unfold Hd.blk;rw[u.out];rfl);generalize L[i]=a7 at *
    go_upto_region 52 with fail
    go_region
    all_goals
     obtain⟨W5,Z⟩:∃W5,Hid ((B.setCell ⟨p,i,none⟩ (.string s)).drew=W5):=⟨_,rfl⟩
     rw[Z.out];have a1:Hid (ab [p] B W5):=by show ab _ _ _;rw[<-Z.out];exact((ab.refl [p] _).setCell (Q1 (by simp)) _).drew
     have S5:Hid (nJ W5 (fk (fk H (12,k) (Ix (some a) (L.set i s))) (13,k) (ce F (aB (L.set i s))))):=by
      show nJ _ _
      have a4:F.blk.toList=[p]:=by unfold Hd.blk;rw[u.out];rfl
      refine S4.out.put _ _ (by rw[ac.out];show ab F.blk.toList _ _;rw[a4];exact a1.out) ?_ (fun q hq=>Q1 (by rw[ac.out];exact hq));rw[<-Z.out];exact(ce _ _).ok [] _ _ (Mm G.out u.out s) (ab.refl [] _).drew (by simp)
     go_wp2;go_ret;exact⟨rfl,HM.out.wrote a2.out Rv S5.out⟩
theorem Pv(k:List Tx)(A C D:Int)(s t:ByteArray)(g:World)(h:cM g b H w m k l)(hV:w.V.length≠0)(hA:qB A)(hN:l<=1073741824) :
  Calls prog 9 #[.pointer (some ⟨b,0,none⟩),.agg #[.int .i64 12,.int .i64 A,.int .i64 C,.int .i64 D,.string s,.string t]] g fun e N=>qM b H l e N:=by
 obtain⟨W,O⟩:∃W,Hid (g.alloc (.cells #[.int .i64 12,.int .i64 A,.int .i64 C,.int .i64 D,.string s,.string t] 28)=W):=⟨_,rfl⟩
 obtain⟨J,I,af,q⟩:=h.m.boxed 12 A C D s t W O.out;have HT:Hid (cM W b H w m k l):=h.Vb q;obtain⟨r,u,S,T,U,X,v⟩:=cQ I;have Y:Hid _:=(lq b l H w 12 A C D s t W J (by omega));have Z:Hid (gx W b g.heap.size H w l 12 A C D s t):=⟨J,I⟩;have ad:=h.m.len.1;have j:Hid (∀z,Calls prog 12 #[.int .i64 A,.int .i64 w.V.length] z fun e N=>e=.returned (.int .i64 (eG A w.V.length:Nat))/\N=z):=fun z=>eQ A w.V.length z hA ⟨by omega,by omega⟩
 have p:=fY A w.V.length (by omega);obtain⟨i,Hi⟩:∃i,Hid (eG A w.V.length=i):=⟨_,rfl⟩
 rw[Hi.out]at j p;have ac:((w.V.length:Int)==0)=false:=Rh.2 (by omega);have ag:(i:Int)<(w.V.length:Int):=by omega
 clear h J I q;go_enter func9,ntmps9
 go_upto_region 1 with fail
 rw[O.out]
 go_upto_region 2 with (go_at_call 11;refine QU Y.out ?_;rintro e y ⟨rfl,L⟩)
 have a:Hid (gx y b g.heap.size H w l 12 A C D s t):=Z.out.Vb L;have E:Hid (cM y b H w m k l):=HT.out.Vb L;clear r u S T U X v L;obtain⟨r,u,-⟩:=cQ a.out.o;have v:=ae a.out.o;have G:y.cell? ⟨b,0,none⟩=some (.slice w.hx.ao w.V.length w.hx.cap):=by rw[aa a.out.m.blk];rfl
 have P:=ae a.out.m.blk
 go_upto_region 4 with fail
 go_quiet ((go_at_call 12;exact Rd (j.out _)))
 go_upto_region 5 with fail
 obtain⟨f,d⟩:∃f,Hid (y.drewN nq=f):=⟨_,rfl⟩
 rw[d.out];have c:Hid (gx f b g.heap.size H w l 12 A C D s t):=a.out.Vb (by rw[<-d.out];exact(ab.refl [] _).drewN nq);have F:Hid (cM f b H w m k l):=E.out.Vb (by rw[<-d.out];exact(ab.refl [] _).drewN nq);clear r u v G P;obtain⟨r,u,S,T,U,X,v⟩:=cQ c.out.o;obtain⟨x,ai,fs,hd,lo,hi,M,K,st,g1,g2,n,⟨Q,z1,d1⟩,R,z2,d2⟩:=c.out.m.ver p;have G:f.cell? ⟨b,0,none⟩=some (.slice w.hx.ao w.V.length w.hx.cap):=by rw[aa c.out.m.blk];rfl
 have c1:f.cell? ⟨b,1,none⟩=some (.slice w.hm.ao w.V.length w.hm.cap):=by rw[aa c.out.m.blk];rfl
 rw[Q]at G;rw[R]at c1;have P:=ae c.out.m.blk;have B:Hid _:=wj b l H w m k i x ai fs hd lo hi M K st s f F.out hN n;clear n Q R;go_wp2_with (go_at_call 18;refine QU B.out ?_;rintro e w3 ⟨rfl,q1⟩);go_ret;exact⟨rfl,q1⟩
theorem Pw(J:List Tx)(A C:Int)(s t:ByteArray)(y:World)(h:cM y b H w m J l)(hV:w.V.length≠0)(hA:qB A)(hC:qB C)(hN:l<=1073741824) :
  Calls prog 9 #[.pointer (some ⟨b,0,none⟩),.agg #[.int .i64 19,.int .i64 A,.int .i64 C,.int .i64 12,.string s,.string t]] y fun e r=>qM b H l e r:=by
 obtain⟨W,HW⟩:∃W,Hid (y.alloc (.cells #[.int .i64 19,.int .i64 A,.int .i64 C,.int .i64 12,.string s,.string t] 28)=W):=⟨_,rfl⟩
 obtain⟨hM,hB,aS,O⟩:=h.m.boxed 19 A C 12 s t W HW.out;have HT:Hid (cM W b H w m J l):=h.Vb O;obtain⟨z,B,X,Y,Z,o5,D⟩:=cQ hB;have HL:Hid _:=(lq b l H w 19 A C 12 s t W hM (by omega));have HS:Hid (gx W b y.heap.size H w l 19 A C 12 s t):=⟨hM,hB⟩;have az:=h.m.len.1;have F:Hid (∀a,Calls prog 12 #[.int .i64 A,.int .i64 w.V.length] a fun e r=>e=.returned (.int .i64 (eG A w.V.length:Nat))/\r=a):=fun a=>eQ A w.V.length a hA ⟨by omega,by omega⟩
 have N:=fY A w.V.length (by omega);obtain⟨i,Hi⟩:∃i,Hid (eG A w.V.length=i):=⟨_,rfl⟩
 rw[Hi.out]at F N;have ax:((w.V.length:Int)==0)=false:=Rh.2 (by omega);have a2:(i:Int)<(w.V.length:Int):=by omega
 clear h hM hB O;go_enter func9,ntmps9
 go_upto_region 1 with fail
 rw[HW.out]
 go_upto_region 2 with (go_at_call 11;refine QU HL.out ?_;rintro e w1 ⟨rfl,k1⟩)
 have p:Hid (gx w1 b y.heap.size H w l 19 A C 12 s t):=HS.out.Vb k1;have al:Hid (cM w1 b H w m J l):=HT.out.Vb k1;clear z B X Y Z o5 D k1;obtain⟨z,B,-⟩:=cQ p.out.o;have D:=ae p.out.o;have U:w1.cell? ⟨b,0,none⟩=some (.slice w.hx.ao w.V.length w.hx.cap):=by rw[aa p.out.m.blk];rfl
 have bz:=ae p.out.m.blk
 go_upto_region 4 with fail
 go_quiet ((go_at_call 12;exact Rd (F.out _)))
 go_upto_region 5 with fail
 obtain⟨u,v⟩:∃u,Hid (w1.drewN nq=u):=⟨_,rfl⟩
 rw[v.out];have j:Hid (gx u b y.heap.size H w l 19 A C 12 s t):=p.out.Vb (by rw[<-v.out];exact(ab.refl [] _).drewN nq);have I:Hid (cM u b H w m J l):=al.out.Vb (by rw[<-v.out];exact(ab.refl [] _).drewN nq);clear z B D U bz;obtain⟨z,B,X,Y,Z,o5,D⟩:=cQ j.out.o;obtain⟨x,S,fs,hd,lo,hi,R,M,st,g1,g2,n,⟨e1,z1,d1⟩,K,z2,d2⟩:=j.out.m.ver N;have U:u.cell? ⟨b,0,none⟩=some (.slice w.hx.ao w.V.length w.hx.cap):=by rw[aa j.out.m.blk];rfl
 have c1:u.cell? ⟨b,1,none⟩=some (.slice w.hm.ao w.V.length w.hm.cap):=by rw[aa j.out.m.blk];rfl
 rw[e1]at U;rw[K]at c1;have bz:=ae j.out.m.blk;have ag:Hid _:=K0 S fs hd R M st u n.d n.st n.le n.ok;have ad:Hid (∀c a,ab [] u a->Calls prog 18 #[.pointer (some ⟨b,0,none⟩),.pointer (some ⟨x,0,none⟩),.pointer (some ⟨S,0,none⟩),.string c] a fun e r=>qM b H l e r):=fun c a k=>wj b l H w m J i x S fs hd lo hi R M st c a (I.out.Vb k) hN (n.Vb k)
 clear n e1 K
 go_upto_region 34 with (go_at_call 22;refine QU ag.out ?_;rintro e w3 ⟨L,h3,rfl,T,l3⟩)
 have E:Hid _:=T.kept;have ai:Hid (gx w3 b y.heap.size H w l 19 A C 12 s t):=j.out.Vb T.kept;have af:Hid (cm w3 h3.ao 6 jJ L):=aw.srcG (f:=jJ) T.own (fun _=>rfl)
 have a0:Hid (L.length<=h3.cap):=by
  rcases T.own.Vm with ⟨-,K,-⟩ | ⟨g,ap,-,-,e3,-⟩
  ·have K:L.length=0:=K
   show L.length<=_;omega
  ·exact e3
 clear z B X Y Z o5 D U c1 bz z1 d1 z2 d2 T;obtain⟨z,B,X,Y,Z,o5,D⟩:=cQ ai.out.o;obtain⟨an,aT⟩:=h3
 by_cases hL:L.length=0
 ·rw[hL]
  go_wp2;go_ret;exact⟨rfl,_,_,_,_,(I.out.Vb E.out).more,rfl⟩
 ·have ar:((L.length:Int)==0)=false:=Rh.2 (by omega)
  have G:Hid (∀a,Calls prog 12 #[.int .i64 C,.int .i64 L.length] a fun e r=>e=.returned (.int .i64 (eG C L.length:Nat))/\r=a):=fun a=>eQ C L.length a hC ⟨by omega,by omega⟩
  have P:=fY C L.length (by omega);obtain⟨k,Hk⟩:∃k,Hid (eG C L.length=k):=⟨_,rfl⟩
  rw[Hk.out]at G P;have a3:(k:Int)<(L.length:Int):=by omega
  obtain⟨g0,eg,a1,hc⟩:=af.out k _ (QP P);replace eg:an=some ⟨g0,0,none⟩:=eg;subst eg;have r0:=hc 0 _ rfl;rw[Tg]at r0;clear hc;generalize L[k].label=c at *;have ac:Hid (∀a,ab [] w3 a->Calls prog 23 #[.pointer (some ⟨b,0,none⟩),.pointer (some ⟨x,0,none⟩),.pointer (some ⟨S,0,none⟩),.string c,.string s,.int .i64 12] a fun e r=>qM b H l e r):=fun a k=>Nb b x S c s a _ (ad.out c a (E.out.trans k))
  go_upto_region 37 with (go_at_call 12;refine QU (G.out _) ?_;rintro q w4 ⟨rfl,Q⟩;rw[Q];clear Q)
  go_region_with (go_at_call 23;refine(ac.out _ (by exact(ab.refl [] _).drew)).mono ?_;rintro e w9 ⟨rfl,q9⟩)
  all_goals
   go_wp2;go_ret;exact⟨rfl,q9⟩
theorem JQ(y:List Tx)(o:pB)(f:World)(h:cM f b H w m y l)(n:l<=1073741824)(G:M3 o) :
  Calls prog 9 #[.pointer (some ⟨b,0,none⟩),.agg #[.int .i64 o.k,.int .i64 o.a,.int .i64 o.c,.int .i64 o.d,.string o.s,.string o.t]] f fun e v=>qM b H l e v:=by
 obtain⟨k,A,C,D,s,t⟩:=o;obtain⟨p,x,F,B,r,J⟩:=G;simp only at *;have i:=h.m;have j:∀{c:Calls prog 9 #[.pointer (some ⟨b,0,none⟩),.agg #[.int .i64 k,.int .i64 A,.int .i64 C,.int .i64 D,.string s,.string t]] f (fun e v=>iB b H w l true e v)},Calls prog 9 #[.pointer (some ⟨b,0,none⟩),.agg #[.int .i64 k,.int .i64 A,.int .i64 C,.int .i64 D,.string s,.string t]] f (fun e v=>qM b H l e v):=fun {c}=>c.mono (fun e v q=>h.up q)
 have z:k=1∨k=2∨k=3∨k=4∨k=5∨k=6∨k=7∨k=15∨k=16∨k=17∨k=18∨(k=8∨k=9∨k=10∨k=12∨(k=19/\D=12)):=by omega
 rcases z with rfl | rfl | rfl | rfl | rfl | rfl | rfl | rfl | rfl | rfl | rfl | E
 ·exact j (c:=iy b l H w _ A C D s t f i (fun W g=>Pa b l H w A C D s t W g n))
 ·exact j (c:=iy b l H w _ A C D s t f i (fun W g=>Pb b l H w A C D s t W g n B r))
 ·exact j (c:=iy b l H w _ A C D s t f i (fun W g=>Pc b l H w A C D s t W g))
 ·exact j (c:=iy b l H w _ A C D s t f i (fun W g=>Pd b l H w A C D s t W g n))
 ·exact j (c:=iy b l H w _ A C D s t f i (fun W g=>Pe b l H w A C D s t W g n))
 ·exact j (c:=iy b l H w _ A C D s t f i (fun W g=>Pf b l H w A C D s t W g n p x B r))
 ·exact j (c:=iy b l H w _ A C D s t f i (fun W g=>Pg b l H w A C D s t W g p x F))
 ·exact j (c:=iy b l H w _ A C D s t f i (fun W g=>NH b l H w A C D s t W g))
 ·exact j (c:=iy b l H w _ A C D s t f i (fun W g=>NI b l H w A C D s t W g))
 ·exact j (c:=iy b l H w _ A C D s t f i (fun W g=>NJ b l H w A C D s t W g h.q))
 ·exact JP b 18 A C D s t f _ (fun W I=>NK b l H w m y A C D s t W (h.Vb I) n p x)
 by_cases u:w.V.length=0
 ·exact j (c:=JT b l H w k A C D s t f i (by omega) u)
 ·rcases E with rfl | rfl | rfl | rfl | ⟨rfl,rfl⟩
  ·exact j (c:=Qj b l H w A C D s t f i u p x n)
  ·exact j (c:=Qk b l H w A C D s t f i u p n B r)
  ·exact j (c:=Pu b l H w A C D s t f i u p n)
  ·exact Pv b l H w m y A C D s t f h u p n
  ·exact Pw b l H w m y A C s t f h u p x n
def Qc(w0:World)(h:Hd)(L:List pB):It where
 B:=List.range w0.heap.size++h.blk.toList
 P w:=ab [] w0 w/\aw w h (ja L)
 lt w a q hq:=by
  rcases Rr.1 hq with e | e
  ·exact QX (Ra.1 e) a.1.size
  ·exact a.2.lt (aN e)
 ok S w w' a k hb:=by
  refine⟨⟨k.os.trans a.1.os,k.tape.trans a.1.tape,k.output.trans a.1.output,Q3 a.1.size k.size,fun q hq _=>?_⟩,a.2.Vg (fun q hq=>k.block q (a.2.lt hq) (hb q (Se _ (by rw[hq];simp))))⟩;rw[k.block q (QX hq a.1.size) (hb q (RN _ (Ra.2 hq)))];exact a.1.block q hq (by simp)
def QK:It where
 B:=[]
 P _:=True
 lt _ _ q hq:=by cases hq
 ok _ _ _ _ _ _:=trivial
def PE:Mc:=⟨⟨none,0⟩,⟨none,0⟩,⟨none,0⟩,⟨none,0⟩,⟨none,0⟩,[],[],[],0,0,0,0,⟨#[]⟩,0,0,⟨#[]⟩,0,0,.slice none 0 0,.slice none 0 0⟩
theorem LG{d:World}{L:List pB}(r:ab [] f g)(p:aw g y (ja L))(k:ab [] g d)(o:d.heap[g.heap.size]?=some (.cells PE.cells.toArray 42 (0,0))):∃I,cM d g.heap.size I PE ⟨none,0⟩ [] 0/\I (10,0)=Qc f y L:=by
 have s:nJ g (fk (fun _=>QK) (10,0) (Qc f y L)):=by
  refine⟨fun q=>?_,fun q C a b l n=>?_⟩
  ·by_cases e:q=(10,0)
   ·subst e;rw[bJ];exact⟨r,p⟩
   ·rw[aq _ _ e];exact trivial
  ·by_cases e:q=(10,0)
   ·subst e;rw[aq _ _ (Ne.symm a)]at n;cases n
   ·rw[aq _ _ e]at l;cases l
 have t:=s.put (0,0) (rB g.heap.size 42 PE.cells) (k.mono (by simp)) o (fun q a=>QV (by rw[Q9.1 a];exact QR _));have u:=t.put (1,0) (ce ⟨none,0⟩ (lB 46 [])) (ab.refl _ _) (QZ _ _ _ _) (fun q a=>by cases a);have v:=u.put (2,0) (ce ⟨none,0⟩ (lB 47 [])) (ab.refl _ _) (QZ _ _ _ _) (fun q a=>by cases a);have w:=v.put (3,0) (ce ⟨none,0⟩ (cr [])) (ab.refl _ _) (QZ _ _ _ _) (fun q a=>by cases a);have z:=w.put (4,0) (ce ⟨none,0⟩ (ig [])) (ab.refl _ _) (QZ _ _ _ _) (fun q a=>by cases a);have A:=z.put (5,0) (ce ⟨none,0⟩ (ig [])) (ab.refl _ _) (QZ _ _ _ _) (fun q a=>by cases a);have B:=A.put (11,0) (ce ⟨none,0⟩ (md [])) (ab.refl _ _) (QZ _ _ _ _) (fun q a=>by cases a);refine⟨_,⟨⟨B,?_,?_,?_,?_,?_,?_,(fun i x m h c=>by cases c),(fun i x m h c=>by cases c),(fun j=>⟨by show(0:Nat)<=_;omega,by show(0:Nat)<=_;omega⟩),⟨QR _,QR _,QR _⟩,⟨⟨by decide,by decide⟩,⟨by decide,by decide⟩,by decide,by decide⟩⟩,rfl,⟨rfl,bJ _ _ _,(fun i x m h c=>by cases c),QR _⟩⟩,?_⟩
 all_goals (simp only[fk];rfl)
theorem Hj:(Instr.build 42 #[]).run prog d=.ok (.agg PE.cells.toArray) d :=
 run_build d 42 _ _ (by kernel_rfl)
theorem MO(L:List pB)(w:World)(R:ab [] d w)(Q:aw w m (ja L))(hL:L.length<=1073741824)(t:∀i,i<L.length->M3 (lT L i)) :
  Calls prog 8 #[.slice m.ao L.length m.cap] w fun e w'=>e=.returned (.int .i64 (-1))/\ab [] d w':=by
 obtain⟨h,a⟩:=m;obtain⟨W,x⟩:∃W,Hid (w.alloc (.cells PE.cells.toArray 42)=W):=⟨_,rfl⟩
 obtain⟨I0,r,p⟩:=LG R Q (show ab [] w W by rw[<-x.out];exact(ab.refl [] _).alloc _) (by rw[<-x.out];exact QS _ _);have B:Hid (∃I M l b,cM W w.heap.size I M l b 0/\I (10,0)=Qc d ⟨h,a⟩ L):=⟨_,_,_,_,r,p⟩;have D:Hid _:=t;have Z:=Hj;have K:Hid (PE.cells.toArray=#[.slice none 0 0,.slice none 0 0,.slice none 0 0,.slice none 0 0,.slice none 0 0,.int .i64 0,.int .i64 0,.int .i64 0,.int .i64 0,.string ⟨#[]⟩,.int .i64 0,.int .i64 0,.string ⟨#[]⟩,.int .i64 0,.int .i64 0,.slice none 0 0,.slice none 0 0]):=rfl;rw[K.out]at x;simp only[K.out]at Z;clear r p t Q R;go_enter func8,ntmps8
 go_upto_region 2 with fail
 rw[x.out];go_wp2
 go_loopg [4] L.length (fun g i wr=>∃k:Nat,k<=L.length/\g=L.length-k/\i=.int .i64 k/\Hid (∃I M l b,cM wr w.heap.size I M l b k/\I (10,0)=Qc d ⟨h,a⟩ L))
 case atStart=>exact⟨0,by omega,rfl,rfl,B⟩
 case round =>
  obtain⟨k,hk,hg,rfl,A⟩:=hrel;obtain⟨I,M,l,b,z,y⟩:=A.out;have T:Hid _:=y;have u:=z.m.sep.all (10,0);rw[y]at u
  by_cases s:k<L.length
  ·have ad:(k:Int)<(L.length:Int):=by omega
   obtain⟨P,G,ac,j⟩:=(aw.srcG (f:=Kj) u.2 (fun _=>rfl)) k _ (lU L k s);have c0:=j 0 _ rfl;have c1:=j 1 _ rfl;have c2:=j 2 _ rfl;have c3:=j 3 _ rfl;have c4:=j 4 _ rfl;have c5:=j 5 _ rfl;have E:Hid _:=(JQ w.heap.size k I M l b (lT L k) wr z (by omega) (D.out k s));generalize lT L k=o at *;rw[Tg]at c0;replace G:h=some ⟨P,0,none⟩:=G;subst G;clear z y u j A
   go_upto_region 6 with (go_at_call 9;refine QU E.out ?_;rintro e S ⟨rfl,N,O,v,n,c,q⟩)
   have V:Hid _:=(IK w.heap.size (k+1) N O v n S c (by omega));have C:Hid (∃I M l b,cM S w.heap.size I M l b (k+1)/\I (10,0)=Qc d ⟨some ⟨P,0,none⟩,a⟩ L):=⟨N,O,v,n,c,q.trans T.out⟩;clear c q;go_wp2_with (go_at_call 10;refine QU V.out ?_;rintro e w2 ⟨rfl,k2⟩)
   go_roundg (L.length-(k+1))
   case measure=>omega
   case rel =>
    obtain⟨X,Y,J,F,h2,H⟩:=C.out;exact⟨k+1,by omega,rfl,by go_num,X,Y,J,F,h2.Vb k2,H⟩
  ·have af:¬(k:Int)<(L.length:Int):=by omega
   have U:Hid _:=u.1;clear z y u A;go_wp2;go_ret;exact⟨rfl,U.out⟩
theorem Ja{L:List pB}{o:pB}{p:pB->Prop}(h:∀i,i<L.length->p (lT L i))(b:p o):∀i,i<(L++[o]).length->p (lT (L++[o]) i):=by
 intro i a;rw[Q0]at a;replace a:i<L.length+1:=a;unfold lT;rw[QQ]
 by_cases e:i<L.length
 ·have:=h i e
  unfold lT at this;rw[QQ]at this;rw[Q7 e];exact this
 ·rw[Q5 (by omega),show i-L.length=0 by omega];exact b
def AU(K:List Int)(k:Int)(q:Nat):Bool:=((decide (1<=k)&&decide (k<=10))||(decide (15<=k)&&decide (k<=18)))||(K.take q).any (fun x=>k==x)
theorem wy(h:z5<1∨(10<z5/\z5<15)∨18<z5):AU yd z5 0=false:=by
 unfold AU;rw[Tq,List.any_nil,Sz];simp
 omega
theorem Cc(h:(1<=z5/\z5<=10)∨(15<=z5/\z5<=18))(q:Nat):AU yd z5 q=true:=by
 unfold AU;have:((decide (1<=z5)&&decide (z5<=10))||(decide (15<=z5)&&decide (z5<=18)))=true:=by simp;omega
 rw[this];rfl
theorem Lr(K:List Int)(k:Int)(q:Nat)(h:q<K.length):AU K k (q+1)=(AU K k q||(k==K[q])):=by
 unfold AU;rw[Td,QP h,UW,<-TF];simp
theorem Nz(h:AU yd z5 T=true):((1<=z5/\z5<=10)∨(15<=z5/\z5<=18))∨z5∈yd:=by
 unfold AU at h;rw[RB]at h
 rcases h with h | h
 ·left;simp at h;omega
 ·right
  obtain⟨x,a,b⟩:=RC.1 h;rw[TR b];exact Tb a
def xD(w:World)(ka:Option Addr)(K:List Int):Prop:=∀q (hq:q<K.length),∃kb,ka=some ⟨kb,0,none⟩/\kb<w.heap.size/\w.cell? ⟨kb,q,none⟩=some (.int .i64 K[q])
theorem xD.Vb(h:xD f yt yd)(k:ab [] f g):xD g yt yd:=fun q b=>by
 obtain⟨a,e,z,c⟩:=h q b;exact⟨a,e,QX z k.size,by rw[Q6 (k.block a z (by simp))];exact c⟩
theorem xD.of(h:f.heap[T]?=some (.cells (yd.map (Value.int .i64)).toArray 3 (0,0))):xD f (some ⟨T,0,none⟩) yd:=fun q a=>⟨T,rfl,ae h,by rw[aa h];simp[a]⟩
theorem Jh(l:List pB)(K:List Int)(T:Option Addr)(w:World)(hl:l.length<=140737488351232)(hi:mx w zt l)(ho:∀o∈l,AZ o)(H:xD w T K)(ar:K.length<=100)(hK:∀o∈l,o.k∈K->o.k=12∨(o.k=19/\o.d=12)) :
  Calls prog 5 #[.slice zt l.length ya,.slice T K.length K.length] w fun e w'=>e=.returned (.bool true)/\ab [] w w':=by
 have ad:Hid _:=Fh zt ya l w hl hi ho;have HI:Hid (mx w zt l):=hi;have HO:Hid _:=ho;have U:Hid (xD w T K):=H;have V:Hid _:=hK;obtain⟨iX,an,O,P,Q⟩:=Re Lv;clear hi ho H hK;go_enter func5,ntmps5
 go_upto_region 2 with (go_at_call 7;refine QU ad.out ?_;rintro e w1 ⟨⟨r,rfl,hr⟩,k1⟩)
 have C:Hid _:=k1;have HR:Hid _:=hr;clear k1 hr
 cases r
 ·go_wp2
  go_ret;exact⟨rfl,C.out⟩
 ·obtain⟨aT,J⟩:=HR.out rfl
  have af:Hid _:=J;have X:Hid (gw w w1 ⟨none,0⟩ (ja [])):=⟨QZ _ _ _ _,(by intro k hk;cases hk),C.out⟩;clear J HR;go_wp2
  go_loopg [6,7] l.length (fun g lv iv wr=>∃(k:Nat) (v:Hd) (L:List pB),k<=l.length/\g=l.length-k/\lv=.slice v.ao L.length v.cap/\iv=.int .i64 k/\L.length<=k/\Hid (∀i,i<L.length->M3 (lT L i))/\Hid (gw w wr v (ja L)))
  case atStart=>exact⟨0,⟨none,0⟩,[],by omega,rfl,rfl,rfl,by simp,(fun i h=>by cases h),X⟩
  case round =>
   obtain⟨k,v,L,hk,hg,rfl,rfl,ax,u,t⟩:=hrel
   by_cases z:k<l.length
   ·have aS:(k:Int)<(l.length:Int):=by omega
    obtain⟨b,a4,rfl,hb,x⟩:=(mx.Vb HI.out t.out.kept) k _ (lU l k z);have m:=R4 (lU l k z);have G:=HO.out (lT l k) m;have I:=V.out (lT l k) m;have c0:=x 0 _ rfl;have c1:=x 1 _ rfl;have c2:=x 2 _ rfl;have c3:=x 3 _ rfl;have c4:=x 4 _ rfl;have c5:=x 5 _ rfl;rw[Tg]at c0;have N:=af.out k z;have s:Hid _:=G;have E:Hid _:=N;have W:Hid _:=I;have ac:Hid (xD wr T K):=xD.Vb U.out t.out.kept;generalize lT l k=o at *;clear x G N I m;have ai:=t.out.own;have al:Hid ((ja L).n<=4294967296):=by show L.length<=_;omega
    have D:Hid ((ja L).n=L.length):=rfl
    have B:Hid (AU K o.k K.length=true->M3 o):=fun q=>⟨s.out.a,s.out.c,s.out.d,E.out.1,E.out.2,by
     rcases Nz q with q | q
     ·omega
     ·have:=W.out q;omega⟩
    have y:(o.k<1/\Hid (AU K o.k 0=false))∨((10<o.k/\o.k<15)/\Hid (AU K o.k 0=false))∨(18<o.k/\Hid (AU K o.k 0=false))∨((1<=o.k/\o.k<=10)/\Hid (AU K o.k 0=true))∨((15<=o.k/\o.k<=18)/\Hid (AU K o.k 0=true)):=by
     by_cases z1:o.k<1
     ·exact Q1 ⟨z1,wy (Q1 z1)⟩
     ·by_cases z2:o.k<=10
      ·exact QV (QV (QV (Q1 ⟨⟨by omega,z2⟩,Cc (Q1 ⟨by omega,z2⟩) 0⟩)))
      ·by_cases z3:o.k<15
       ·exact QV (Q1 ⟨⟨by omega,z3⟩,wy (QV (Q1 ⟨by omega,z3⟩))⟩)
       ·by_cases z4:o.k<=18
        ·exact QV (QV (QV (QV ⟨⟨by omega,z4⟩,Cc (QV ⟨by omega,z4⟩) 0⟩)))
        ·exact QV (QV (Q1 ⟨by omega,wy (QV (QV (by omega)))⟩))
    rcases y with ⟨R,f⟩ | ⟨⟨R,h2⟩,f⟩ | ⟨R,f⟩ | ⟨⟨R,h2⟩,f⟩ | ⟨⟨R,h2⟩,f⟩
    all_goals
     go_wp2
     go_loopg [9,10] K.length (fun g a j w2=>∃q:Nat,q<=K.length/\g=K.length-q/\a=.bool (AU K o.k q)/\j=.int .i64 q/\wr=w2)
     case atStart=>exact⟨0,by omega,rfl,congrArg Value.bool (by rw[f.out] <;> simp <;> omega),rfl,rfl⟩
     case round =>
      obtain⟨q,hq,az,rfl,rfl,rfl⟩:=hrel
      by_cases M:q<K.length
      ·have a1:(q:Int)<(K.length:Int):=by omega
       obtain⟨kb,rfl,a3,cq⟩:=ac.out q M;have p:Hid _:=Lr K o.k q M;generalize K[q]=kq at *
       cases S:AU K o.k q
       ·rw[S,Sp]at p
        go_wp2
        go_roundg (K.length-(q+1))
        case measure=>omega
        case rel=>exact⟨q+1,by omega,rfl,congrArg Value.bool p.out.symm,by go_num,rfl⟩
       ·rw[S,Ts]at p
        go_wp2
        go_roundg (K.length-(q+1))
        case measure=>omega
        case rel=>exact⟨q+1,by omega,rfl,congrArg Value.bool p.out.symm,by go_num,rfl⟩
      ·have ap:q=K.length:=by omega
       subst ap;have a2:¬(K.length:Int)<(K.length:Int):=by omega
       cases S:AU K o.k K.length
       ·go_wp2
        go_roundg (l.length-(k+1))
        case measure=>omega
        case rel=>exact⟨k+1,v,L,by omega,rfl,rfl,by go_num,by omega,u,t⟩
       ·have Z:Hid _:=B.out S
        go_wp2_with (at_builtin;refine cZ wr rfl (.tmp 57) (.tmp 62) 22 rfl iX (.agg #[.int .i64 0,.int .i64 0,.int .i64 0,.int .i64 0,.string ⟨#[]⟩,.string ⟨#[]⟩]) 64 v (ja L) (Kj o) underlying22 an O P Q rfl (show 0<6 by omega) (by rw[D.out];simp[Act.eval]) ai al.out (by omega) (by simp[Act.eval]) rfl (Aq o) ?_;intro h5 w5 A F;rw[ja,gM]at A;have Y:Hid _:=t.out.Vl F A;clear A F)
        go_roundg (l.length-(k+1))
        case measure=>omega
        case rel=>exact⟨k+1,h5,L++[o],by omega,rfl,by rw[D.out,Q0];rfl,by go_num,by rw[Q0];show _+1<=_;omega,Ja u.out Z.out,Y⟩
   ·have a0:¬(k:Int)<(l.length:Int):=by omega
    have ag:Hid _:=(MO w v L wr t.out.kept t.out.own (by omega) u.out);go_wp2_with (go_at_call 8;refine QU ag.out ?_;rintro e w5 ⟨rfl,k5⟩);go_ret;exact⟨rfl,k5⟩
theorem nk{P:Program}{l:Array Oper}{f:List Oper}{o:Oper}{a:Act}{Q:Exit->Act->World->Prop}(L:o.guard=none)(s x:Operand)(t:TypeId)(y:o.op=Op.call { callee:=Callee.builtin Builtin.append,args:=#[s,x],argTypes:=#[t,t] })(i:TypeInfo)(z:Value)(c:Nat)(h:Hd)(r:dN)(b:List Value)(B:P.underlying t=some (.slice r.e))(C:P.info? r.e=some i)(D:i.zero=some z)(E:i.size=r.size)(F:i.bytes=c)(G:z.cells.size=r.size)(H:0<r.size)(O:a.eval s=.slice h.ao r.n h.cap)(g:aw d h r)(V:r.n+1<=140737488355328)(J:(r.n+1)*c<=140737488355328)(R:a.eval x=.slice (some ⟨d.heap.size,0,none⟩) 1 1)(W:b.length=r.size)(q:∀u∈b,u.oneCell'=true)(I:∀p m,aw m p ⟨r.e,r.size,r.n+1,r.xs++b⟩->bt d m h p->wpList P l Q f (a.put o.dst (.slice p.ao (r.n+1) p.cap)) m) :
  wpList P l Q (o :: f) a (d.alloc (.cells b.toArray r.e)):=by
 have A:ab [] d (d.alloc (.cells b.toArray r.e)):=(ab.refl [] _).alloc _;have N:(d.alloc (.cells b.toArray r.e)).heap[d.heap.size]?=some (.cells b.toArray r.e (0,0)):=QS _ _;obtain⟨w,m,k,S,T⟩:=pE (P:=P) (d.alloc (.cells b.toArray r.e)) t o.type i z c h r B C D E F G H (g.Vb A) (some ⟨d.heap.size,0,none⟩) 1 1 b (by omega) (fun e=>by cases e) (fun U e j u M=>by cases e;rw[bL,aa N];simpa using M) q (by unfold maxLen;omega) J;refine wpList_plain L fun K v=>?_
 unfold Oper.wp;simp[execOp,y,resolve,invoke,builtin,O,R,k,Result.andThen];exact v _ _ (I w m S ((bt.Vb A).trans T))
def pj(d:Int)(o:pB):pB:=if o.k=19 then { o with d:=d } else o
theorem LP(d:List pB)(w:World)(hl:d.length*64<=140737488351232)(hi:mx w zt d) :
  Calls prog 6 #[.slice zt d.length l,.int .i64 L] w fun e w'=>∃j,e=.returned (.slice j.ao d.length j.cap)/\gw w w' j (ja (d.map (pj L))):=by
 have HI:Hid (mx w zt d):=hi;obtain⟨iX,J,r,u,v⟩:=Re Lv;have P:Hid (gw w w ⟨none,0⟩ (ja [])):=⟨QZ _ _ _ _,(by intro k hk;cases hk),ab.refl _ _⟩;clear hi;go_enter func6,ntmps6;go_wp2
 go_loopg [5,6] d.length (fun g lv iv wr=>∃(k:Nat) (j:Hd) (f:List pB),k<=d.length/\g=d.length-k/\lv=.slice j.ao f.length j.cap/\iv=.int .i64 k/\f.length=k/\Hid (f=(d.take k).map (pj L))/\Hid (gw w wr j (ja f)))
 case atStart=>exact⟨0,⟨none,0⟩,[],by omega,rfl,rfl,rfl,rfl,rfl,P⟩
 case round =>
  obtain⟨k,j,f,hk,hg,rfl,rfl,B,O,M⟩:=hrel
  by_cases K:k<d.length
  ·have ad:(k:Int)<(d.length:Int):=by omega
   obtain⟨b,ag,rfl,hb,E⟩:=(mx.Vb HI.out M.out.kept) k _ (lU d k K)
   have p:Hid (f++[pj L (lT d k)]=(d.take (k+1)).map (pj L)):=by
    show _=_
    rw[Td,lU d k K,Ry,<-O.out];rfl
   have c0:=E 0 _ rfl;have c1:=E 1 _ rfl;have c2:=E 2 _ rfl;have c3:=E 3 _ rfl;have c4:=E 4 _ rfl;have c5:=E 5 _ rfl;rw[Tg]at c0;generalize lT d k=o at *;clear E;have D:(ja f).n=f.length:=rfl;have F:Hid ((ja f).n=f.length):=D;have H:Hid ((ja f).n+1<=140737488355328):=by show(ja f).n+1<=_;rw[D];omega
   have I:Hid (((ja f).n+1)*64<=140737488355328):=by show((ja f).n+1)*64<=_;rw[D];omega
   obtain⟨X,N⟩:∃X,Hid (wr.alloc (.cells #[.int .i64 o.k,.int .i64 o.a,.int .i64 o.c,.int .i64 o.d,.string o.s,.string o.t] 28)=X):=⟨_,rfl⟩
   have G:Hid (ab [] wr X):=by show ab _ _ _;rw[<-N.out];exact(ab.refl [] _).alloc _
   have q:Hid (X.heap[wr.heap.size]?=some (.cells #[.int .i64 o.k,.int .i64 o.a,.int .i64 o.c,.int .i64 o.d,.string o.s,.string o.t] 28 (0,0))):=by show _=_;rw[<-N.out];exact QS _ _
   cases A:(o.k==19)
   ·have y:Hid (pj L o=o):=by show _=_;unfold pj;rw[QT (fun e=>by rw[e]at A;cases A)]
    rw[y.out]at p;obtain⟨T,U,V,W,Z,b5,z⟩:=cQ q.out;have h:Hid _:=M.out.Vb G.out;have C:=h.out.own
    go_upto_region 6 with fail
    rw[N.out];go_wp2_with (at_builtin;refine nk X rfl (.tmp 23) (.tmp 25) 22 rfl iX (.agg #[.int .i64 0,.int .i64 0,.int .i64 0,.int .i64 0,.string ⟨#[]⟩,.string ⟨#[]⟩]) 64 j (ja f) (Kj o) underlying22 J r u v rfl (show 0<6 by omega) (by rw[F.out];simp[Act.eval]) C H.out I.out (by simp[Act.eval]) rfl (Aq o) ?_;intro h5 w5 i m;rw[ja,gM]at i;have x:Hid _:=h.out.Vl m i;clear i m)
    go_roundg (d.length-(k+1))
    case measure=>omega
    case rel=>exact⟨k+1,h5,f++[o],by omega,rfl,by rw[Q0,B];rfl,by go_num,by rw[Q0];show _+1=_;omega,p,x⟩
   ·have y:Hid (pj L o={ o with d:=L }):=by show _=_;unfold pj;rw[QW (TR A)]
    rw[y.out]at p;obtain⟨Y,Q⟩:∃Y,Hid (X.setCell ⟨wr.heap.size,3,none⟩ (.int .i64 L)=Y):=⟨_,rfl⟩
    have S:Hid (ab [] wr Y):=by show ab _ _ _;rw[<-Q.out];exact G.out.setCell (QV (QR _)) _
    have R:Hid (Y.heap[wr.heap.size]?=some (.cells #[.int .i64 o.k,.int .i64 o.a,.int .i64 o.c,.int .i64 L,.string o.s,.string o.t] 28 (0,0))):=by show _=_;rw[<-Q.out,ah q.out 3 _];rfl
    obtain⟨T,U,V,W,Z,b5,z⟩:=cQ q.out;have bf:=am q.out 3;have h:Hid _:=M.out.Vb S.out;have C:=h.out.own
    go_upto_region 6 with fail
    rw[N.out]
    go_upto_region 8 with fail
    rw[Q.out];clear T U V W Z b5 z bf;obtain⟨T,U,V,W,Z,b5,z⟩:=cQ R.out;go_wp2_with (at_builtin;refine nk Y rfl (.tmp 23) (.tmp 25) 22 rfl iX (.agg #[.int .i64 0,.int .i64 0,.int .i64 0,.int .i64 0,.string ⟨#[]⟩,.string ⟨#[]⟩]) 64 j (ja f) (Kj { o with d:=L }) underlying22 J r u v rfl (show 0<6 by omega) (by rw[F.out];simp[Act.eval]) C H.out I.out (by simp[Act.eval]) rfl (Aq _) ?_;intro h5 w5 i m;rw[ja,gM]at i;have x:Hid _:=h.out.Vl m i;clear i m)
    go_roundg (d.length-(k+1))
    case measure=>omega
    case rel=>exact⟨k+1,h5,f++[(⟨o.k,o.a,o.c,L,o.s,o.t⟩:pB)],by omega,rfl,by rw[Q0,B];rfl,by go_num,by rw[Q0];show _+1=_;omega,p,x⟩
  ·have e:k=d.length:=by omega
   subst e;have af:¬(d.length:Int)<(d.length:Int):=by omega
   rw[RK]at O;have ac:Hid (f.length=d.length):=B;go_wp2;go_ret;exact⟨j,rfl,by rw[<-O.out];exact M.out⟩
theorem aw.opsIn{l:List pB}(o:aw f y (ja l)):mx f y.ao l:=fun i x c=>by
 obtain⟨g,e,b,a⟩:=(aw.srcG (f:=Kj) o (fun _=>rfl)) i x c;exact⟨g,0,e,b,fun j u d=>by rw[SJ];exact a j u d⟩
theorem LO(b:qB z5){o:pB}(h:AZ o):AZ (pj z5 o):=by
 unfold pj
 split
 ·exact⟨h.k,h.a,h.c,b,h.s,h.t⟩
 ·exact h
theorem Eh(l:List pB)(w:World)(u:l.length*64<=140737488351232)(m:mx w zt l)(n:∀o∈l,AZ o) :
  Calls prog 4 #[.slice zt l.length ya] w fun e i=>e=.returned (.bool true)/\ab [] w i:=by
 have f:Hid _:=LP zt ya 12 l w u m;have r:Hid _:=n;clear m n;go_enter func4,ntmps4
 go_upto_region 2 with (go_at_call 6;refine QU f.out ?_;rintro e c ⟨b,rfl,j⟩)
 have d:Hid _:=j.kept
 have g:Hid (Calls prog 5 #[.slice b.ao l.length b.cap,.slice (some ⟨c.heap.size,0,none⟩) 2 2] (c.alloc (.cells #[.int .i64 12,.int .i64 19] 3)) fun e i=>e=.returned (.bool true)/\ab [] (c.alloc (.cells #[.int .i64 12,.int .i64 19] 3)) i):=by
  have:=Jh b.ao b.cap (l.map (pj 12)) [12,19] (some ⟨c.heap.size,0,none⟩) (c.alloc (.cells #[.int .i64 12,.int .i64 19] 3)) (by rw[Ri];omega) (j.own.opsIn.Vb ((ab.refl [] _).alloc _)) (fun o h=>by
   obtain⟨q,p,rfl⟩:=Si.1 h;exact LO ⟨by decide,by decide⟩ (r.out q p)) (xD.of (QS _ _)) (by decide) (fun o h a=>by
   obtain⟨q,p,rfl⟩:=Si.1 h;simp only[List.mem_cons,List.not_mem_nil,or_false]at a
   rcases a with a | a
   ·exact Q1 a
   ·refine QV ⟨a,?_⟩
    unfold pj at a ⊢
    by_cases e:q.k=19
    ·rw[QW e]
    ·rw[QT e]at a;exact absurd a e)
  rw[Ri]at this;exact this
 clear j;obtain⟨s,t⟩:=b;go_wp2_with (go_at_call 5;refine QU g.out ?_;rintro e x ⟨rfl,v⟩);go_ret;exact⟨rfl,(d.out.alloc _).trans v⟩
section
open Go.ChangeShapes Go.WideShapes Go.ChangeAt Go.RowKit
theorem own:ownKnob prog.godebug=none:=by kernel_rfl
theorem NG:laidOutB prog=true:=by kernel_rfl
theorem OP:prog.bytesOf 28=64:=by kernel_rfl
theorem KR:prog.cellsOf 28=6:=by kernel_rfl
theorem zK:prog.cellsOf 3=1:=by kernel_rfl
theorem F7:prog.cellsOf 9=1:=by kernel_rfl
theorem uO:prog.underlying 28=some (.struct (prog.fieldsOf 28)):=by kernel_rfl
theorem Nn:(prog.fieldsOf 28).toList.map (fun f=>(f.type,f.offset))=[(3,0),(3,1),(3,2),(3,3),(9,4),(9,5)]:=by kernel_rfl
theorem tT(h:[(3,0),(3,1),(3,2),(3,3),(9,4),(9,5)][b]?=some (l,ya)):∃f,(prog.fieldsOf 28)[b]?=some f/\f.type=l/\f.offset=ya:=by
 rw[<-Nn,List.getElem?_map,Array.getElem?_toList]at h
 cases e:(prog.fieldsOf 28)[b]? with
 | none=>rw[e]at h;cases h
 | some f=>rw[e]at h;simp at h;exact⟨f,rfl,h.1,h.2⟩
theorem Qh:(prog.fieldsOf 28).size=6:=by kernel_rfl
theorem FF{H:Type}(P:Program)(e:TypeId){L:List (DataW H)}{d:DataW H}(b:d∈L)(c:T∈DataW.weights P e d):T∈DataW.weightsAll P e L:=by
 induction L with
 | nil=>cases b
 | cons a r f =>
  rw[DataW.weightsAll,List.mem_append]
  rcases List.mem_cons.1 b with rfl | h
  ·exact Or.inl c
  ·exact Or.inr (f h)
theorem FY:(⟨b,l,none⟩:Addr).add ya=⟨b,l+ya,none⟩:=by
 simp only[Addr.add]
 split
 ·next h=>subst h;rfl
 ·rfl
theorem NR{H:Type}{u:TypeId×Value->H}{i:List Value}{x:DataW H×List MemPlace}(h:DataW.trod u prog f 0 (fun _=>true) true T 28 i=some x) :
  ∃o:pB,i=Kj o/\(qB o.k/\qB o.a/\qB o.c/\qB o.d)/\o.s.data.toList.length∈DataW.weights prog 28 x.1/\o.t.data.toList.length∈DataW.weights prog 28 x.1:=by
 obtain⟨xs,m,-,rfl,e,g,b⟩:=DataW.trod_struct uO h;rw[KR]at e;rw[Qh]at g
 match i,e,xs,g with
 | [v0,v1,v2,v3,v4,v5],_,[y0,y1,y2,y3,y4,y5],_ =>
  obtain⟨P,J,t0,q0⟩:=tT 0 _ _ rfl;obtain⟨Q,K,t1,q1⟩:=tT 1 _ _ rfl;obtain⟨R,L,t2,q2⟩:=tT 2 _ _ rfl;obtain⟨S,M,t3,q3⟩:=tT 3 _ _ rfl;obtain⟨U,N,t4,q4⟩:=tT 4 _ _ rfl;obtain⟨V,O,t5,q5⟩:=tT 5 _ _ rfl;have C:=b 0 P J;have D:=b 1 Q K;have E:=b 2 R L;have F:=b 3 S M;have G:=b 4 U N;have I:=b 5 V O;rw[t0,q0,zK]at C;rw[t1,q1,zK]at D;rw[t2,q2,zK]at E;rw[t3,q3,zK]at F;rw[t4,q4,F7]at G;rw[t5,q5,F7]at I;obtain⟨W,v,j,w0⟩:=DataW.trod_int underlying3 C;obtain⟨X,w,l,w1⟩:=DataW.trod_int underlying3 D;obtain⟨Y,y,n,w2⟩:=DataW.trod_int underlying3 E;obtain⟨Z,z,p,w3⟩:=DataW.trod_int underlying3 F;obtain⟨s4,A,q,-⟩:=DataW.trod_string underlying9 G;obtain⟨s5,B,r,-⟩:=DataW.trod_string underlying9 I;simp at v w y z A B j l n p q r;refine⟨⟨W,X,Y,Z,s4,s5⟩,?_,⟨bounds_i64 w0,bounds_i64 w1,bounds_i64 w2,bounds_i64 w3⟩,?_,?_⟩
  ·rw[v,w,y,z,A,B];rfl
  ·rw[j,l,n,p,q,r]
   simp[DataW.weights,DataW.weightsEach]
  ·rw[j,l,n,p,q,r]
   simp[DataW.weights,DataW.weightsEach]
theorem Pn{H:Type}{I:TypeId×Value->H}{P:DataW H}{p0:List MemPlace}{O:List TypeId}{N:List (DataW H)}(Y:DataW.Trod I prog f 0 (fun _=>true) true 22 (.slice yt T v) P p0)(z:(DataW.weightsEach prog O N).all (·<=reachBytes)=true)(S:O[0]?=some 22)(R:N[0]?=some P) :
  ∃l:List pB,l.length=T/\T*64<=140737488351232/\(∀o∈l,AZ o)/\mx f yt l:=by
 obtain⟨Q,hf⟩:=Y
 rcases Go.Deep.open_slice underlying22 hf with ⟨d,_⟩ | ⟨a,ag,V,m,n,D,Pl,d,-,ad,ac,hm,U,w⟩
 ·simp[Value.cells]at d
  obtain⟨rfl,rfl,rfl⟩:=d;exact⟨[],rfl,by omega,(fun o y=>by cases y),fun i o c=>by cases c⟩
 ·simp[Value.cells]at d
  obtain⟨rfl,rfl,rfl⟩:=d;simp only[if_true]at hm;have af:T<=m:=by omega
  simp only[Prod.mk.injEq]at U;obtain⟨rfl,-⟩:=U;have A:=sized_slice z (j:=0) S R underlying22;rw[OP]at A;simp only[List.length_map,List.length_range,reachBytes]at A
  have g:∀i,i<T->∃o:pB,AZ o/\∀(j:Nat) u,(Kj o)[j]?=some u->f.cell? ((a.add (i*6)).add j)=some u:=fun i c=>by
   obtain⟨cs,E,Z⟩:=w i (by omega);rw[KR]at E;obtain⟨-,hl,F⟩:=World.cells?_some E;obtain⟨o,y,⟨r0,r1,r2,r3⟩,W,X⟩:=NR Z
   have t:∀q,q∈DataW.weights prog 28 (D i)->q<=140737488351232:=fun q hq=>by
    have L:q∈DataW.weights prog 22 (.slice ((List.range T).map D) ((List.range (m-T)).map fun j=>D (T+j)):DataW H):=by
     simp only[DataW.weights,underlying22];exact List.mem_cons_of_mem _ (List.mem_append_left _ (FF prog _ (List.mem_map.2 ⟨i,List.mem_range.2 c,rfl⟩) hq))
    have:=List.all_eq_true.1 z _ (DataW.weights_mem_each (j:=0) S R _ L);have s:q<=reachBytes:=by simpa using this
    simpa only [reachBytes] using s
   refine⟨o,⟨r0,r1,r2,r3,t _ W,t _ X⟩,fun j u G=>?_⟩;have K:j<6:=(List.getElem?_eq_some_iff.1 G).1;rw[F j K,y];exact G
  have k:Nonempty pB:=⟨⟨0,0,0,0,⟨#[]⟩,⟨#[]⟩⟩⟩
  have J:∃C:Nat->pB,∀i,i<T->AZ (C i)/\∀(j:Nat) u,(Kj (C i))[j]?=some u->f.cell? ((a.add (i*6)).add j)=some u:=by
   classical
   refine⟨fun i=>if c:i<T then Classical.choose (g i c) else Classical.choice k,fun i c=>?_⟩;simp only[dif_pos c];exact Classical.choose_spec (g i c)
  obtain⟨C,p⟩:=J;refine⟨(List.range T).map C,by simp,by omega,fun o y=>?_,fun i o c=>?_⟩
  ·obtain⟨i,E,rfl⟩:=List.mem_map.1 y
   exact(p i (List.mem_range.1 E)).1
  ·rw[List.getElem?_map]at c
   have x:i<T:=by
    rcases Nat.lt_or_ge i T with h | h
    ·exact h
    ·rw[List.getElem?_eq_none (by simp;exact h)]at c;cases c
   rw[List.getElem?_range x]at c
   cases c
   have F:=(p i x).2;obtain⟨b,M,B⟩:=a;have e:=F 0 _ rfl;have r:B=none:=by simpa [Addr.add] using World.cell?_spot ((p 0 (by omega)).2 0 _ rfl)
   subst r;refine⟨b,M,rfl,?_,fun j u G=>?_⟩
   ·rw[FY,FY]at e
    unfold World.cell? at e
    split at e
    ·next hh=>exact ae hh
    ·cases e
   ·have:=F j u G
    rw[FY,FY]at this;exact this
end
end Go.Proofs.YtpddjjabfbfifaaGreat
