import Derived.Test.YtnbhnocdhbcbcaaGreatG32
namespace Go.Proofs.YtnbhnocdhbcbcaaGreat
open Go.RowKit Tryz
open Value IntKind Ending
set_option maxHeartbeats 0
variable{H t:World}{T D S q z0 z5 z6:Nat}{v:Nat×Nat->It}{a:Mc}{u:Int}{I zb:Hd}{zt:Fs}{c:Option Nat}{y4:Option Addr}{y0:List Int}{y1:List fO}(y3:Option Addr)(b y:Nat)(i:Nat×Nat->It)(w:Mc)(y2 x N m:Int)(L M:ByteArray)(g:World)(p:Hd)
structure jO(W:World)(b B:Nat)(I:Nat×Nat->It)(M:Mc)(N:Nat)(k A C D:Int)(s t:ByteArray):Prop where
 m:cd W b I M N
 o:W.heap[B]?=some (.cells #[int i64 k,int i64 A,int i64 C,int i64 D,string s,string t] 28)
theorem jO.Wj{A C b:Int}{s d:ByteArray}(c:jO H T D v a S u A C b s d)(h:aa [] H t):jO t T D v a S u A C b s d:=⟨c.m.Wj h,h.get c.o (by simp)⟩
set_option maxRecDepth 100000
theorem Kp(h:cd g b i w y)(j:(8<=y2/\y2<=14)∨19<=y2)(p:w.V.length=0) :
  Calls prog 10 #[pointer (some ⟨b,0,none⟩),agg #[int i64 y2,int i64 x,int i64 N,int i64 m,string L,string M]] g fun e s=>iU b i w y true e s:=by
 obtain⟨W,d⟩:∃W,Hid (g.alloc (.cells #[int i64 y2,int i64 x,int i64 N,int i64 m,string L,string M] 28)=W):=⟨_,rfl⟩
 obtain⟨c,f,q,-⟩:=h.boxed y2 x N m L M W d.out;obtain⟨u,v,z,A,B,C,D⟩:=dV f;have l:Hid _:=nk b y i w y2 x N m L M W c j;have n:Hid (cd W b i w y):=c;clear h c f j;go_enter func10,ntmps10;go_upto_region 1 with fail
 rw[d.out];go_upto_region 2 with (go_at_call 12;refine R0 l.out ?_;rintro e k ⟨rfl,r⟩)
 have a:Hid (cd k b i w y):=n.out.Wj r;have o:k.cell? ⟨b,0,none⟩=some (slice w.hx.ao w.V.length w.hx.cap):=by rw[aj a.out.blk];rfl
 rw[p]at o;have t:=ae a.out.blk;go_wp2;go_ret;exact⟨rfl,_,_,a.out.more,rH.refl _ _⟩
theorem GE(c:∀a,a∈D :: iy q z0->a∉S :: (I.blk.toList++iy z5 z6))(g:∀a,a∈D :: iy q z0->a<T)(f:∀a,zb.blk=some a->I.blk=some a∨T<=a):∀a,a∈D :: iy q z0->a∉S :: (zb.blk.toList++iy z5 z6):=fun a b i=>by
 rcases Sv.1 i with e | e
 ·exact c a b (by rw[e];exact Sz)
 ·rcases SB.1 e with e | e
  ·rcases f a (aQ e) with d | d
   ·exact c a b (Sx _ (Ti _ (by rw[d];simp)))
   ·have:=g a b;omega
  ·exact c a b (Sx _ (Tz _ e))
structure pL(w:World)(I:Nat×Nat->It)(M:Mc)(i x m:Nat)(fs:Fs)(h:Hd)(lo hi lo2 hi2:Nat)(st:Option Nat):Prop where
 v:M.V[i]?=some (x,m,fs)
 i6:I (6,i)=Qe x fs lo hi st
 i7:I (7,i)=Qd m h fs lo2 hi2 st
 ok:zV fs
 p:dJ w x fs lo hi st
 d:dA w m fs h lo2 hi2 st
 far:∀q,q∈x :: iy lo hi->q∉m :: (h.blk.toList++iy lo2 hi2)
theorem pL.le(b:pL H v a T D S zt I q z0 z5 z6 c):zt.length<=4:=by
 obtain⟨e,f,g,i,r⟩:=b.d.anyS;exact r.le
theorem pL.st(b:pL H v a T D S zt I q z0 z5 z6 c)(k:Nat)(e:c=some k):k<zt.length/\((gn zt k).1==0)=true:=by
 subst e;exact b.p.s.1
theorem pL.Wj(b:pL H v a T D S zt I q z0 z5 z6 c)(k:aa [] H t):pL t v a T D S zt I q z0 z5 z6 c:={ b with p:=b.p.Wj k,d:=b.d.Wj k }
theorem cd.ver(d:cd H T v a D)(g:S<a.V.length) :
  ∃x m i h p g c b r e f,pL H v a S x m i h p g c b r/\(a.hx.ao=some ⟨e,0,none⟩/\e<H.heap.size/\H.cell? ⟨e,S,none⟩=some (pointer (some ⟨x,0,none⟩)))/\(a.hm.ao=some ⟨f,0,none⟩/\f<H.heap.size/\H.cell? ⟨f,S,none⟩=some (pointer (some ⟨m,0,none⟩))):=by
 obtain⟨⟨x,m,i⟩,j⟩:∃y,a.V[S]?=some y:=⟨a.V[S],RQ g⟩
 obtain⟨⟨r,h,p,g,c,b,l,n⟩,o⟩:=d.v S x m i j;obtain⟨e,z,E,u⟩:=zz d.ownX (k:=S) (x:=x) (by rw[Sy,j];rfl);obtain⟨f,A,F,w⟩:=zz d.ownM (k:=S) (x:=m) (by rw[Sy,j];rfl);have s:=d.sep.all (6,S);have t:=d.sep.all (7,S);rw[l]at s;rw[n]at t;exact⟨x,m,i,h,p,g,c,b,r,e,f,⟨j,l,n,o,s,t,fun q C B=>d.sep.far (6,S) (7,S) (bu (by decide)) q (by rw[l];exact C) (by rw[n];exact B)⟩,⟨z,E,u⟩,A,F,w⟩
theorem Qz(h:cd g b i w y)(hV:w.V.length≠0)(hA:sG x)(hN:y<=1073741824) :
  Calls prog 10 #[pointer (some ⟨b,0,none⟩),agg #[int i64 10,int i64 x,int i64 N,int i64 m,string L,string M]] g fun e H=>iU b i w y true e H:=by
 obtain⟨W,J⟩:∃W,Hid (g.alloc (.cells #[int i64 10,int i64 x,int i64 N,int i64 m,string L,string M] 28)=W):=⟨_,rfl⟩
 obtain⟨D,C,af,-⟩:=h.boxed 10 x N m L M W J.out;obtain⟨s,t,R,S,T,U,u⟩:=dV C;have X:Hid _:=(nk b y i w 10 x N m L M W D (by omega));have Y:Hid (jO W b g.heap.size i w y 10 x N m L M):=⟨D,C⟩;have ad:=h.len.1;have l:Hid (∀z,Calls prog 13 #[int i64 x,int i64 w.V.length] z fun e H=>e=returned (int i64 (fU x w.V.length:Nat))/\H=z):=fun z=>gC x w.V.length z hA ⟨by omega,by omega⟩;have r:=iH x w.V.length (by omega);obtain⟨F,Z⟩:∃F,Hid (fU x w.V.length=F):=⟨_,rfl⟩
 rw[Z.out]at l r;have ac:((w.V.length:Int)==0)=false:=Sp.2 (by omega);have ag:(F:Int)<(w.V.length:Int):=by omega
 clear h D C;go_enter func10,ntmps10;go_upto_region 1 with fail
 rw[J.out];go_upto_region 2 with (go_at_call 12;refine R0 X.out ?_;rintro e I ⟨rfl,Q⟩)
 have f:Hid (jO I b g.heap.size i w y 10 x N m L M):=Y.out.Wj Q;clear s t R S T U u Q;obtain⟨s,t,-⟩:=dV f.out.o;have u:=ae f.out.o;have B:I.cell? ⟨b,0,none⟩=some (slice w.hx.ao w.V.length w.hx.cap):=by rw[aj f.out.m.blk];rfl
 have K:=ae f.out.m.blk;go_upto_region 4 with fail
 go_quiet ((go_at_call 13;exact Ss (l.out _)));go_upto_region 5 with fail
 obtain⟨k,n⟩:∃k,Hid (I.drewN nq=k):=⟨_,rfl⟩
 rw[n.out];have a:Hid (jO k b g.heap.size i w y 10 x N m L M):=f.out.Wj (by rw[<-n.out];exact(aa.refl [] _).drewN nq);clear s t u B K;obtain⟨s,t,R,S,T,U,u⟩:=dV a.out.o;obtain⟨an,ai,fs,hd,lo,hi,G,E,st,g1,g2,c,⟨O,z1,d1⟩,P,z2,d2⟩:=a.out.m.ver r;have B:k.cell? ⟨b,0,none⟩=some (slice w.hx.ao w.V.length w.hx.cap):=by rw[aj a.out.m.blk];rfl
 have c1:k.cell? ⟨b,1,none⟩=some (slice w.hm.ao w.V.length w.hm.cap):=by rw[aj a.out.m.blk];rfl
 rw[O]at B;rw[P]at c1;have K:=ae a.out.m.blk;have A:Hid _:=Bn an ai fs hd lo hi G E st L k c.p c.d c.ok c.far;have j:Hid _:=c;clear c O P;go_wp2_with (go_at_call 17;refine R0 A.out ?_;rintro e w3 ⟨rfl,⟨al,l1,u1,l3,u3,q1,q2,q3,q4,q5⟩,q6⟩);go_ret;exact⟨rfl,a.out.m.both j.out.v j.out.i6 j.out.i7 q1 q3 q2 q4 (fun q hq=>R4 hq) q5 q6 j.out.ok⟩
theorem Q0(h:cd g b i w y)(hV:w.V.length≠0)(hA:sG x)(hN:y<=1073741824)(hs:L.size<=1073741824)(ht:M.size<=1073741824) :
  Calls prog 10 #[pointer (some ⟨b,0,none⟩),agg #[int i64 9,int i64 x,int i64 N,int i64 m,string L,string M]] g fun e w'=>iU b i w y true e w':=by
 obtain⟨W,HW⟩:∃W,Hid (g.alloc (.cells #[int i64 9,int i64 x,int i64 N,int i64 m,string L,string M] 28)=W):=⟨_,rfl⟩
 obtain⟨hM,hB,az,-⟩:=h.boxed 9 x N m L M W HW.out;obtain⟨P,Q,o2,o3,X,Y,C⟩:=dV hB;have HL:Hid _:=(nk b y i w 9 x N m L M W hM (by omega));have HS:Hid (jO W b g.heap.size i w y 9 x N m L M):=⟨hM,hB⟩;have ax:=h.len.1;have G:Hid (∀wx,Calls prog 13 #[int i64 x,int i64 w.V.length] wx fun e w'=>e=returned (int i64 (fU x w.V.length:Nat))/\w'=wx):=fun wx=>gC x w.V.length wx hA ⟨by omega,by omega⟩;have J:=iH x w.V.length (by omega);obtain⟨U,Hi⟩:∃U,Hid (fU x w.V.length=U):=⟨_,rfl⟩
 rw[Hi.out]at G J;have ar:((w.V.length:Int)==0)=false:=Sp.2 (by omega);have aS:(U:Int)<(w.V.length:Int):=by omega
 have ad:Hid (cd g b i w y):=h;clear h hM hB;go_enter func10,ntmps10;go_upto_region 1 with fail
 rw[HW.out];go_upto_region 2 with (go_at_call 12;refine R0 HL.out ?_;rintro e w1 ⟨rfl,k1⟩)
 have j:Hid (jO w1 b g.heap.size i w y 9 x N m L M):=HS.out.Wj k1;clear P Q o2 o3 X Y C k1;obtain⟨P,Q,-⟩:=dV j.out.o;have C:=ae j.out.o;have T:w1.cell? ⟨b,0,none⟩=some (slice w.hx.ao w.V.length w.hx.cap):=by rw[aj j.out.m.blk];rfl
 have bz:=ae j.out.m.blk;go_upto_region 4 with fail
 go_quiet ((go_at_call 13;exact Ss (G.out _)));go_upto_region 5 with fail
 obtain⟨u,I⟩:∃u,Hid (w1.drewN nq=u):=⟨_,rfl⟩
 rw[I.out];have c:Hid (jO u b g.heap.size i w y 9 x N m L M):=j.out.Wj (by rw[<-I.out];exact(aa.refl [] _).drewN nq);clear P Q C T bz;obtain⟨P,Q,o2,o3,X,Y,C⟩:=dV c.out.o;obtain⟨S,B,t,A,lo,hi,n,l,R,g1,g2,k,⟨e1,z1,d1⟩,e2,z2,d2⟩:=c.out.m.ver J;have T:u.cell? ⟨b,0,none⟩=some (slice w.hx.ao w.V.length w.hx.cap):=by rw[aj c.out.m.blk];rfl
 have c1:u.cell? ⟨b,1,none⟩=some (slice w.hm.ao w.V.length w.hm.cap):=by rw[aj c.out.m.blk];rfl
 rw[e1]at T;rw[e2]at c1;have bz:=ae c.out.m.blk;have H:Hid _:=(OP S L M t lo hi R u k.p hs (by omega));have E:Hid (∀s,dA s B t A n l R->Calls prog 16 #[pointer (some ⟨B,0,none⟩),string L,string M] s _):=fun s hr=>NZ B L M t A n l R s hr hs (by omega);have F:Hid (zV (fm t L M).2):=Qv k.ok L M;have a:Hid _:=k;have ac:Hid _:=c.out.o;have ai:Hid (S≠g.heap.size):=fun e=>by
  have p:=ad.out.sep.all (6,U);rw[k.i6]at p;have:=dJ.lt p S Sz;omega
 generalize mG (fm t L M).1 R=an at *;generalize fm t L M=pf at *;obtain⟨r,al⟩:=pf;simp only at H E F;clear k e1 e2;go_upto_region 18 with (go_at_call 15;refine R0 H.out ?_;rintro e s ⟨rfl,Z,q3⟩)
 have af:Hid (dA s B t A n l R):=a.out.d.kept q3 (fun q f K=>a.out.far S Sz (by rw[<-Se.1 K];exact f));have ag:Hid (dJ s S al lo hi an):=Z;have D:Hid _:=q3;have B3:=q3.get ac.out (by simp;exact fun e=>ai.out e.symm);clear P Q o2 o3 X Y C T c1 bz z1 d1 z2 d2 Z q3;obtain⟨-,-,-,-,X,Y,C⟩:=dV B3;clear B3;go_wp2_with (go_at_call 16;refine R0 (E.out s af.out) ?_;rintro e w4 ⟨rfl,h',Z,q4,q5⟩);go_ret;have O:∀q,h'.blk=some q->A.blk=some q∨u.heap.size<=q:=fun q f=>(q5 q f).elim R4 (fun z=>RZ (Sc D.out.size z));have ap:∀q,q∈B :: A.blk.toList->q∈B :: (A.blk.toList++iy n l):=fun q f=>by
  rcases Sv.1 f with e | e
  ·rw[e];exact Sz
  ·exact Sx _ (Ti _ e)
 refine⟨rfl,c.out.m.both a.out.v a.out.i6 a.out.i7 (ag.out.kept q4 (fun q f K=>a.out.far q f (ap q K))) Z (R4 ⟨rfl,rfl⟩) (R4 ⟨rfl,rfl⟩) O (fun q f K=>?_) ((D.out.mono (fun q f _=>Ti _ f)).trans (q4.mono (fun q f _=>Tz _ f))) F.out⟩;exact GE a.out.far (a.out.p.lt) O q f K
theorem cd.loads(s:cd H T v a D)(K:D<=1073741824){o n e k f b:Nat}{g:Fs}{u z:Option Nat}(V:pL H v a S z0 z5 zt I z6 k f b c)(G:a.L[q]?=some (u,z,g))(t:o+n+e<=g.length) :
  Calls prog 14 #[pointer (some ⟨z0,0,none⟩),pointer (some ⟨z5,0,none⟩),slice (zp u) g.length g.length,int i64 o,int i64 n,int i64 e] H fun r J=>DU H z0 z5 I z6 k f b (mG (dF ((g.drop o).take n)) c) (jK zt ((g.drop o).take n)) r J:=by
 obtain⟨w,-,j,F⟩:=s.l q u z g G;have x:=s.sep.all (8,q);rw[w]at x;cases u with
 | none =>
  have m:=iZ.nil x rfl;subst m;have A:o=0:=by simp at t;omega
  have B:n=0:=by simp at t;omega
  have C:e=0:=by simp at t;omega
  subst A B C;exact ET z0 z5 zt I z6 k f b c H V.p V.d V.far
 | some i =>
  have E:i∉z0 :: iy z6 k:=by have:=s.sep.far (8,q) (6,S) (bu (by decide)) i (by rw[w];exact Se.2 rfl);rw[V.i6]at this;exact this
  have y:i∉z5 :: (I.blk.toList++iy f b):=by have:=s.sep.far (8,q) (7,S) (bu (by decide)) i (by rw[w];exact Se.2 rfl);rw[V.i7]at this;exact this
  exact CH z0 z5 i o n e zt g I z6 k f b c H V.p V.d (iZ.blk x i rfl) V.far (fun e=>E (by rw[e];exact Sz)) (fun e=>y (by rw[e];exact Sz)) (fun e=>y (Sx _ (Ti _ (by rw[e];simp)))) t (by omega) j
theorem QZ(h:cd g b i w y)(hV:w.V.length≠0)(hA:sG x)(hC:sG N)(hN:y<=1073741824) :
  Calls prog 10 #[pointer (some ⟨b,0,none⟩),agg #[int i64 8,int i64 x,int i64 N,int i64 m,string L,string M]] g fun e z=>iU b i w y true e z:=by
 obtain⟨W,HW⟩:∃W,Hid (g.alloc (.cells #[int i64 8,int i64 x,int i64 N,int i64 m,string L,string M] 28)=W):=⟨_,rfl⟩
 obtain⟨hM,hB,ar,-⟩:=h.boxed 8 x N m L M W HW.out;obtain⟨U,X,o2,o3,o4,o5,Y⟩:=dV hB;have HL:Hid _:=(nk b y i w 8 x N m L M W hM (by omega));have HS:Hid (jO W b g.heap.size i w y 8 x N m L M):=⟨hM,hB⟩;have ap:=h.len.1;have H:Hid (∀d,Calls prog 13 #[int i64 x,int i64 w.V.length] d fun e z=>e=returned (int i64 (fU x w.V.length:Nat))/\z=d):=fun d=>gC x w.V.length d hA ⟨by omega,by omega⟩;have P:=iH x w.V.length (by omega);obtain⟨S,Hi⟩:∃S,Hid (fU x w.V.length=S):=⟨_,rfl⟩
 rw[Hi.out]at H P;have an:((w.V.length:Int)==0)=false:=Sp.2 (by omega);have az:(S:Int)<(w.V.length:Int):=by omega
 clear h hM hB;go_enter func10,ntmps10;go_upto_region 1 with fail
 rw[HW.out];go_upto_region 2 with (go_at_call 12;refine R0 HL.out ?_;rintro e w1 ⟨rfl,k1⟩)
 have u:Hid (jO w1 b g.heap.size i w y 8 x N m L M):=HS.out.Wj k1;clear U X o2 o3 o4 o5 Y k1;obtain⟨U,X,-⟩:=dV u.out.o;have Y:=ae u.out.o;have c0:w1.cell? ⟨b,0,none⟩=some (slice w.hx.ao w.V.length w.hx.cap):=by rw[aj u.out.m.blk];rfl
 have bz:=ae u.out.m.blk;go_upto_region 4 with fail
 go_quiet ((go_at_call 13;exact Ss (H.out _)));go_upto_region 5 with fail
 obtain⟨A,J⟩:∃A,Hid (w1.drewN nq=A):=⟨_,rfl⟩
 rw[J.out];have c:Hid (jO A b g.heap.size i w y 8 x N m L M):=u.out.Wj (by rw[<-J.out];exact(aa.refl [] _).drewN nq);clear U X Y c0 bz;obtain⟨U,X,o2,o3,o4,o5,Y⟩:=dV c.out.o;obtain⟨Z,af,fs,hd,lo,hi,T,O,st,g1,g2,C,⟨e1,z1,d1⟩,e2,z2,d2⟩:=c.out.m.ver P;have c0:A.cell? ⟨b,0,none⟩=some (slice w.hx.ao w.V.length w.hx.cap):=by rw[aj c.out.m.blk];rfl
 have c1:A.cell? ⟨b,1,none⟩=some (slice w.hm.ao w.V.length w.hm.cap):=by rw[aj c.out.m.blk];rfl
 rw[e1]at c0;rw[e2]at c1;have bz:=ae c.out.m.blk;have ad:Hid _:=C;have c3:A.cell? ⟨b,3,none⟩=some (slice w.hl.ao w.L.length w.hl.cap):=by rw[aj c.out.m.blk];rfl
 by_cases hL:w.L.length=0
 ·rw[hL]at c3;clear C e1 e2;go_wp2;go_ret;exact⟨rfl,_,_,c.out.m.more,rH.refl _ _⟩
 ·have al:=c.out.m.len.2.2;have I:Hid (∀d,Calls prog 13 #[int i64 N,int i64 w.L.length] d fun e z=>e=returned (int i64 (fU N w.L.length:Nat))/\z=d):=fun d=>gC N w.L.length d hC ⟨by omega,by omega⟩;have R:=iH N w.L.length (by omega);obtain⟨k,Hk⟩:∃k,Hid (fU N w.L.length=k):=⟨_,rfl⟩
  rw[Hk.out]at I R;obtain⟨⟨la,lc,j⟩,Q⟩:∃Z,w.L[k]?=some Z:=⟨w.L[k],RQ R⟩
  obtain⟨-,-,-,ax⟩:=c.out.m.l k la lc j Q;obtain⟨gl,K,gz,gc⟩:=oA c.out.m.ownL (k:=k) (x:=(la,j)) (by rw[Sy,Q];rfl);replace gc:A.cell? ⟨gl,k,none⟩=some (slice (zp la) j.length j.length):=gc;rw[K]at c3;have aS:(k:Int)<(w.L.length:Int):=by omega
  have ai:((w.L.length:Int)==0)=false:=Sp.2 (by omega);have ag:Hid _:=Q;obtain⟨ra,rn,re⟩:=c.out.m.rng;have E:Hid (∀d,Calls prog 13 #[int i64 w.a,int i64 ((j.length:Int)+1)] d fun e z=>e=returned (int i64 (fU w.a (j.length+1):Nat))/\z=d):=fun d=>gC w.a (j.length+1) d ra ⟨by omega,by omega⟩;have ho:=iH w.a (j.length+1) (by omega);obtain⟨o,Ho⟩:∃o,Hid (fU w.a (j.length+1)=o):=⟨_,rfl⟩
  rw[Ho.out]at E ho;have F:Hid (∀d,Calls prog 13 #[int i64 w.n,int i64 ((j.length:Int)-(o:Int)+1)] d fun e z=>e=returned (int i64 (fU w.n (j.length-o+1):Nat))/\z=d):=fun d=>by
   rw[show(j.length:Int)-(o:Int)+1=((j.length-o+1:Nat):Int) by omega];exact gC w.n (j.length-o+1) d rn ⟨by omega,by omega⟩
  have hn:=iH w.n (j.length-o+1) (by omega);obtain⟨n,Hn⟩:∃n,Hid (fU w.n (j.length-o+1)=n):=⟨_,rfl⟩
  rw[Hn.out]at F hn;have G:Hid (∀d,Calls prog 13 #[int i64 w.e,int i64 ((j.length:Int)-(o:Int)-(n:Int)+1)] d fun e z=>e=returned (int i64 (fU w.e (j.length-o-n+1):Nat))/\z=d):=fun d=>by
   rw[show(j.length:Int)-(o:Int)-(n:Int)+1=((j.length-o-n+1:Nat):Int) by omega];exact gC w.e (j.length-o-n+1) d re ⟨by omega,by omega⟩
  have he:=iH w.e (j.length-o-n+1) (by omega);obtain⟨e,He⟩:∃e,Hid (fU w.e (j.length-o-n+1)=e):=⟨_,rfl⟩
  rw[He.out]at G he;have ac:Hid (∀t,cd t b i w y->pL t i w S Z af fs hd lo hi T O st->Calls prog 14 _ t _):=fun t a V=>a.loads hN V Q (o:=o) (n:=n) (e:=e) (by omega);clear C e1 e2 Q K ra rn re;go_upto_region 11 with fail
  go_quiet ((go_at_call 13;exact Ss (I.out _)));go_upto_region 12 with fail
  obtain⟨t,B⟩:∃t,Hid (A.drewN nq=t):=⟨_,rfl⟩
  rw[B.out];have s:Hid (jO t b g.heap.size i w y 8 x N m L M):=c.out.Wj (by rw[<-B.out];exact(aa.refl [] _).drewN nq);clear U X o2 o3 o4 o5 Y c0 c1 c3 bz z1 d1 z2 d2 gz gc;have c5:t.cell? ⟨b,5,none⟩=some (int i64 w.a):=by rw[aj s.out.m.blk];rfl
  have c6:t.cell? ⟨b,6,none⟩=some (int i64 w.n):=by rw[aj s.out.m.blk];rfl
  have c7:t.cell? ⟨b,7,none⟩=some (int i64 w.e):=by rw[aj s.out.m.blk];rfl
  have bz:=ae s.out.m.blk;have f:Hid (pL t i w S Z af fs hd lo hi T O st):=ad.out.Wj (by rw[<-B.out];exact(aa.refl [] _).drewN nq);have D:Hid _:=ac.out t s.out.m f.out;go_upto_region 13 with (go_at_call 13;refine R0 (E.out _) ?_;rintro q w4 ⟨rfl,r⟩;rw[r];clear r)
  go_upto_region 14 with (go_at_call 13;refine R0 (F.out _) ?_;rintro q w4 ⟨rfl,r⟩;rw[r];clear r)
  go_upto_region 15 with (go_at_call 13;refine R0 (G.out _) ?_;rintro q w4 ⟨rfl,r⟩;rw[r];clear r)
  go_wp2_with (go_at_call 14;refine R0 D.out ?_;rintro q w4 ⟨rfl,q1,⟨h',q2,q3⟩,q4⟩);go_ret;exact⟨rfl,s.out.m.both f.out.v f.out.i6 f.out.i7 q1 q2 (R4 ⟨rfl,rfl⟩) (R4 ⟨rfl,rfl⟩) q3 (GE f.out.far f.out.p.lt q3) q4 (Ms f.out.ok _)⟩
structure qU where
 k:Int
 a:Int
 c:Int
 d:Int
 s:ByteArray
 t:ByteArray
def OF(o:qU):List Value:=[int i64 o.k,int i64 o.a,int i64 o.c,int i64 o.d,string o.s,string o.t]
def qo(L:List qU):eB:=kT 28 6 OF L
theorem P0:(prog.info? 28).map (fun i=>(i.zero,i.size,i.bytes))=some (some (agg #[int i64 0,int i64 0,int i64 0,int i64 0,string ⟨#[]⟩,string ⟨#[]⟩]),6,64):=by kernel_rfl
theorem OG(o:qU):∀u∈OF o,u.oneCell'=true:=by
 intro u a;simp only[OF,List.mem_cons,List.not_mem_nil,or_false]at a;rcases a with rfl | rfl | rfl | rfl | rfl | rfl <;> rfl
structure DY(X:qU->Prop)(o:qU):Prop where
 a:sG o.a
 c:sG o.c
 d:sG o.d
 s:o.s.size<=1073741824
 t:o.t.size<=1073741824
 k:(1<=o.k/\o.k<=10)∨(15<=o.k/\o.k<=18)∨X o
def od(w:World)(ao:Option Addr)(l:List qU):Prop:=∀(i:Nat) (o:qU),l[i]?=some o->∃b off,ao=some ⟨b,off,none⟩/\b<w.heap.size/\∀(j:Nat) u,(OF o)[j]?=some u->w.cell? ⟨b,off+i*6+j,none⟩=some u
theorem od.Wj{l:List qU}(h:od H y4 l)(k:aa [] H t):od t y4 l:=by
 intro i o f;obtain⟨b,a,e,c,d⟩:=h i o f;exact⟨b,a,e,R6 c k.size,fun j u g=>by rw[Sh (k.block b c (by simp))];exact d j u g⟩
structure DW(o:qU):Prop where
 k:sG o.k
 a:sG o.a
 c:sG o.c
 d:sG o.d
 s:o.s.size<=140737488351232
 t:o.t.size<=140737488351232
def mo(l:List qU)(k:Nat):qU:=l.getD k ⟨0,0,0,0,⟨#[]⟩,⟨#[]⟩⟩
theorem ox(l:List qU)(k:Nat)(h:k<l.length):l[k]?=some (mo l k):=by
 unfold mo;rw[RT,RQ h];rfl
def PB(l:List qU)(w:World)(e:Ending)(w':World):Prop:=(∃r,e=returned (bool r)/\(r=true->l.length<=1073741824/\∀i,i<l.length->(mo l i).s.size<=1073741824/\(mo l i).t.size<=1073741824))/\aa [] w w'
theorem FE(l:List qU)(w:World)(R:l.length<=140737488351232)(j:od w y3 l)(v:∀o∈l,DW o) :
  Calls prog 8 #[slice y3 l.length y] w fun e M=>PB l w e M:=by
 have x:Hid (od w y3 l):=j;have q:Hid _:=v;clear j v;by_cases N:1073741824<l.length
 ·have n:(1073741824:Int)<l.length:=by omega
  go_enter func8,ntmps8;go_wp2;go_ret;exact⟨⟨false,rfl,by simp⟩,aa.refl _ _⟩
 ·have n:¬(1073741824:Int)<l.length:=by omega
  go_enter func8,ntmps8;go_wp2
  go_loopg [3,4] l.length (fun g m i wr=>∃(k:Nat) (z:Int),k<=l.length/\g=l.length-k/\i=int i64 k/\m=int i64 z/\Hid (∀i,i<k->(mo l i).s.size<=1073741824/\(mo l i).t.size<=1073741824)/\0<=z/\z<=1073741824/\Hid (aa [] w wr))
  case atStart=>exact⟨0,l.length,by omega,by omega,rfl,rfl,fun i h=>by omega,by omega,by omega,aa.refl _ _⟩
  case round =>
   obtain⟨k,z,Q,P,rfl,rfl,r,J,K,f⟩:=hrel;by_cases d:k<l.length
   ·have D:(k:Int)<l.length:=(by omega);obtain⟨b,L,rfl,O,p⟩:=(od.Wj x.out f.out) k _ (ox l k d);have A:=p 4 _ rfl;have B:=p 5 _ rfl;have F:=(q.out (mo l k) (TG (ox l k d))).s;have H:=(q.out (mo l k) (TG (ox l k d))).t;obtain⟨o,u⟩:∃o,Hid (mo l k=o):=⟨_,rfl⟩
    rw[u.out]at A B F H;clear p;have G:(o.s.size:Int)<=140737488351232:=by omega
    have I:(o.t.size:Int)<=140737488351232:=(by omega);by_cases C:(1073741824:Int)<z+o.s.size+o.t.size
    ·(go_upto_region 7 with fail);go_quiet (fail);have a:Hid (aa [] w (wr.drewN nq)):=f.out.drewN nq;go_wp2;go_ret;exact⟨⟨false,rfl,by simp⟩,a.out⟩
    ·have c:Hid (∀i,i<k+1->(mo l i).s.size<=1073741824/\(mo l i).t.size<=1073741824):=fun i j=>by
      by_cases e:i=k
      ·rw[e,u.out];omega
      ·exact r.out i (by omega)
     (go_upto_region 7 with fail);go_quiet (fail);have a:Hid (aa [] w (wr.drewN nq)):=f.out.drewN nq;go_wp2;go_roundg (l.length-(k+1))
     case measure=>omega
     case rel=>exact⟨k+1,z+o.s.size+o.t.size,by omega,rfl,by go_num,rfl,c,by omega,by omega,a⟩
   ·have E:¬(k:Int)<l.length:=(by omega);have c:Hid (∀i,i<l.length->(mo l i).s.size<=1073741824/\(mo l i).t.size<=1073741824):=fun i j=>r.out i (by omega);go_wp2;go_ret;exact⟨⟨true,rfl,fun _=>⟨by omega,c.out⟩⟩,f.out⟩
theorem Kl(Q:World->Prop)(d:∀W,aa [] g W->Calls prog 12 #[pointer (some ⟨y,0,none⟩),agg #[int i64 y2,int i64 x,int i64 N,int i64 m,string L,string M]] W fun e b=>e=returned (bool true)/\Q b) :
  Calls prog 10 #[pointer (some ⟨y,0,none⟩),agg #[int i64 y2,int i64 x,int i64 N,int i64 m,string L,string M]] g fun e b=>e=returned (bool true)/\Q b:=by
 obtain⟨W,a⟩:∃W,Hid (g.alloc (.cells #[int i64 y2,int i64 x,int i64 N,int i64 m,string L,string M] 28)=W):=⟨_,rfl⟩
 have f:=fN a.out;have c:=fY a.out;obtain⟨k,l,n,o,p,q,r⟩:=dV c;have i:Hid _:=d W f;clear c d f;go_enter func10,ntmps10;go_upto_region 1 with fail
 rw[a.out];go_wp2_with (go_at_call 12;refine R0 i.out ?_;rintro e s ⟨rfl,j⟩);go_ret;exact⟨rfl,j⟩
def Rj(w0:World)(h:Hd)(L:List qU):It where
 B:=List.range w0.heap.size++h.blk.toList
 P w:=aa [] w0 w/\aC w h (qo L)
 lt w a q hq:=by
  rcases SB.1 hq with e | e
  ·exact R6 (Sd.1 e) a.1.size
  ·exact a.2.lt (aQ e)
 ok S w w' a k hb:=by
  refine⟨⟨k.os.trans a.1.os,k.tape.trans a.1.tape,k.output.trans a.1.output,Sc a.1.size k.size,fun q hq _=>?_⟩,a.2.Wo (fun q hq=>k.block q (a.2.lt hq) (hb q (Tz _ (by rw[hq];simp))))⟩;rw[k.block q (R6 hq a.1.size) (hb q (Ti _ (Sd.2 hq)))];exact a.1.block q hq (by simp)
def Rv:It where
 B:=[]
 P _:=True
 lt _ _ q hq:=by cases hq
 ok _ _ _ _ _ _:=trivial
def Qn:Mc:=⟨⟨none,0⟩,⟨none,0⟩,⟨none,0⟩,⟨none,0⟩,⟨none,0⟩,[],[],[],0,0,0,0,⟨#[]⟩,0,0,⟨#[]⟩,0,0,slice none 0 0,slice none 0 0⟩
theorem IG:(Instr.build 42 #[]).run prog g=.ok (agg Qn.cells.toArray) g :=
 run_build g 42 _ _ (by kernel_rfl)
theorem Ny(X:qU->Prop)(P:World)(h:Hd)(L:List qU)(w:World)(hL:L.length<=1073741824)(m:∀i,i<L.length->DY X (mo L i))(J:Nat->World->Prop)(I:∀W,aa [] w W->W.heap[w.heap.size]?=some (.cells Qn.cells.toArray 42)->J 0 W)(N:∀n wr,J n wr->aa [] P wr/\aC wr h (qo L))(K:∀n wr Q,J n wr->aa [] wr Q->J n Q)(O:∀n wr o,J n wr->n<=1073741824->DY X o->Calls prog 10 #[pointer (some ⟨w.heap.size,0,none⟩),agg #[int i64 o.k,int i64 o.a,int i64 o.c,int i64 o.d,string o.s,string o.t]] wr fun e p=>e=returned (bool true)/\J (n+1) p)(M:∀n wr,J n wr->n<=1073741825->Calls prog 11 #[pointer (some ⟨w.heap.size,0,none⟩)] wr fun e p=>e=returned (bool true)/\aa [] wr p) :
  Calls prog 9 #[slice h.ao L.length h.cap] w fun e p=>e=returned (int i64 (-1))/\aa [] P p:=by
 obtain⟨F,H⟩:=h;obtain⟨W,r⟩:∃W,Hid (w.alloc (.cells Qn.cells.toArray 42)=W):=⟨_,rfl⟩
 have A:Hid (J 0 W):=I W (by rw[<-r.out];exact(aa.refl [] _).alloc _) (by rw[<-r.out];exact R2 _ _);have C:Hid _:=m;have y:Hid _:=N;have v:Hid _:=K;have z:Hid _:=O;have x:Hid _:=M;have T:=IG;have G:Hid (Qn.cells.toArray=#[slice none 0 0,slice none 0 0,slice none 0 0,slice none 0 0,slice none 0 0,int i64 0,int i64 0,int i64 0,int i64 0,string ⟨#[]⟩,int i64 0,int i64 0,string ⟨#[]⟩,int i64 0,int i64 0,slice none 0 0,slice none 0 0]):=rfl;rw[G.out]at r;simp only[G.out]at T;clear I N K O M m;go_enter func9,ntmps9;go_upto_region 2 with fail
 rw[r.out];go_wp2
 go_loopg [4] L.length (fun g i wr=>∃k:Nat,k<=L.length/\g=L.length-k/\i=int i64 k/\Hid (J k wr))
 case atStart=>exact⟨0,by omega,rfl,rfl,A⟩
 case round =>
  obtain⟨k,hk,hg,rfl,q⟩:=hrel;have u:=y.out k wr q.out;by_cases l:k<L.length
  ·have Z:(k:Int)<L.length:=(by omega);obtain⟨V,E,Y,j⟩:=(aC.srcG (f:=OF) u.2 (fun _=>rfl)) k _ (ox L k l);have U:=j 0 _ rfl;have c1:=j 1 _ rfl;have c2:=j 2 _ rfl;have c3:=j 3 _ rfl;have c4:=j 4 _ rfl;have c5:=j 5 _ rfl;have D:Hid _:=(z.out k wr (mo L k) q.out (by omega) (C.out k l));generalize mo L k=o at *;rw[Ui]at U;replace E:F=some ⟨V,0,none⟩:=E;subst E;clear u j q;(go_upto_region 6 with (go_at_call 10;refine R0 D.out ?_;rintro e w1 ⟨rfl,b⟩));have S:Hid _:=(x.out (k+1) w1 b (by omega));have B:Hid _:=b;clear b;go_wp2_with (go_at_call 11;refine R0 S.out ?_;rintro e w2 ⟨rfl,k2⟩);go_roundg (L.length-(k+1))
   case measure=>omega
   case rel=>exact⟨k+1,by omega,rfl,by go_num,v.out _ _ _ B.out k2⟩
  ·have ac:¬(k:Int)<L.length:=(by omega);have R:Hid _:=u.1;clear u q;go_wp2;go_ret;exact⟨rfl,R.out⟩
theorem JE{L:List qU}{o:qU}{p:qU->Prop}(h:∀i,i<L.length->p (mo L i))(b:p o):∀i,i<(L++[o]).length->p (mo (L++[o]) i):=by
 intro i a;rw[R9]at a;replace a:i<L.length+1:=a;unfold mo;rw[RT];by_cases e:i<L.length
 ·have:=h i e;unfold mo at this;rw[RT]at this;rw[Si e];exact this
 ·rw[Sf (by omega),show i-L.length=0 by omega];exact b
def Bs(K:List Int)(k:Int)(q:Nat):Bool:=((decide (1<=k)&&decide (k<=10))||(decide (15<=k)&&decide (k<=18)))||(K.take q).any (fun x=>k==x)
theorem xc(h:u<1∨(10<u/\u<15)∨18<u):Bs y0 u 0=false:=by
 unfold Bs;rw[UH,List.any_nil,TV];simp;omega
theorem Cx(h:(1<=u/\u<=10)∨(15<=u/\u<=18))(q:Nat):Bs y0 u q=true:=by
 unfold Bs;have:((decide (1<=u)&&decide (u<=10))||(decide (15<=u)&&decide (u<=18)))=true:=by simp;omega
 rw[this];rfl
theorem Me(K:List Int)(k:Int)(q:Nat)(h:q<K.length):Bs K k (q+1)=(Bs K k q||(k==K[q])):=by
 unfold Bs;rw[VM,RQ h,Wa,<-US];simp
theorem Oj(h:Bs y0 u T=true):((1<=u/\u<=10)∨(15<=u/\u<=18))∨u∈y0:=by
 unfold Bs at h;rw[SL]at h;rcases h with h | h
 ·left;simp at h;omega
 ·right
  obtain⟨x,a,b⟩:=SQ.1 h;rw[Vc b];exact Ud a
def wi(w:World)(ka:Option Addr)(K:List Int):Prop:=∀q (hq:q<K.length),∃kb,ka=some ⟨kb,0,none⟩/\kb<w.heap.size/\w.cell? ⟨kb,q,none⟩=some (int i64 K[q])
theorem wi.Wj(h:wi H y4 y0)(k:aa [] H t):wi t y4 y0:=fun q b=>by
 obtain⟨a,e,z,c⟩:=h q b;exact⟨a,e,R6 z k.size,by rw[Sh (k.block a z (by simp))];exact c⟩
theorem wi.of(h:H.heap[T]?=some (.cells (y0.map (int i64)).toArray 3)):wi H (some ⟨T,0,none⟩) y0:=fun q a=>⟨T,rfl,ae h,by rw[aj h];simp[a]⟩
theorem JJ(X:qU->Prop)(S:Option Addr)(F:Nat)(l:List qU)(K:List Int)(V:Option Addr)(w:World)(hl:l.length<=140737488351232)(hi:od w S l)(ho:∀o∈l,DW o)(I:wi w V K)(aT:K.length<=100)(hK:∀o∈l,o.k∈K->X o)(hU:∀h L wr,aa [] w wr->aC wr h (qo L)->L.length<=1073741824->(∀i,i<L.length->DY X (mo L i))->Calls prog 9 #[slice h.ao L.length h.cap] wr fun e w'=>e=returned (int i64 (-1))/\aa [] w w') :
  Calls prog 6 #[slice S l.length F,slice V K.length K.length] w fun e w'=>e=returned (bool true)/\aa [] w w':=by
 have ai:Hid _:=FE S F l w hl hi ho;have HI:Hid (od w S l):=hi;have HO:Hid _:=ho;have W:Hid (wi w V K):=I;have Y:Hid _:=hK;have ap:Hid _:=hU;obtain⟨iX,az,P,Q,R⟩:=Sr P0;clear hi ho I hK hU;go_enter func6,ntmps6;go_upto_region 2 with (go_at_call 8;refine R0 ai.out ?_;rintro e w1 ⟨⟨r,rfl,hr⟩,k1⟩)
 have C:Hid _:=k1;have HR:Hid _:=hr;clear k1 hr;cases r
 ·go_wp2;go_ret;exact⟨rfl,C.out⟩
 ·obtain⟨a3,M⟩:=HR.out rfl;have al:Hid _:=M;have ac:Hid (jd w w1 ⟨none,0⟩ (qo [])):=⟨Sb _ _ _ _,(by intro k hk;cases hk),C.out⟩;clear M HR;go_wp2
  go_loopg [6,7] l.length (fun g lv iv wr=>∃(k:Nat) (v:Hd) (L:List qU),k<=l.length/\g=l.length-k/\lv=slice v.ao L.length v.cap/\iv=int i64 k/\L.length<=k/\Hid (∀i,i<L.length->DY X (mo L i))/\Hid (jd w wr v (qo L)))
  case atStart=>exact⟨0,⟨none,0⟩,[],by omega,rfl,rfl,rfl,by simp,(fun i h=>by cases h),ac⟩
  case round =>
   obtain⟨k,v,L,hk,hg,rfl,rfl,a0,u,t⟩:=hrel;by_cases z:k<l.length
   ·have a2:(k:Int)<l.length:=(by omega);obtain⟨b,ba,rfl,hb,x⟩:=(od.Wj HI.out t.out.kept) k _ (ox l k z);have m:=TG (ox l k z);have H:=HO.out (mo l k) m;have J:=Y.out (mo l k) m;have c0:=x 0 _ rfl;have c1:=x 1 _ rfl;have c2:=x 2 _ rfl;have c3:=x 3 _ rfl;have c4:=x 4 _ rfl;have c5:=x 5 _ rfl;rw[Ui]at c0;have O:=al.out k z;have s:Hid _:=H;have E:Hid _:=O;have Z:Hid _:=J;have ag:Hid (wi wr V K):=wi.Wj W.out t.out.kept;generalize mo l k=o at *;clear x H O J m;have ar:=t.out.own;have ax:Hid ((qo L).n<=4294967296):=(by show L.length<=_;omega);have D:Hid ((qo L).n=L.length):=rfl
    have B:Hid (Bs K o.k K.length=true->DY X o):=fun q=>⟨s.out.a,s.out.c,s.out.d,E.out.1,E.out.2,by
     rcases Oj q with (q | q) | q
     ·exact R4 q
     ·exact RZ (R4 q)
     ·exact RZ (RZ (Z.out q))⟩
    have y:(o.k<1/\Hid (Bs K o.k 0=false))∨((10<o.k/\o.k<15)/\Hid (Bs K o.k 0=false))∨(18<o.k/\Hid (Bs K o.k 0=false))∨((1<=o.k/\o.k<=10)/\Hid (Bs K o.k 0=true))∨((15<=o.k/\o.k<=18)/\Hid (Bs K o.k 0=true)):=by
     by_cases z1:o.k<1
     ·exact R4 ⟨z1,xc (R4 z1)⟩
     ·by_cases z2:o.k<=10
      ·exact RZ (RZ (RZ (R4 ⟨⟨by omega,z2⟩,Cx (R4 ⟨by omega,z2⟩) 0⟩)))
      ·by_cases z3:o.k<15
       ·exact RZ (R4 ⟨⟨by omega,z3⟩,xc (RZ (R4 ⟨by omega,z3⟩))⟩)
       ·by_cases z4:o.k<=18
        ·exact RZ (RZ (RZ (RZ ⟨⟨by omega,z4⟩,Cx (RZ ⟨by omega,z4⟩) 0⟩)))
        ·exact RZ (RZ (R4 ⟨by omega,xc (RZ (RZ (by omega)))⟩))
    rcases y with ⟨T,f⟩ | ⟨⟨T,h2⟩,f⟩ | ⟨T,f⟩ | ⟨⟨T,h2⟩,f⟩ | ⟨⟨T,h2⟩,f⟩
    all_goals
     go_wp2
     go_loopg [9,10] K.length (fun g a j w2=>∃q:Nat,q<=K.length/\g=K.length-q/\a=bool (Bs K o.k q)/\j=int i64 q/\wr=w2)
     case atStart=>exact⟨0,by omega,rfl,congrArg bool (by rw[f.out] <;> simp <;> omega),rfl,rfl⟩
     case round =>
      obtain⟨q,hq,a1,rfl,rfl,rfl⟩:=hrel;by_cases N:q<K.length
      ·have a5:(q:Int)<K.length:=(by omega);obtain⟨kb,rfl,a7,cq⟩:=ag.out q N;have p:Hid _:=Me K o.k q N;generalize K[q]=kq at *;cases U:Bs K o.k q
       ·rw[U,Ts]at p;go_wp2;go_roundg (K.length-(q+1))
        case measure=>omega
        case rel=>exact⟨q+1,by omega,rfl,congrArg bool p.out.symm,by go_num,rfl⟩
       ·rw[U,UC]at p;go_wp2;go_roundg (K.length-(q+1))
        case measure=>omega
        case rel=>exact⟨q+1,by omega,rfl,congrArg bool p.out.symm,by go_num,rfl⟩
      ·have aS:q=K.length:=(by omega);subst aS;have a6:¬(K.length:Int)<K.length:=by omega
       cases U:Bs K o.k K.length
       ·go_wp2;go_roundg (l.length-(k+1))
        case measure=>omega
        case rel=>exact⟨k+1,v,L,by omega,rfl,rfl,by go_num,by omega,u,t⟩
       ·have af:Hid _:=B.out U;go_wp2_with (at_builtin;refine dj wr rfl (.tmp 57) (.tmp 62) 22 rfl iX (agg #[int i64 0,int i64 0,int i64 0,int i64 0,string ⟨#[]⟩,string ⟨#[]⟩]) 64 v (qo L) (OF o) underlying22 az P Q R rfl (show 0<6 by omega) (by rw[D.out];simp[Act.eval]) ar ax.out (by omega) (by simp[Act.eval]) rfl (OG o) ?_;intro h5 w5 A G;rw[qo,jH]at A;have ad:Hid _:=t.out.Wt G A;clear A G);go_roundg (l.length-(k+1))
        case measure=>omega
        case rel=>exact⟨k+1,h5,L++[o],by omega,rfl,by rw[D.out,R9];rfl,by go_num,by rw[R9];show _+1<=_;omega,JE u.out af.out,ad⟩
   ·have a4:¬(k:Int)<l.length:=(by omega);have an:Hid _:=(ap.out v L wr t.out.kept t.out.own (by omega) u.out);go_wp2_with (go_at_call 9;refine R0 an.out ?_;rintro e w5 ⟨rfl,k5⟩);go_ret;exact⟨rfl,k5⟩
set_option maxRecDepth 512
theorem rB(j:Option Addr)(s t:Nat)(L:List fO)(w:World)(m:cG w y3 6 gx L)(o:cG w j 6 gx L)(Q:L.length<=4294967296) :
  Calls prog 25 #[slice y3 L.length s,slice j L.length t] w fun e y=>e=returned (bool true)/\∃n,y=w.drewN n:=by
 have p:Hid (cG w y3 6 gx L):=m;have q:Hid (cG w j 6 gx L):=o;clear m o;go_enter func25,ntmps25;go_wp2
 go_loopg [5] L.length (fun g i wr=>∃k:Nat,k<=L.length/\g=L.length-k/\i=int i64 k/\Hid (∃n,wr=w.drewN n))
 case atStart=>exact⟨0,by omega,by omega,rfl,0,rfl⟩
 case round =>
  obtain⟨k,P,O,rfl,b⟩:=hrel;have l:Hid (aa [] w wr):=by show aa _ _ _;obtain⟨n,e⟩:=b.out;rw[e];exact(aa.refl [] w).drewN n
  by_cases a:k<L.length
  ·have v:(k:Int)<L.length:=(by omega);obtain⟨J,rfl,M,c⟩:=(cG.Wj p.out l.out) k _ (RQ a);obtain⟨K,rfl,N,d⟩:=(cG.Wj q.out l.out) k _ (RQ a);have r:=c 0 _ rfl;have z:=c 1 _ rfl;have A:=c 2 _ rfl;have B:=c 3 _ rfl;have C:=c 4 _ rfl;have D:=c 5 _ rfl;have u:=d 0 _ rfl;have E:=d 1 _ rfl;have F:=d 2 _ rfl;have G:=d 3 _ rfl;have H:=d 4 _ rfl;have I:=d 5 _ rfl;rw[Ui]at r u;clear c d;generalize L[k].label=R at *;generalize L[k].Wk=S at *;generalize L[k].why=T at *;generalize L[k].file=U at *;generalize L[k].line=V at *;generalize L[k].col=W at *;(go_upto_region 6 with fail);go_quiet (fail);have f:Hid (∃n,wr.drewN nq=w.drewN n):=(by show ∃_,_;obtain⟨n,e⟩:=b.out;exact⟨n+nq,by rw[e,Vf]⟩);go_wp2;go_roundg (L.length-(k+1))
   case measure=>omega
   case rel=>exact⟨k+1,by omega,rfl,by go_num,f⟩
  ·have x:¬(k:Int)<L.length:=(by omega);go_wp2;go_ret;exact⟨rfl,b.out⟩
structure vF(w:World)(bo:Option Nat)(L:List fO):Prop where
 nil:bo=none ↔ L=[]
 blk:∀b,bo=some b->w.heap[b]?=some (.cells (L.flatMap gx).toArray 38)
def GO(bo:Option Nat)(L:List fO):It where
 B:=bo.toList
 P w:=vF w bo L
 lt w a q hq:=by
  cases bo with
  | none=>cases hq
  | some b=>rw[VL,Se]at hq;rw[hq];exact ae (a.blk b rfl)
 ok S w w' a k hb:=⟨a.nil,fun b e=>k.get (a.blk b e) (hb b (by rw[e];simp))⟩
theorem vF.srcG(h:vF H c y1):cG H (zp c) 6 gx y1:=by
 intro k x a;cases c with
 | none=>rw[h.nil.1 rfl]at a;cases a
 | some b =>
  have e:=h.blk b rfl;refine⟨b,rfl,ae e,fun d u f=>?_⟩;have g:d<6:=by have:=(R8.1 f).1;rw[kV]at this;exact this
  rw[aj e,List.getElem?_toArray,Ha (s:=6) kV y1 k x a d g];exact f
abbrev Wx:=Option Nat×Hd×List fO
def NI(t:Wx):List Value:=[slice (zp t.1) t.2.2.length t.2.2.length,slice t.2.1.ao t.2.2.length t.2.1.cap]
def mI(WS:List Wx):eB:=kT 59 2 NI WS
structure Rp(I:Nat×Nat->It)(qv:Value)(hq:Hd)(WS:List Wx)(N:Nat):Prop where
 e:qv=slice hq.ao WS.length hq.cap
 r:I (14,0)=cw hq (mI WS)
 l:∀k bo h L,WS[k]?=some (bo,h,L)->I (15,k)=GO bo L/\I (16,k)=cw h (bZ L)/\L.length<=100000
 n:WS.length<=N
structure dI(w:World)(b:Nat)(I:Nat×Nat->It)(M:Mc)(hq:Hd)(WS:List Wx)(N:Nat):Prop where
 m:cd w b I M N
 t:M.tv=slice none 0 0
 q:Rp I M.qv hq WS N
theorem dI.Wj{b:List Wx}(h:dI H T v a I b D)(k:aa [] H t):dI t T v a I b D:=⟨h.m.Wj k,h.t,h.q⟩
theorem dI.more{b:List Wx}(h:dI H T v a I b D):dI H T v a I b (D+1):=⟨h.m.more,h.t,{ h.q with n:=VS h.q.n }⟩
def yO(b:Nat)(I:Nat×Nat->It)(N:Nat)(e:Ending)(w':World):Prop:=e=returned (bool true)/\∃I' M' hq' WS',dI w' b I' M' hq' WS' (N+1)/\I' (10,0)=I (10,0)
theorem dI.up{c:List Wx}{e:Ending}(h:dI H T v a I c D)(s:iU T v a D true e t):yO T v D e t:=by
 obtain⟨i,d,f,j,b⟩:=s;refine⟨i,d,f,I,c,⟨j,b.t.trans h.t,⟨b.q.trans h.q.e,(b.k 14 0 (by decide)).trans h.q.r,fun k g m L o=>?_,VS h.q.n⟩⟩,b.k 10 0 (RV _)⟩;rw[b.k 15 k (by decide),b.k 16 k (by decide)];exact h.q.l k g m L o
theorem dI.rowOwn{b:List Wx}(h:dI H T v a I b D):aC H I (mI b):=by have:=h.m.sep.all (14,0);rw[h.q.r]at this;exact this
theorem dI.c15{b:List Wx}(h:dI H T v a I b D):H.cell? ⟨T,15,none⟩=some (slice I.ao b.length I.cap):=by rw[aj h.m.blk,<-h.q.e];rfl
theorem dI.at_{i:List Wx}(h:dI H T v a I i D)(r:S<i.length):∃d b L g,i[S]?=some (d,b,L)/\(I.ao=some ⟨g,0,none⟩/\g<H.heap.size/\H.cell? ⟨g,S*2,none⟩=some (slice (zp d) L.length L.length)/\H.cell? ⟨g,S*2+1,none⟩=some (slice b.ao L.length b.cap))/\vF H d L/\aC H b (bZ L)/\L.length<=100000:=by
 obtain⟨⟨d,b,L⟩,e⟩:∃x,i[S]?=some x:=⟨i[S],RQ r⟩
 obtain⟨g,p,z,c⟩:=(aC.srcG (f:=NI) h.rowOwn (fun _=>rfl)) S _ e;obtain⟨n,o,s⟩:=h.q.l S d b L e;have j:=h.m.sep.all (15,S);have k:=h.m.sep.all (16,S);rw[n]at j;rw[o]at k;exact⟨d,b,L,g,e,⟨p,z,c 0 _ rfl,c 1 _ rfl⟩,j,k,s⟩
set_option maxRecDepth 100000
theorem EU(o:List Wx)(u:World)(h:dI u b i w p o y)(hN:y<=1073741825) :
  Calls prog 11 #[pointer (some ⟨b,0,none⟩)] u fun e J=>e=returned (bool true)/\aa [] u J:=by
 have Z:Hid (dI u b i w p o y):=h;have Y:Hid (cd u b i w y):=h.m;have K:=ae h.m.blk;have N:Hid _:=h.t;have ad:=h.m.len.2.2;have af:=h.q.n;clear h;go_enter func11,ntmps11;go_wp2
 go_loopg [3] o.length (fun g I wr=>∃k:Nat,k<=o.length/\g=o.length-k/\I=int i64 k/\Hid (aa [] u wr))
 case atStart=>exact⟨0,by omega,rfl,rfl,aa.refl _ _⟩
 case round =>
  obtain⟨k,hk,ai,rfl,v⟩:=hrel;have r:Hid (dI wr b i w p o y):=Z.out.Wj v.out;have O:=r.out.c15;clear K;have K:=ae r.out.m.blk;by_cases B:k<o.length
  ·obtain⟨S,P,L,g,-,⟨W,gz,g0,g1⟩,V,U,hl⟩:=r.out.at_ B;rw[W]at O;have A:Hid (∀n,Calls prog 25 #[slice (zp S) L.length L.length,slice P.ao L.length P.cap] (wr.drewN n) fun e J=>e=returned (bool true)/\∃m,J=(wr.drewN n).drewN m):=fun n=>rB (zp S) P.ao _ _ L (wr.drewN n) (cG.Wj V.srcG ((aa.refl [] _).drewN n)) (cG.Wj (aC.srcG (f:=gx) U kV) ((aa.refl [] _).drewN n)) (by omega);have Q:(k:Int)<o.length:=(by omega);clear V U W;(go_upto_region 4 with fail);go_quiet ((go_at_call 25;exact VI (A.out _)));have z:Hid (aa [] u (wr.drewN nq)):=v.out.drewN nq;go_wp2;go_roundg (o.length-(k+1))
   case measure=>omega
   case rel=>exact⟨k+1,by omega,rfl,by go_num,z⟩
  ·have R:¬(k:Int)<o.length:=(by omega);have M:Hid _:=v.out;have ac:wr.cell? ⟨b,16,none⟩=some (slice none 0 0):=(by rw[aj r.out.m.blk,<-N.out];rfl);clear v;go_wp2
   go_loopg [5] 0 (fun g I wx=>g=0/\I=int i64 0/\wr=wx)
   case atStart=>exact⟨rfl,rfl,rfl⟩
   case round =>
    obtain⟨an,rfl,rfl⟩:=hrel;go_wp2
    go_loopg [7] w.L.length (fun g I wr=>∃k:Nat,k<=w.L.length/\g=w.L.length-k/\I=int i64 k/\Hid (aa [] u wr))
    case atStart=>exact⟨0,by omega,rfl,rfl,M⟩
    case round =>
     obtain⟨k,hk,al,rfl,v⟩:=hrel;have d:Hid (cd wr b i w y):=Y.out.Wj v.out;have c3:wr.cell? ⟨b,3,none⟩=some (slice w.hl.ao w.L.length w.hl.cap):=(by rw[aj d.out.blk];rfl);have c4:wr.cell? ⟨b,4,none⟩=some (slice w.hc.ao w.L.length w.hc.cap):=(by rw[aj d.out.blk];rfl);clear K;have K:=ae d.out.blk;by_cases B:k<w.L.length
     ·obtain⟨⟨a,c,j⟩,s⟩:∃x,w.L[k]?=some x:=⟨w.L[k],RQ B⟩
      obtain⟨C,D,-,ag⟩:=d.out.l k a c j s;obtain⟨gl,G,gz,T⟩:=oA d.out.ownL (k:=k) (x:=(a,j)) (by rw[Sy,s];rfl);obtain⟨gr,H,rz,X⟩:=oA d.out.ownC (k:=k) (x:=(c,j)) (by rw[Sy,s];rfl);replace T:wr.cell? ⟨gl,k,none⟩=some (slice (zp a) j.length j.length):=T;replace X:wr.cell? ⟨gr,k,none⟩=some (slice (zp c) j.length j.length):=X;rw[G]at c3;rw[H]at c4;have E:iZ wr a j:=(by have:=d.out.sep.all (8,k);rw[C]at this;exact this);have F:iZ wr c j:=(by have:=d.out.sep.all (9,k);rw[D]at this;exact this);have A:Hid (∀n,Calls prog 27 #[slice (zp a) j.length j.length,slice (zp c) j.length j.length] (wr.drewN n) fun e J=>e=returned (bool true)/\∃m,J=(wr.drewN n).drewN m):=fun n=>nW (zp a) (zp c) _ _ j (wr.drewN n) (lk.kept E.src ((aa.refl [] _).drewN n) (by simp)) (lk.kept F.src ((aa.refl [] _).drewN n) (by simp)) (by omega);have Q:(k:Int)<(w.L.length:Int):=(by omega);clear s C D G H E F;(go_upto_region 16 with fail);go_quiet ((go_at_call 27;exact VI (A.out _)));have z:Hid (aa [] u (wr.drewN nq)):=v.out.drewN nq;go_wp2;go_roundg (w.L.length-(k+1))
      case measure=>omega
      case rel=>exact⟨k+1,by omega,rfl,by go_num,z⟩
     ·have R:¬(k:Int)<(w.L.length:Int):=(by omega);go_wp2;go_ret;exact⟨rfl,v.out⟩
theorem Qc:(prog.info? 59).map (fun i=>(i.zero,i.size,i.bytes))=some (some (agg #[slice none 0 0,slice none 0 0]),2,48):=by kernel_rfl
theorem Rc(t:Wx):∀u∈NI t,u.oneCell'=true:=by
 intro u a;simp only[NI,List.mem_cons,List.not_mem_nil,or_false]at a;rcases a with rfl | rfl <;> rfl
theorem cd.retq{c:Nat×Nat->It}(h:cd H T v a D)(s:oN t c)(f:Value)(g:c (0,0)=rU T 42 ({ a with qv:=f }:Mc).cells)(b:∀j i,0<j->j<10->c (j,i)=v (j,i)):cd t T c { a with qv:=f } D:={
 sep:=s
 w0:=g
 x:=by rw[b 1 0 (by decide) (by decide)];exact h.x
 m:=by rw[b 2 0 (by decide) (by decide)];exact h.m
 r:=by rw[b 3 0 (by decide) (by decide)];exact h.r
 ls:=by rw[b 4 0 (by decide) (by decide)];exact h.ls
 lw:=by rw[b 5 0 (by decide) (by decide)];exact h.lw
 v:=fun i x m d e=>by rw[b 6 i (by decide) (by decide),b 7 i (by decide) (by decide)];exact h.v i x m d e
 l:=fun i x m d e=>by rw[b 8 i (by decide) (by decide),b 9 i (by decide) (by decide)];exact h.l i x m d e
 fit:=h.fit
 len:=h.len
 rng:=h.rng }
theorem pn{a:It}(b:10<=T)(c:S<10):fw v (T,D) a (S,q)=v (S,q):=RM _ _ (bu (by omega))
theorem dI.lay{b:List Wx}(h:dI H T v a I b D)(d:It)(x:S=15∨S=16)(k:aa [] H t)(w:d.P t)(o:∀q,q∈d.B->H.heap.size<=q):dI t T (fw v (S,b.length) d) a I b D:=by
 have c:10<=S:=by omega
 have s:=h.m.sep.put (S,b.length) d (k.mono (by simp)) w (fun q I=>RZ (o q I));have m:cd t T (fw v (S,b.length) d) a D:=h.m.retq s a.qv (by rw[pn c (by decide)];exact h.m.w0) (fun j i _ f=>pn c f);refine⟨m,h.t,⟨h.q.e,by rw[RM _ _ (bu (by omega))];exact h.q.r,fun j g p L f=>?_,h.q.n⟩⟩;have u:=(R8.1 f).1;rw[RM _ _ (rV (by omega)),RM _ _ (rV (by omega))];exact h.q.l j g p L f
theorem dI.add{b:List Wx}{k:Hd}(h:dI H T v a I b D)(w:v (15,b.length)=GO c y1)(x:v (16,b.length)=cw k (bZ y1))(G:y1.length<=100000)(g:bI H t I zb)(o:aC t zb (mI (b++[(c,k,y1)]))) :
  ∃A C z p,dI (t.setCell ⟨T,15,none⟩ (slice zb.ao (b.length+1) zb.cap)) T A C z p (D+1)/\A (10,0)=v (10,0):=by
 have s:=h.m.sep.grown h.m.w0 (bu (by decide)) h.q.r g o 15 (slice zb.ao (b.length+1) zb.cap);have m:=(h.m.retq s (slice zb.ao (b.length+1) zb.cap) (bP _ _ _) (fun j i J F=>by rw[RM _ _ (bu (by omega)),pn (by decide) F])).more;have q:∀f i,14<f->fw (fw v (14,0) (cw zb (mI (b++[(c,k,y1)])))) (0,0) (rU T 42 (a.cells.set 15 (slice zb.ao (b.length+1) zb.cap))) (f,i)=v (f,i):=fun f i K=>by rw[RM _ _ (bu (by omega)),RM _ _ (bu (by omega))]
 refine⟨_,_,zb,b++[(c,k,y1)],⟨m,h.t,⟨by rw[R9];rfl,by rw[RM _ _ (bu (by decide))];exact bP _ _ _,fun j u y B d=>?_,?_⟩⟩,?_⟩
 ·rw[q 15 j (by decide),q 16 j (by decide)];by_cases e:j<b.length
  ·rw[Si e]at d;exact h.q.l j u y B d
  ·have E:j=b.length:=by
    have:=(R8.1 d).1;rw[R9]at this;have:j<b.length+1:=this;omega
   subst E;rw[Sf (RV _),Td]at d;cases d
   exact⟨w,x,G⟩
 ·have:=h.q.n;rw[R9];show _+1<=_;omega
 ·rw[RM _ _ (bu (by decide)),RM _ _ (bu (by decide))]
theorem Ol(h:T∈(GO c y1).B):c=some T:=by
 replace h:T∈c.toList:=h;cases c with
 | none=>cases h
 | some g=>rw[VL,Se]at h;rw[h]
def Rn(L:List fO)(w:World)(e:Ending)(w':World):Prop:=∃bo,e=returned (slice (zp bo) L.length L.length)/\vF w' bo L/\(∀b,bo=some b->w.heap.size<=b)/\aa [] w w'
def Rm(L:List fO)(w:World)(e:Ending)(w':World):Prop:=∃h',e=returned (slice h'.ao L.length h'.cap)/\jd w w' h' (bZ L)
theorem J9(d:List Wx)(x m:Nat)(L:List fO)(J:World)(h:dI J b i w p d y)(hN:y<=1073741824)(hl:L.length<=100000)(hX:Calls prog 39 #[pointer (some ⟨x,0,none⟩)] J fun e C=>Rn L J e C)(hM:∀D,aa [] J D->Calls prog 23 #[pointer (some ⟨m,0,none⟩)] D fun e C=>Rm L D e C) :
  Calls prog 18 #[pointer (some ⟨b,0,none⟩),pointer (some ⟨x,0,none⟩),pointer (some ⟨m,0,none⟩)] J fun e C=>yO b i y e C:=by
 have V:Hid _:=hX;have R:Hid _:=hM;have HM:Hid (dI J b i w p d y):=h;obtain⟨iS,bc,ag,ai,al⟩:=Sr Mh;obtain⟨iT,bd,an,ap,ar⟩:=Sr Qc;have bk:=h.q.n;have B:Hid (∀u∈L.flatMap gx,u.oneCell'=true):=fun u hu=>by
  obtain⟨r,-,hr⟩:=Ua.1 hu;exact Dm r u hr
 have ac:Hid ((L.flatMap gx).length=L.length*6):=by
  show _=_;clear h hX hM hl V R HM B
  induction L with
  | nil=>rfl
  | cons a L ih=>rw[SZ,R9,ih,kV,SA];omega
 have a5:∀C,aC C ⟨none,0⟩ (bZ []):=fun C=>Sb _ _ _ _;have a7:Hid ((mI d).n<=4294967296):=by show d.length<=_;omega
 have U:Hid ((mI d).n=d.length):=rfl;have bg:Hid ((⟨(bZ []).e,(bZ []).size,(bZ []).n+L.length,(bZ []).xs++L.flatMap gx⟩:eB)=bZ L):=by show eB.mk _ _ (0+L.length) ([]++L.flatMap gx)=_;rw[Ut];rfl
 have a4:Hid ((bZ []).n+L.length<=1000000000):=by show 0+L.length<=_;omega
 have be:Hid ((bZ []).n+L.length=L.length):=Ut _;clear h hX hM;go_enter func18,ntmps18;go_upto_region 2 with (go_at_call 39;refine R0 V.out ?_;rintro e w1 ⟨l,rfl,x1,n1,k1⟩)
 have az:Hid _:=k1;have aS:Hid _:=(HM.out.lay (GO l L) (R4 rfl) k1 x1 (fun q p=>n1 q (Ol p)));have aT:Hid _:=x1.nil;have E:Hid (fw i (15,d.length) (GO l L) (10,0)=i (10,0)):=by show _=_;rw[RM _ _ (bu (by decide))]
 have z:Hid _:=bP i (15,d.length) (GO l L);clear x1 n1 k1;generalize fw i (15,d.length) (GO l L)=Ia at *;go_upto_region 3 with (go_at_call 23;refine R0 (R.out w1 az.out) ?_;rintro e D ⟨I,rfl,x2⟩)
 have Q:Hid _:=aS.out.Wj x2.kept;have HO:Hid (aC D I (bZ L)):=x2.own;clear x2;have a1:Hid (vF D l L):=by show vF _ _ _;have:=Q.out.m.sep.all (15,d.length);rw[z.out]at this;exact this
 have T:Hid _:=rB (zp l) I.ao L.length I.cap L D a1.out.srcG (aC.srcG (f:=gx) HO.out kV) (by omega);have G:Hid (I.ao=none->L.length=0/\I.cap=0):=fun e=>by
  rcases HO.out.Wu with ⟨t,e2,e3⟩ | ⟨g,a3,t,-⟩
  ·exact⟨e2,by rw[t]⟩
  ·rw[e]at t;cases t
 have k:((((L.length:Int)==0)=true/\zp l=none))∨((L.length:Int)==0)=false:=by
  by_cases e:L=[]
  ·exact R4 ⟨by rw[e];rfl,by rw[aT.out.2 e];rfl⟩
  ·exact RZ (Sp.2 (fun e2=>e (UI.1 (by omega))))
 obtain⟨ra,W⟩:∃ra,Hid (zp l=ra):=⟨_,rfl⟩
 rw[W.out]at T k ⊢;have a0:Hid (∀o:Hd,NI (l,o,L)=[slice ra L.length L.length,slice o.ao L.length o.cap]):=fun o=>by rw[<-W.out];rfl
 obtain⟨s,A⟩:=I;rcases k with ⟨h0,rfl⟩ | h0
 all_goals
  go_upto_region 4 with (go_at_call 25;refine R0 T.out ?_;rintro e w3 ⟨rfl,n1,af⟩;have P:Hid (aa [] D w3):=(by show aa _ _ _;rw[af];exact(aa.refl [] _).drewN n1);clear af)
  have S:Hid (aC w3 ⟨s,A⟩ (bZ L)):=HO.out.Wj P.out;have ba:Hid (∀ad,s=some ad->∀j u,(L.flatMap gx)[j]?=some u->w3.cell? (ad.add j)=some u):=fun ad e j u hj=>by
   rcases S.out.Wu with ⟨t,-,-⟩ | ⟨g,a3,t,e2,-⟩
   ·rw[show s=none from congrArg Hd.ao t]at e;cases e
   ·rw[show s=some ⟨g,0,none⟩ from t]at e;cases e
    rw[bS];exact(S.out.cell t j u hj)
  go_upto_region 6 with fail
  go_upto_region 7 with (at_builtin;refine eN _ rfl (.const (slice none 0 0)) (.tmp 36) 54 rfl iS (agg #[string ⟨#[]⟩,int i64 0,int i64 0,string ⟨#[]⟩,int i64 0,int i64 0]) 64 ⟨none,0⟩ (bZ []) underlying54 bc ag ai al rfl (by decide) rfl (a5 _) s L.length A (L.flatMap gx) rfl ac.out G.out ba.out B.out a4.out (by omega) ?_;intro o w5 H F;rw[bg.out]at H;rw[be.out])
  have ax:Hid (aa [] w3 w5):=F.kept.mono (by simp[Hd.blk])
  have c:=(show Hid _ from(Q.out.Wj P.out).lay (cw o (bZ L)) (RZ rfl) ax.out H (fun q p=>by
   have p:=aQ p;rcases F.blk with e | ⟨g,e,hg⟩
   ·rw[e]at p;cases p
   ·rw[e]at p;cases p;exact hg))
  have N:Hid (fw Ia (16,d.length) (cw o (bZ L)) (15,d.length)=GO l L):=by show _=_;rw[RM _ _ (bu (by decide))];exact z.out
  have O:Hid _:=bP Ia (16,d.length) (cw o (bZ L));have M:Hid (fw Ia (16,d.length) (cw o (bZ L)) (10,0)=i (10,0)):=by show _=_;rw[RM _ _ (bu (by decide))];exact E.out
  clear H F;generalize fw Ia (16,d.length) (cw o (bZ L))=I5 at *;have bj:=c.out.c15;have bz:=ae c.out.m.blk;have fb:=am c.out.m.blk;have a6:=c.out.rowOwn;have K:Hid (b∉p.blk.toList):=fun p=>c.out.m.sep.far (0,0) (14,0) (bu (by decide)) b (by rw[c.out.m.w0];exact Se.2 rfl) (by rw[c.out.q.r];exact p);obtain⟨X,Y⟩:=o;go_wp2_with (at_builtin;refine dj w5 rfl (.tmp 42) (.tmp 46) 39 rfl iT (agg #[slice none 0 0,slice none 0 0]) 48 p (mI d) [slice _ L.length L.length,slice X L.length Y] underlying39 bd an ap ar rfl VN (by rw[U.out];simp[Act.eval]) a6 a7.out (by omega) (by simp[Act.eval]) rfl (by intro u hu;simp only[List.mem_cons,List.not_mem_nil,or_false]at hu;rcases hu with rfl | rfl <;> rfl) ?_;intro h7 w7 v Z;replace v:aC w7 h7 ⟨(mI d).e,(mI d).size,(mI d).n+1,(mI d).xs++NI (l,⟨X,Y⟩,L)⟩:=(by rw[a0.out];exact v);rw[mI,jH]at v;have p7:=Z.kept.get c.out.m.blk K.out;have f7:=am p7;have c7:w7.cell? ⟨b,15,none⟩=some (slice p.ao d.length p.cap):=(by rw[aj p7,<-c.out.q.e];rfl);have z7:=ae p7;have HF:Hid _:=c.out.add N.out O.out hl Z v;rw[U.out]);go_ret;obtain⟨I',M',bf,a2,q1,q2⟩:=HF.out;exact⟨rfl,I',M',bf,a2,q1,q2.trans M.out⟩
end Go.Proofs.YtnbhnocdhbcbcaaGreat
