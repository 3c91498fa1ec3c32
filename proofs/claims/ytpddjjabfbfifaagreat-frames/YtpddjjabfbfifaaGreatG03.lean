import Derived.BigQuiet
import Derived.Deep.RegionHeld3
import Derived.Test.YtpddjjabfbfifaaGreatG02
namespace Go.Proofs.YtpddjjabfbfifaaGreat
open Go.RowKit Tryz
set_option maxRecDepth 100000
set_option maxHeartbeats 40000000
variable{k z6:World}{y8:Hd}{a M z3:Nat}{I g:List Value}{n:Db}{S y9:Nat->Hd}{yf:Type}(f:Nat)(o:List St)(y:Nat)(yd:World)(z7:Hd)(z5:List ByteArray)(H:Nat)(x v:List Value)(w:Db)(ya:St)(b:Nat->Hd)(l:ByteArray)(L D:Int)(N:List (Nat×Nat))(zt:Nat×Nat)(z0:List Nat)(i:Nat)(T:World)(z4:Nat->Hd)(zb:List (ByteArray×Pl))(d:Nat)
theorem oI:(pairs N).length=N.length*2:=by
 induction N with
 | nil=>rfl
 | cons a r b=>simp only[pairs,RH,QZ,Ro,Rr]at *;omega
theorem wI:(pairs (N++[zt]))[N.length*2]?=some (.int .i64 zt.1)/\(pairs (N++[zt]))[N.length*2+1]?=some (.int .i64 zt.2):=by
 rw[rG];have:=oI N
 constructor
 ·rw[Q4 (by omega),this];simp
 ·rw[Q4 (by omega),this];simp
theorem aw.pop{l:List (Nat×Nat)}{x:Nat×Nat}(o:aw k y8 (nY (l++[x]))):aw k y8 (nY l):=by
 rcases o.ways with ⟨s,p,_⟩ | ⟨g,a,h,n,j,i,f,m⟩
 ·have d:(l++[x]).length=0:=p
  simp at d
 ·obtain⟨r,b⟩:=y8
  simp only at h j i f;subst h;have c:(l++[x]).length<=b:=j;simp at c;refine⟨by simp only[nY];exact oI l,QU ⟨g,b,a,rfl,Rn _,n,?_,i,f,?_⟩⟩
  ·simp only[nY];omega
  ·have e:a.toList.take ((l++[x]).length*2)=pairs (l++[x]):=m
   simp only[nY];have q:pairs l=(pairs (l++[x])).take (l.length*2):=by rw[rG,List.take_left' (oI l)]
   rw[q,<-e,UB]
   congr 1
   simp
def dq(d:Db)(bl:List (Nat×Nat))(x:Nat×Nat):Db:={ d with blocks:=bl,Ve:=d.Ve.take x.1,typed:=d.typed.take x.2 }
theorem MF:(z5.take d).length=if d<=z5.length then d else z5.length:=by
 rw[RO];split <;> omega
theorem aw.taken{l:List ByteArray}(o:aw k y8 (aB l))(c:Nat):aw k y8 (aB (l.take c)):=by
 by_cases a:c<=l.length
 ·exact o.cut c a
 ·rw[Ts (by omega)];exact o
theorem we(a:Hid ((z5.take H).length=i))(d:aw T z7 (aB z5))(b:H<=1073741824) :
  Calls prog 262 #[.slice z7.ao z5.length z7.cap,.int .i64 H] T fun e c=>e=.returned (.slice z7.ao i z7.cap)/\c=T:=by
 have e:i=if H<=z5.length then H else z5.length:=by rw[<-a.out,MF]
 rw[e];exact Id z7 z5 H T d b
theorem qj{d':Db}(h:aR k a M I g n S)(o:I.length=z3)(f:i<10)(e:aw k (S i) (aU d' S i))(b:∀j,j≠i->aU d' S j=aU n S j)(u:Value)(c:d<13)(m:(b9 n S).set d u=b9 d' (g9 S i (S i))) :
  aR (k.setCell ⟨a,z3+d,none⟩ u) a M I g d' S/\aA a k S (k.setCell ⟨a,z3+d,none⟩ u) S:=by
 have l:=MO S i;have:=h.put (d':=d') z3 d o i f (S i) e (UC _ _) (QU (Q0 rfl)) b u c m;rw[l]at this;exact this
theorem zL(h:aR T f y x v w b)(z:x.length=H)(G:w.blocks=N++[zt])(hs:fK w 1073741824)(hx:zt.1<=1073741824/\zt.2<=1073741824) :
  Calls prog 248 #[.pointer (some ⟨f,H,none⟩)] T fun e w'=>e=.returned (.tuple #[])/\aR w' f y x v (dq w N zt) b/\aA f T b w' b:=by
 obtain⟨S,M,K,R,P,t,L,V,O,U,r,p,o⟩:=h.cells H z;obtain⟨c,i⟩:=zt;simp only at hx;have q:=h.free;have ag:=h.lt;have D:=h.own 5;have d:aw T (b 5) (nY (N++[(c,i)])):=by have:=D;simp only[aU,G]at this;exact this
 have s:=hs.blocks;rw[G]at s t;simp only[QZ,Ro,Rr]at s t
 rcases d.ways with ⟨e0,h0,_⟩ | ⟨g,an,Q,e2,e3,Y,e5,e6⟩
 ·have W:(N++[(c,i)]).length=0:=h0
  simp at W
 ·have p1:=d.cell Q (N.length*2) _ (wI N (c,i)).1
  have p2:=d.cell Q (N.length*2+1) _ (wI N (c,i)).2;have af:N.length+1<=(b 5).cap:=by have:(N++[(c,i)]).length<=(b 5).cap:=e3;simpa using this
  have ad:(b 5).cap<=9223372036854775807:=by unfold maxLen at Y;exact Y
  have hg:=ae e2;have P1:=qj 5 5 (d':={ w with blocks:=N }) h z (by omega) d.pop (uP w b N) (.slice (some ⟨g,0,none⟩) N.length (b 5).cap) (by omega) (by simp[b9,g9,Q]);obtain⟨n,l⟩:∃n,n=(T.setCell ⟨f,H+5,none⟩ (.slice (some ⟨g,0,none⟩) N.length (b 5).cap)).alloc (.cells #[.int .i64 c,.int .i64 i] 337):=⟨_,rfl⟩
  have u:aR n f y x v { w with blocks:=N } b:=by rw[l];exact P1.1.Va ((ab.refl [] _).alloc _)
  have T2:aA f T b n b:=by rw[l];exact P1.2.Va ((ab.refl [] _).alloc _)
  have F:n.heap[T.heap.size]?=some (.cells #[.int .i64 c,.int .i64 i] 337 (0,0)):=by
   rw[l];have:=QR (T.setCell ⟨f,H+5,none⟩ (.slice (some ⟨g,0,none⟩) N.length (b 5).cap)) (.cells #[.int .i64 c,.int .i64 i] 337);simpa [World.setCell] using this
  have HW:Hid ((T.setCell ⟨f,H+5,none⟩ (.slice (some ⟨g,0,none⟩) N.length (b 5).cap)).alloc (.cells #[.int .i64 c,.int .i64 i] 337)=n):=l.symm;have ai:=hs.Ve;have al:=hs.typed;rw[Q]at t;simp only at p1 p2;clear D d e3 Y e5 e6 e2 h P1 l;go_enter func248,ntmps248
  go_upto_region 4 with fail
  rw[HW.out];have c0:n.cell? ⟨T.heap.size,0,none⟩=some (.int .i64 c):=by rw[aa F];rfl
  have c1:n.cell? ⟨T.heap.size,1,none⟩=some (.int .i64 i):=by rw[aa F];rfl
  have ac:T.heap.size≠f:=by omega
  have Z:=ae F;clear HW S M K R P t L V O U r p o p1 p2 q hg;obtain⟨S,M,K,R,P,t,L,V,O,U,r,p,o⟩:=u.cells H z;have q:=u.free;obtain⟨B,J⟩:∃m,Hid ((w.Ve.take c).length=m):=⟨_,rfl⟩
  obtain⟨m2,C⟩:∃m,Hid ((w.typed.take i).length=m):=⟨_,rfl⟩
  have X:=qj 3 3 (d':={ w with blocks:=N,Ve:=w.Ve.take c }) u z (by omega) ((u.own 3).taken c) (uN { w with blocks:=N } b (w.Ve.take c)) (.slice (b 3).ao B (b 3).cap) (by omega) (by simp only[b9,dh,<-J.out];rfl);obtain⟨j,k⟩:∃j,j=(n.setCell ⟨f,H+3,none⟩ (.slice (b 3).ao B (b 3).cap)).drew:=⟨_,rfl⟩
  have I:Hid (aR j f y x v { w with blocks:=N,Ve:=w.Ve.take c } b):=by rw[k];exact X.1.Va (ab.refl [] _).drew
  have T3:Hid (aA f T b j b):=by rw[k];exact T2.trans (X.2.Va (ab.refl [] _).drew)
  have B3:Hid (j.heap[T.heap.size]?=some (.cells #[.int .i64 c,.int .i64 i] 337 (0,0))):=by
   show j.heap[T.heap.size]?=_
   rw[k];exact(Q3 n ⟨f,H+3,none⟩ (.slice (b 3).ao B (b 3).cap) T.heap.size ac).trans F
  have E:Hid ((n.setCell ⟨f,H+3,none⟩ (.slice (b 3).ao B (b 3).cap)).drew=j):=k.symm;clear k X
  go_region_with (go_at_call 262;refine(we (b 3) w.Ve c B _ J (by exact u.own 3) hx.1).mono ?_;rintro e j ⟨rfl,rfl⟩)
  all_goals go_upto_region 5 with fail
  all_goals rw[E.out]
  all_goals
   clear E S M K R P t L V O U r p o q u T2 F c0 c1 Z;have c0:j.cell? ⟨T.heap.size,0,none⟩=some (.int .i64 c):=by rw[aa B3.out];rfl
   have c1:j.cell? ⟨T.heap.size,1,none⟩=some (.int .i64 i):=by rw[aa B3.out];rfl
   obtain⟨S,M,K,R,P,t,L,V,O,U,r,p,o⟩:=I.out.cells H z;have q:=I.out.free;have P4:=qj 4 4 (d':=dq w N (c,i)) I.out z (by omega) ((I.out.own 4).taken i) (wZ { w with blocks:=N,Ve:=w.Ve.take c } b (w.typed.take i)) (.slice (b 4).ao m2 (b 4).cap) (by omega) (by simp only[b9,dq,dh,<-C.out];rfl);have A:=hI P4;clear P4
   go_region_with (go_at_call 262;refine(we (b 4) w.typed i m2 _ C (by exact I.out.own 4) hx.2).mono ?_;rintro e j ⟨rfl,rfl⟩)
   all_goals go_wp2
   all_goals go_end0
   all_goals exact⟨rfl,A.out.1.Va (ab.refl [] _).drew,T3.out.trans (A.out.2.Va (ab.refl [] _).drew)⟩
theorem BG(f:α->List Value)(n:Nat)(b:∀a,(f a).length=n)(l:List α):(l.flatMap f).length=l.length*n:=by
 induction l with
 | nil=>simp
 | cons a l c=>simp only[RH,QZ,b,c,Ro];rw[Ub];omega
theorem BE(f:α->List Value)(n:Nat)(b:∀a,(f a).length=n)(l:List α)(i j:Nat)(c:i<l.length)(g:j<n):(l.flatMap f)[i*n+j]?=(f l[i])[j]?:=by
 induction l generalizing i with
 | nil=>simp at c
 | cons a l d =>
  rw[RH]
  cases i with
  | zero=>rw[Q6 (by rw[b];omega)];simp
  | succ i =>
   have e:(i+1)*n+j=n+(i*n+j):=by rw[Ub];omega
   rw[Q4 (by rw[b,e];omega),b,e,show n+(i*n+j)-n=i*n+j by omega];exact d i (by simpa using c)
theorem Lf(f:α->List Value)(n:Nat)(b:∀a,(f a).length=n)(l:List α)(i j:Nat)(c:i<l.length)(k:j<n)(g:α)(v:Value)(d:f g=(f l[i]).set j v) :
  (l.flatMap f).set (i*n+j) v=(l.set i g).flatMap f:=by
 induction l generalizing i with
 | nil=>simp at c
 | cons a l h =>
  cases i with
  | zero =>
   rw[Tu,RH,RH,TJ _ _ (by rw[b];omega),d];simp
  | succ i =>
   have e:(i+1)*n+j=n+(i*n+j):=by rw[Ub];omega
   rw[SA,RH,RH,SQ _ _ (by rw[b,e];omega),b,e,show n+(i*n+j)-n=i*n+j by omega];rw[h i (by simpa using c) (by simpa using d)]
theorem Mx:(mn o z4).length=o.length*8:=by
 unfold mn;rw[BG _ 8 (fun _=>rfl)];simp
theorem FI:(nC zb).length=zb.length*4:=BG _ 4 (fun _=>rfl) zb
theorem GN(b:d<o.length)(j:Nat)(a:j<8):(mn o z4)[d*8+j]?=(JM o[d] (z4 (10+2*d)) (z4 (11+2*d)))[j]?:=by
 unfold mn;rw[BE _ 8 (fun _=>rfl) _ d j (by simpa using b) a];simp
theorem Kc(b:d<zb.length)(j:Nat)(a:j<4):(nC zb)[d*4+j]?=(qW zb[d])[j]?:=BE _ 4 (fun _=>rfl) zb d j b a
theorem JX:mn (o++[ya]) z4=mn o z4++JM ya (z4 (10+2*o.length)) (z4 (11+2*o.length)):=by
 unfold mn;rw[List.zipIdx_append];simp
theorem FL:(o.set H ya).zipIdx=o.zipIdx.set H (ya,H):=by
 apply Sp
 intro j;simp only[List.getElem?_zipIdx,RT,List.length_zipIdx]
 by_cases e:H=j
 ·subst e
  by_cases a:H<o.length <;> simp[a]
 ·simp[e]
theorem My(b:d<o.length)(N:Nat):(mn o z4).set (d*8+7) (.int .i64 N)=mn (o.set d { o[d] with til:=N }) z4:=by
 unfold mn;rw[FL];exact Lf _ 8 (fun _=>rfl) _ d 7 (by simpa using b) (by omega) _ _ (by simp[JM])
theorem C4:(cN z5).length=z5.length*1:=by simp[cN]
theorem yR:jX (z0++[d])=jX z0++[.int .i64 d]:=by simp[jX]
theorem mu:(⟨(bB z0).e,(bB z0).size,(bB z0).n+1,(bB z0).xs++[.int .i64 d]⟩:dN)=bB (z0++[d]):=by simp[bB,yR]
theorem yF:(prog.info? 3).map (fun i=>(i.zero,i.size,i.bytes))=some (some (.int .i64 0),1,8):=by kernel_rfl
def qO(k:Int):Bool:=k==4||k==5
theorem dc(d k h i g f c:Value)(w:World) :
  Calls prog 160 #[.agg #[.int .i64 D,d,k,h,i,g,f,c]] w fun e j=>e=.returned (.bool (qO D))/\ab [] w j:=by
 cases b:(D==4)
 ·have a:Hid (qO D=(D==5)):=by show qO D=_;simp only[qO,b,So]
  go_enter func160,ntmps160;go_wp2;go_ret;exact⟨aD (by rw[a.out]),(ab.refl _ _).alloc _⟩
 ·have a:Hid (qO D=true):=by show qO D=_;simp only[qO,b,Tr]
  go_enter func160,ntmps160;go_wp2;go_ret;exact⟨aD (by rw[a.out]),(ab.refl _ _).alloc _⟩
theorem Av(h:aR T f y x v w b)(s:x.length=H)(V:fK w 100000000) :
  Calls prog 247 #[.pointer (some ⟨f,H+6,none⟩)] T fun e C=>e=.returned (.tuple #[])/\∃B,aR C f y x v { w with rbl:=w.rbl++[w.sts.length] } B/\aA f T b C B:=by
 obtain⟨G,I,l,o,q⟩:=Rd yF;obtain⟨W,J,D,U,L,R,Z,q7,K,X,p,m,k⟩:=h.cells H s;clear W J D U L R K X p m k;have P:=h.free;have O:=h.lt;have Y:=V.rbl;have t:Hid (aR (T.alloc (.cells #[.int .i64 w.sts.length] 3)).drew f y x v w b):=h.Va ((ab.refl [] T).alloc _).drew
 have F:Hid (∀j u,([.int .i64 w.sts.length]:List Value)[j]?=some u->(T.alloc (.cells #[.int .i64 w.sts.length] 3)).drew.cell? ((⟨T.heap.size,0,none⟩:Addr).add j)=some u):=by
  intro j u S;have E:(T.alloc (.cells #[.int .i64 w.sts.length] 3)).drew.heap[T.heap.size]?=some (.cells #[.int .i64 w.sts.length] 3 (0,0)):=QR _ _;rw[bL,aa E];simpa using S
 have Q:Hid (∀u∈([.int .i64 w.sts.length]:List Value),u.oneCell'=true):=by intro u z;simp at z;subst z;rfl
 have M:Hid ((bB w.rbl).n+1<=maxLen):=by show _<=_;simp only[bB];unfold maxLen;omega
 have N:Hid (((bB w.rbl).n+1)*8<=140737488355328):=by show _<=_;simp only[bB];omega
 clear h;go_enter func247,ntmps247;go_wp2_with fail
 go_region_law (refine cd rfl (.tmp 6) (.tmp 12) 26 rfl G (.int .i64 0) 8 (b 7) (bB w.rbl) underlying26 I l o q rfl Rb (by simp[Act.eval] <;> rfl) (t.out.own 7) ⟨T.heap.size,0,none⟩ 1 1 [.int .i64 w.sts.length] (by simp[Act.eval]) rfl F.out Q.out Rb M.out N.out ?_;intro g d w1 c i a;obtain⟨k5,f5,A⟩:=t.out.app (d':={ w with rbl:=w.rbl++[w.sts.length] }) H 7 s 7 (by omega) g d ((bB w.rbl).n+1) _ c (mu w.rbl _) i (by simpa using a) (CT w b _) (by omega) _ rfl (by simp[b9,g9,bB]);clear c i a)
 all_goals go_wp2
 all_goals go_end0
 all_goals exact⟨rfl,_,A.out.1,A.out.2.first ((ab.refl [] T).alloc _).drew⟩
def lL(N:Nat)(s:St):St:=if s.til=0/\qO s.kind=false then { s with til:=N } else s
def fD(l:List St)(b n:Nat):List St:=l.mapIdx (fun i s=>if b<=i/\i<n then lL l.length s else s)
def gy(l:List St)(b:Nat):List St:=fD l b l.length
theorem jg:(fD o i d).length=o.length:=by simp[fD]
theorem mq:(fD o H i)[d]?=o[d]?.map (fun s=>if H<=d/\d<i then lL o.length s else s):=by simp[fD]
theorem Bv:fD o d d=o:=by
 apply Sp
 intro i;rw[mq];have:¬(d<=i/\i<d):=by omega
 simp[this]
theorem vY(f:i<=d)(b:d<o.length):fD o i (d+1)=(fD o i d).set d (lL o.length o[d]):=by
 apply Sp
 intro a;rw[RT,mq,mq,jg]
 by_cases e:d=a
 ·subst e
  have c:i<=d/\d<d+1:=⟨f,by omega⟩;simp[b,c]
 ·have:(i<=a/\a<d+1) ↔ (i<=a/\a<d):=by omega
  simp[e,this]
theorem DV(c:i<=d)(a:d<o.length)(h:lL o.length o[d]=o[d]):fD o i (d+1)=fD o i d:=by
 rw[vY o i d c a,h]
 apply Sp
 intro b;rw[RT,jg]
 by_cases e:d=b
 ·subst e
  rw[mq];simp[a]
 ·simp[e]
theorem K0(a:d<o.length):(fD o i d)[d]?=some o[d]:=by
 rw[mq];simp[a]
theorem xl(b:d<o.length)(N:Nat)(i:Nat):symsAt (o.set d { o[d] with til:=N }) i=symsAt o i/\te (o.set d { o[d] with til:=N }) i=te o i:=by
 unfold symsAt te;rw[RT]
 by_cases e:d=i
 ·subst e;simp[b]
 ·simp[e]
theorem aR.til(h:aR k a M I g n S)(f:Nat)(t:(S 6).ao=some ⟨f,0,none⟩)(b:Nat)(q:b<n.sts.length)(N:Nat) :
  aR (k.setCell ⟨f,b*8+7,none⟩ (.int .i64 N)) a M I g { n with sts:=n.sts.set b { n.sts[b] with til:=N } } S/\aA a k S (k.setCell ⟨f,b*8+7,none⟩ (.int .i64 N)) S:=by
 have c:(S 6).blk=some f:=by unfold Hd.blk;rw[t];rfl
 have s:f≠a:=by rintro rfl;exact h.off 6 c
 refine⟨⟨?_,?_,h.apart,h.off⟩,(eK.refl _ _).setCell (Q0 (QU ⟨6,c⟩)) _,fun _ j=>Q0 j⟩
 ·rw[Q3 _ _ _ _ (fun e=>s e.symm),h.blk]
  simp[b9]
 ·intro i
  by_cases e:i=6
  ·subst e
   have w:aw k (S 6) (iE n.sts S):=h.own 6
   show aw _ (S 6) (iE (n.sts.set b { n.sts[b] with til:=N }) S)
   rcases w.ways with ⟨F,C,_⟩ | ⟨v,o,d,A,D,B,y,z⟩
   ·have:n.sts.length=0:=C
    omega
   ·have:v=f:=by rw[t]at d;injection d with d;injection d with d;exact d.symm
    subst this;refine⟨by simp only[iE];rw[Mx],QU ⟨v,(S 6).cap,o.setIfInBounds (b*8+7) (.int .i64 N),?_,Rn _,ah A _ _,?_,B,?_,?_⟩⟩
    ·simp[iE,t]
    ·simpa [iE] using D
    ·simpa [iE] using y
    ·have u:o.toList.take (n.sts.length*8)=mn n.sts S:=z
     simp only[iE,Ru,TM,UL,u];exact My n.sts S b q N
  ·have x:aU { n with sts:=n.sts.set b { n.sts[b] with til:=N } } S i=aU n S i:=by
    match i,e with
    | 0,_=>rfl
    | 1,_=>rfl
    | 2,_=>rfl
    | 3,_=>rfl
    | 4,_=>rfl
    | 5,_=>rfl
    | 6,e=>exact absurd rfl e
    | 7,_=>rfl
    | 8,_=>rfl
    | 9,_=>rfl
    | m+10,_=>simp only[aU,inner,(xl n.sts b q N (m / 2)).1,(xl n.sts b q N (m / 2)).2]
   rw[x];refine(h.own i).Vf (fun E j=>Q3 _ _ _ _ ?_);rintro rfl
   rcases h.apart i 6 e with p | p
   ·rw[p]at j;cases j
   ·exact p (j.trans c.symm)
theorem aR.stmt(h:aR k a M I g n S)(d:Nat)(o:(S 6).ao=some ⟨d,0,none⟩)(b:Nat)(s:St)(f:n.sts[b]?=some s) :
  k.cell? ⟨d,b*8,none⟩=some (.int .i64 s.kind)/\k.cell? ⟨d,b*8+1,none⟩=some (.string s.label)/\k.cell? ⟨d,b*8+2,none⟩=some (.slice (S (10+2*b)).ao s.U5.length (S (10+2*b)).cap) /\
  k.cell? ⟨d,b*8+3,none⟩=some (.slice (S (11+2*b)).ao s.proof.length (S (11+2*b)).cap)/\k.cell? ⟨d,b*8+4,none⟩=some (.string s.fin.file)/\k.cell? ⟨d,b*8+5,none⟩=some (.int .i64 s.fin.line) /\
  k.cell? ⟨d,b*8+6,none⟩=some (.int .i64 s.fin.col)/\k.cell? ⟨d,b*8+7,none⟩=some (.int .i64 s.til):=by
 obtain⟨m,rfl⟩:=Q7.1 f;have l:aw k (S 6) (iE n.sts S):=h.own 6;have c:=fun j (e:j<8) v (i:(JM n.sts[b] (S (10+2*b)) (S (11+2*b)))[j]?=some v)=>l.cell o (b*8+j) v ((GN n.sts S b m j e).trans i)
 exact⟨c 0 (by omega) _ rfl,c 1 (by omega) _ rfl,c 2 (by omega) _ rfl,c 3 (by omega) _ rfl,c 4 (by omega) _ rfl,c 5 (by omega) _ rfl,c 6 (by omega) _ rfl,c 7 (by omega) _ rfl⟩
theorem Cv:(jX z0).length=z0.length*1:=by simp[jX]
theorem aw.popN{l:List Nat}(o:aw k y8 (bB (l++[a]))):aw k y8 (bB l):=by
 rcases o.ways with ⟨t,q,_⟩ | ⟨g,b,i,p,m,j,h,n⟩
 ·have e:(l++[a]).length=0:=q
  simp at e
 ·obtain⟨s,c⟩:=y8
  simp only at i m j h;subst i;have d:(l++[a]).length<=c:=m;simp at d;refine⟨by simp only[bB];exact Cv l,QU ⟨g,c,b,rfl,Rn _,p,?_,j,h,?_⟩⟩
  ·simp only[bB];omega
  ·have f:b.toList.take ((l++[a]).length*1)=jX (l++[a]):=n
   simp only[bB];have r:jX l=(jX (l++[a])).take (l.length*1):=by rw[yR,List.take_left' (Cv l)]
   rw[r,<-f,UB]
   congr 1
   simp
theorem E1(h:aR T f y x v w b)(Z:x.length=H)(X:w.rbl=z0++[i])(hs:fK w 100000000)(hx:i<=w.sts.length) :
  Calls prog 249 #[.pointer (some ⟨f,H+6,none⟩)] T fun e w'=>e=.returned (.tuple #[])/\aR w' f y x v { w with rbl:=z0,sts:=gy w.sts i } b/\aA f T b w' b:=by
 obtain⟨J,G,F,Q,R,I,E,t,M,K,l,c,j⟩:=h.cells H Z;clear J G F Q R I M K l c j;have u:=h.free;have aT:=h.lt;have m:aw T (b 7) (bB (z0++[i])):=by have:=h.own 7;simp only[aU,X]at this;exact this
 have r:=hs.rbl;have af:=hs.sts;rw[X]at r t;simp only[QZ,Ro,Rr]at r t
 rcases m.ways with ⟨e0,h0,_⟩ | ⟨g,a0,e1,e2,e3,e4,e5,A⟩
 ·have an:(z0++[i]).length=0:=h0
  simp at an
 ·have p1:=m.cell e1 z0.length (.int .i64 i) (by simp[bB,jX])
  have ap:z0.length+1<=(b 7).cap:=by have:(z0++[i]).length<=(b 7).cap:=e3;simpa using this
  have ao:(b 7).cap<=9223372036854775807:=by unfold maxLen at e4;exact e4
  have P1:=qj 7 7 (d':={ w with rbl:=z0 }) h Z (by omega) m.popN (CT w b z0) (.slice (some ⟨g,0,none⟩) z0.length (b 7).cap) (by omega) (by simp[b9,g9,e1]);rw[e1]at t;have HP:=hI P1;clear m e3 e4 e5 A e2 h P1;go_enter func249,ntmps249;go_wp2
  go_loopg [4] (w.sts.length-i) (fun g aS wr=>∃k:Nat,i<=k/\k<=w.sts.length/\g=w.sts.length-k/\aS=.int .i64 k/\aR wr f y x v { w with rbl:=z0,sts:=fD w.sts i k } b/\aA f T b wr b)
  case atStart=>exact⟨i,by omega,hx,rfl,rfl,by rw[Bv];exact HP.out.1,HP.out.2⟩
  case round =>
   obtain⟨k,d,az,hg,rfl,D,ac⟩:=hrel;clear HP E t p1 u;obtain⟨J,G,F,Q,R,I,E,t,M,K,l,c,j⟩:=D.cells H Z;clear J G F Q R I t M K l c j;have u:=D.free;simp only[jg]at E
   by_cases p:k<w.sts.length
   ·have o:=K0 w.sts i k p
    have O:aw wr (b 6) (iE (fD w.sts i k) b):=D.own 6
    rcases O.ways with ⟨_,h0,_⟩ | ⟨S,ar,A,n,V,-⟩
    ·have:(fD w.sts i k).length=0:=h0
     rw[jg]at this;omega
    ·obtain⟨c0,c1,c2,c3,c4,c5,c6,c7⟩:=D.stmt S A k _ o
     rw[A]at E;have z:=am n
     have HS:Hid (∀N:Nat,aR wr f y x v { w with rbl:=z0,sts:=fD w.sts i k } b->∀C,ab [] wr C->aR (C.setCell ⟨S,k*8+7,none⟩ (.int .i64 N)) f y x v { w with rbl:=z0,sts:=(fD w.sts i k).set k { w.sts[k] with til:=N } } b/\aA f T b (C.setCell ⟨S,k*8+7,none⟩ (.int .i64 N)) b):=by
      intro N D C d;have Y:=D.Va d;have hn:k<(fD w.sts i k).length:=by rw[jg];exact p
      have P:=Y.til S A k hn N;have es:(fD w.sts i k)[k]=w.sts[k]:=by have:=o;rw[QO hn]at this;simpa using this
      simp only[es]at P;exact⟨P.1,(ac.Va d).trans P.2⟩
     have L:Hid (lL w.sts.length w.sts[k]=w.sts[k]->fD w.sts i (k+1)=fD w.sts i k):=DV w.sts i k d p;have H2:Hid (fD w.sts i (k+1)=(fD w.sts i k).set k (lL w.sts.length w.sts[k])):=vY w.sts i k d p;have ax:=ae n;have ai:=n;have W:=hI o;have al:w.sts.length<=(b 6).cap:=by have:(fD w.sts i k).length<=(b 6).cap:=V;rw[jg]at this;exact this
     clear o O n V;generalize w.sts[k]=s at *
     cases hz:((s.til:Int)==0)
     ·have U:Hid (fD w.sts i (k+1)=fD w.sts i k):=L.out (by
       have:¬s.til=0:=by intro e;simp[e]at hz
       simp[lL,this])
      clear HS L H2 z;go_wp2
      go_roundg (w.sts.length-(k+1))
      case measure=>omega
      case rel=>exact⟨k+1,by omega,by omega,rfl,by go_num,by rw[U.out];exact D,ac⟩
     ·have B:s.til=0:=by have:=TQ hz;omega
      cases ha:qO s.kind
      ·have U:Hid (fD w.sts i (k+1)=(fD w.sts i k).set k { s with til:=w.sts.length }):=by
        show _=_;rw[H2.out];simp[lL,B,ha]
       clear L H2 B;go_wp2_with (go_at_call 160;refine(dc s.kind _ _ _ _ _ _ _ _).mono ?_;rintro e C ⟨rfl,a⟩;have ad:=a.get ai (by simp));have Y:=D.Va a;have PS:=hI (fun N=>HS.out N D _ a);obtain⟨J,G,F,Q,R,I,E,t,M,K,l,c,j⟩:=Y.cells H Z;clear J G F Q R I t M K l c j;simp only[jg,A]at E;obtain⟨c0,c1,c2,c3,c4,c5,c6,c7⟩:=Y.stmt S A k _ W.out;clear c0 c1 c2 c3 c4 c5 c6;have z:=am ad;have u:=Y.free
       go_region
       all_goals go_wp2
       all_goals
        go_roundg (w.sts.length-(k+1))
        case measure=>omega
        case rel=>exact⟨k+1,by omega,by omega,rfl,by go_num,by rw[U.out];exact(PS.out _).1.Va (ab.refl [] _).drew,(PS.out _).2.Va (ab.refl [] _).drew⟩
      ·have U:Hid (fD w.sts i (k+1)=fD w.sts i k):=L.out (by simp[lL,ha])
       clear HS L H2 z B;go_wp2_with (go_at_call 160;refine(dc s.kind _ _ _ _ _ _ _ _).mono ?_;rintro e C ⟨rfl,a⟩)
       go_roundg (w.sts.length-(k+1))
       case measure=>omega
       case rel=>exact⟨k+1,by omega,by omega,rfl,by go_num,by rw[U.out];exact D.Va a,ac.Va a⟩
   ·have e:k=w.sts.length:=by omega
    subst e;go_wp2;go_end0;exact⟨rfl,D,ac⟩
theorem Qa:(prog.info? 158).map (fun i=>(i.zero,i.size,i.bytes))=some (some (.agg #[.int .i64 0,.string ⟨#[]⟩,.slice none 0 0,.slice none 0 0,.string ⟨#[]⟩,.int .i64 0,.int .i64 0,.int .i64 0]),8,112):=by kernel_rfl
theorem OB:(prog.info? 229).map (fun i=>(i.zero,i.size,i.bytes))=some (some (.agg #[.string ⟨#[]⟩,.string ⟨#[]⟩,.int .i64 0,.int .i64 0]),4,48):=by kernel_rfl
theorem uQ(h:∀j,j<10+2*o.length->z4 j=b j):mn o z4=mn o b:=by
 unfold mn;rw[Un,Un]
 congr 1
 apply Uw
 intro p a
 have:p.2<o.length:=by
  have:=List.snd_lt_add_of_mem_zipIdx a;omega
 rw[h _ (by omega),h _ (by omega)]
theorem Mk(o:aw yd z7 (aB z5)):aw yd z7 (aB []):=by
 have:=o.taken 0;simpa using this
theorem Mm(o:aw yd z7 (gN zb)):aw yd z7 (gN []):=by
 rcases o.ways with ⟨f,j,_⟩ | ⟨g,a,e,i,h,c,d,k⟩
 ·subst f
  exact⟨by simp[gN,nC],Q0 ⟨by simp[gN],by simp[gN]⟩⟩
 ·obtain⟨l,b⟩:=z7
  simp only at e h c d;subst e;exact⟨by simp[gN,nC],QU ⟨g,b,a,rfl,Rn _,i,by simp[gN],c,d,by simp[gN,nC]⟩⟩
theorem aR.addst{w1:World}(V:aR k a M I g n S)(C:ab [] k z6)(ho:I.length=z3)(s:St)(A z:Hd)(J H:Nat)(Z:A.blk=some J)(R:z.blk=some H)(ac:k.heap.size<=J)(Y:k.heap.size<=H)(D:J≠H)(os:aw z6 A (aB s.U5))(op:aw z6 z (gN s.proof))(x d:Nat)(O:aw w1 ⟨some ⟨x,0,none⟩,d⟩ ⟨(iE n.sts S).e,(iE n.sts S).size,(iE n.sts S).n+1,(iE n.sts S).xs++JM s A z⟩)(B:z6.grownBy w1 (S 6).blk)(w:(S 6).blk=some x∨z6.heap.size<=x) :
  w1.cell? ⟨a,z3+6,none⟩=some (.slice (S 6).ao n.sts.length (S 6).cap)/\w1.frozen? ⟨a,z3+6,none⟩=false /\
  Hid (∃W,aR (w1.setCell ⟨a,z3+6,none⟩ (.slice (some ⟨x,0,none⟩) ((iE n.sts S).n+1) d)) a M I g { n with sts:=n.sts++[s] } W /\
   aA a k S (w1.setCell ⟨a,z3+6,none⟩ (.slice (some ⟨x,0,none⟩) ((iE n.sts S).n+1) d)) W/\∀j,j<10->j≠6->W j=S j):=by
 have h:=V.Va C;have E:=(B.block a h.lt (fun e=>h.off 6 e.symm)).trans h.blk;refine⟨(aa E (z3+6)).trans (Ak I (b9 n S) g z3 6 ho (by simp[b9])),am E _,?_⟩;have U:=fun {y} (E:f9 S y)=>V.inlt E
 have ad:=V.lt;obtain⟨l,v⟩:∃l,l=g9 (g9 S (10+2*n.sts.length) A) (11+2*n.sts.length) z:=⟨_,rfl⟩
 have o:∀j,j≠10+2*n.sts.length->j≠11+2*n.sts.length->l j=S j:=fun j b c=>by rw[v,bU _ _ _ _ c,bU _ _ _ _ b]
 have G:l (10+2*n.sts.length)=A:=by rw[v,bU _ _ _ _ (by omega),dh]
 have K:l (11+2*n.sts.length)=z:=by rw[v,dh]
 have e4:mn n.sts l=mn n.sts S:=uQ _ _ _ (fun j t=>o j (by omega) (by omega));clear v
 have el:b9 n l=b9 n S:=by
  unfold b9;rw[o 0 (by omega) (by omega),o 1 (by omega) (by omega),o 2 (by omega) (by omega),o 3 (by omega) (by omega),o 4 (by omega) (by omega),o 5 (by omega) (by omega),o 6 (by omega) (by omega),o 7 (by omega) (by omega),o 8 (by omega) (by omega),o 9 (by omega) (by omega)]
 have er:∀j,aU n l j=aU n S j:=by
  intro j;unfold aU
  split <;> first | rfl | (simp only[iE,e4])
 have L:∀j,(l j).blk=(S j).blk∨((l j).blk=some J/\j=10+2*n.sts.length)∨((l j).blk=some H/\j=11+2*n.sts.length):=by
  intro j
  by_cases b:j=10+2*n.sts.length
  ·subst b;rw[G];exact QU (Q0 ⟨Z,rfl⟩)
  ·by_cases c:j=11+2*n.sts.length
   ·subst c;rw[K];exact QU (QU ⟨R,rfl⟩)
   ·rw[o j b c];exact Q0 rfl
 have D1:aR z6 a M I g n l:=by
  refine⟨by rw[el];exact h.blk,?_,?_,?_⟩
  ·intro j
   rw[er j]
   by_cases b:j=10+2*n.sts.length
   ·subst b
    rw[G]
    have:aU n S (10+2*n.sts.length)=aB []:=by
     rw[show 10+2*n.sts.length=2*n.sts.length+10 by omega];simp[aU,inner,symsAt]
    rw[this];exact Mk z6 A _ os
   ·by_cases c:j=11+2*n.sts.length
    ·subst c
     rw[K]
     have:aU n S (11+2*n.sts.length)=gN []:=by
      rw[show 11+2*n.sts.length=(2*n.sts.length+1)+10 by omega];have q:(2*n.sts.length+1) % 2=1:=by omega
      have N:(2*n.sts.length+1) / 2=n.sts.length:=by omega
      simp[aU,inner,te,q,N]
     rw[this];exact Mm z6 z _ op
    ·rw[o j b c];exact h.own j
  ·intro i j X
   have f:∀i y,(S i).blk=some y->y<k.heap.size:=fun i y e=>U ⟨i,e⟩
   rcases L i with b | ⟨b,ai⟩ | ⟨b,ai⟩ <;> rcases L j with c | ⟨c,cj⟩ | ⟨c,cj⟩ <;> rw[b,c]
   ·exact h.apart i j X
   ·cases e:(S i).blk with
    | none=>exact Q0 rfl
    | some y=>right;intro r;cases r;have:=f i _ e;omega
   ·cases e:(S i).blk with
    | none=>exact Q0 rfl
    | some y=>right;intro r;cases r;have:=f i _ e;omega
   ·right;intro r;have:=f j _ r.symm;omega
   ·omega
   ·right;intro r;cases r;exact D rfl
   ·right;intro r;have:=f j _ r.symm;omega
   ·right;intro r;cases r;exact D rfl
   ·omega
  ·intro j
   rcases L j with b | ⟨b,_⟩ | ⟨b,_⟩ <;> rw[b]
   ·exact h.off j
   ·intro e;cases e;omega
   ·intro e;cases e;omega
 have T1:aA a k S z6 l:=by
  refine⟨C.toP (by simp),?_⟩;rintro y ⟨j,t⟩
  rcases L j with b | ⟨b,_⟩ | ⟨b,_⟩ <;> rw[b]at t
  ·exact Q0 ⟨j,t⟩
  ·cases t;exact QU ac
  ·cases t;exact QU Y
 have h6:l 6=S 6:=o 6 (by omega) (by omega)
 have T:aU { n with sts:=n.sts++[s] } l 6=⟨(iE n.sts S).e,(iE n.sts S).size,(iE n.sts S).n+1,(iE n.sts S).xs++JM s A z⟩:=by
  simp only[aU,iE,JX,G,K,e4,QZ,Ro,Rr]
 have P:=D1.putG (d':={ n with sts:=n.sts++[s] }) z3 6 ho 6 (by omega) ⟨some ⟨x,0,none⟩,d⟩ (by rw[T];exact O) (by rw[h6];exact B)
  (by
    rcases w with e | e
    ·exact QU (Q0 (by rw[h6];exact e.symm))
    ·exact QU (QU ⟨x,rfl,e⟩))
  (by
   intro j t
   by_cases b:j=10+2*n.sts.length
   ·subst b
    rw[G]
    have:aU { n with sts:=n.sts++[s] } l (10+2*n.sts.length)=aB s.U5:=by
     rw[show 10+2*n.sts.length=2*n.sts.length+10 by omega];simp[aU,inner,symsAt]
    rw[this];exact os
   ·by_cases c:j=11+2*n.sts.length
    ·subst c
     rw[K]
     have:aU { n with sts:=n.sts++[s] } l (11+2*n.sts.length)=gN s.proof:=by
      rw[show 11+2*n.sts.length=(2*n.sts.length+1)+10 by omega];have q:(2*n.sts.length+1) % 2=1:=by omega
      have N:(2*n.sts.length+1) / 2=n.sts.length:=by omega
      simp[aU,inner,te,q,N]
     rw[this];exact op
    ·have:aU { n with sts:=n.sts++[s] } l j=aU n l j:=by
      match j,t,b,c with
      | 0,_,_,_=>rfl
      | 1,_,_,_=>rfl
      | 2,_,_,_=>rfl
      | 3,_,_,_=>rfl
      | 4,_,_,_=>rfl
      | 5,_,_,_=>rfl
      | 6,t,_,_=>exact absurd rfl t
      | 7,_,_,_=>rfl
      | 8,_,_,_=>rfl
      | 9,_,_,_=>rfl
      | m+10,_,b,c =>
       have hm:m / 2≠n.sts.length:=by omega
       have e:(n.sts++[s])[m / 2]?=n.sts[m / 2]?:=by
        rcases UQ (m / 2) n.sts.length with F | F
        ·exact Q6 F
        ·rw[Q4 F,Rv F,Rv (by simp;omega)]
       simp only[aU,inner,symsAt,te,e]
     rw[this];exact D1.own j)
  (.slice (some ⟨x,0,none⟩) ((iE n.sts S).n+1) d) (by omega) (by
   rw[el];have u:∀j,j<10->j≠6->g9 l 6 (⟨some ⟨x,0,none⟩,d⟩:Hd) j=S j:=fun j t Q=>by rw[bU _ _ _ _ Q];exact o j (by omega) (by omega)
   unfold b9;rw[u 0 (by omega) (by omega),u 1 (by omega) (by omega),u 2 (by omega) (by omega),u 3 (by omega) (by omega),u 4 (by omega) (by omega),u 5 (by omega) (by omega),u 7 (by omega) (by omega),u 8 (by omega) (by omega),u 9 (by omega) (by omega),dh];simp[iE])
 exact⟨_,P.1,T1.trans P.2,fun j t Q=>by rw[bU _ _ _ _ Q];exact o j (by omega) (by omega)⟩
theorem FJ:∀u∈nC zb,u.oneCell'=true:=by
 intro u a;simp only[nC,TR]at a;obtain⟨p,_,a⟩:=a;simp only[qW,Ri,RN,SO]at a
 rcases a with rfl | rfl | rfl | rfl <;> rfl
theorem Ob(a b:Hd):∀u∈JM ya a b,u.oneCell'=true:=by
 intro u c;simp only[JM,Ri,RN,SO]at c
 rcases c with rfl | rfl | rfl | rfl | rfl | rfl | rfl | rfl <;> rfl
theorem rJ(m C:ByteArray)(l c:Int)(a:World)(h:aR a f y x v w b)(ho:x.length=H)(hs:fK w 100000000) :
  Calls prog 268 #[.pointer (some ⟨f,H+6,none⟩),.agg #[.int .i64 D,.string m,.slice (b 8).ao w.U5.length (b 8).cap,.slice (b 9).ao w.proof.length (b 9).cap,.string C,.int .i64 l,.int .i64 c,.int .i64 0]] a fun e w' =>
   e=.returned (.tuple #[])/\∃H',aR w' f y x v { w with sts:=w.sts++[⟨D,m,w.U5,w.proof,⟨C,l,c⟩,0⟩] } H'/\aA f a b w' H'/\∀j,j<10->j≠6->H' j=b j:=by
 obtain⟨i0,hi,a2,af,ba⟩:=Rd js;obtain⟨i1,ax,aT,Y,a5⟩:=Rd OB;obtain⟨i2,a1,aS,a3,az⟩:=Rd Qa;have bg:=hs.U5;have bj:=hs.proof;have bc:=hs.sts;have m1:=fun a=>dB (P:=prog) a 61 9 i0 _ underlying61 hi a2 w.U5.length 1 af (by rw[ba];omega) (by omega)
 have m2:=fun a=>dB (P:=prog) a 156 229 i1 _ underlying156 ax aT w.proof.length 4 Y (by rw[a5];omega) (by omega)
 obtain⟨t,A⟩:∃mc,mc=madeCells (Value.string ⟨#[]⟩).cells (w.U5.length*1):=⟨_,rfl⟩
 obtain⟨G,B⟩:∃mc,mc=madeCells (Value.agg #[.string ⟨#[]⟩,.string ⟨#[]⟩,.int .i64 0,.int .i64 0]).cells (w.proof.length*4):=⟨_,rfl⟩
 have z1:t.size=w.U5.length*1:=by rw[A,Ss]
 have z2:G.size=w.proof.length*4:=by rw[B,Ss]
 rw[<-A]at m1;rw[<-B]at m2;clear A B;obtain⟨bx,o⟩:∃bx:Array Value,bx=#[.int .i64 D,.string m,.slice (b 8).ao w.U5.length (b 8).cap,.slice (b 9).ao w.proof.length (b 9).cap,.string C,.int .i64 l,.int .i64 c,.int .i64 0]:=⟨_,rfl⟩
 obtain⟨O,q⟩:∃O,O=(a.alloc (.cells #[.int .i64 D,.string m,.slice (b 8).ao w.U5.length (b 8).cap,.slice (b 9).ao w.proof.length (b 9).cap,.string C,.int .i64 l,.int .i64 c,.int .i64 0] 158)).alloc (.cells t 9):=⟨_,rfl⟩
 have K2:ab [] a O:=by rw[q];exact((ab.refl [] _).alloc _).alloc _
 have D2:=h.Va K2;have Z2:O.heap.size=a.heap.size+2:=by rw[q];simp
 have B2:O.heap[a.heap.size]?=some (.cells bx 158 (0,0)):=by
  rw[q,o];exact((ab.refl [] _).alloc _).get (QR _ _) (by simp)
 have G2:O.heap[a.heap.size+1]?=some (.cells t 9 (0,0)):=by
  rw[q];have:=QR (a.alloc (.cells #[.int .i64 D,.string m,.slice (b 8).ao w.U5.length (b 8).cap,.slice (b 9).ao w.proof.length (b 9).cap,.string C,.int .i64 l,.int .i64 c,.int .i64 0] 158)) (.cells t 9);simpa using this
 have al:=hI q.symm;have bk:=h.lt;have ap:Hid ((prog.info? (aB w.U5).e).map (·.size)=some (aB w.U5).size):=by show _=_;simp[aB,hi,af]
 have ac:Hid ((prog.info? (gN w.proof).e).map (·.size)=some (gN w.proof).size):=by show _=_;simp[gN,ax,Y]
 clear q;go_enter func268,ntmps268
 go_upto_region 2 with fail
 rw[al.out];have b2:O.cell? ⟨a.heap.size,2,none⟩=some (.slice (b 8).ao w.U5.length (b 8).cap):=by rw[aa B2,o];rfl
 clear al m1;obtain⟨w3,ag,U,T,L⟩:=tO (P:=prog) O 61 61 3 (a.heap.size+1) w.U5.length (b 8) (aB w.U5) t 9 underlying61 ap.out G2 (D2.own 8) z1 (lX _);simp only[aB]at ag U;have K3:ab [] a w3:=((K2.mono (S':=[a.heap.size+1]) (by simp)).trans T).mono (by simp);have B3:=T.get B2 (by simp);rw[Z2]at L;have b3:w3.cell? ⟨a.heap.size,3,none⟩=some (.slice (b 9).ao w.proof.length (b 9).cap):=by rw[aa B3,o];rfl
 clear G2 B2 D2 T K2;obtain⟨Q,s⟩:∃Q,Q=w3.alloc (.cells G 229):=⟨_,rfl⟩
 have K4:ab [] a Q:=by rw[s];exact K3.alloc _
 have V:ab [] w3 Q:=by rw[s];exact(ab.refl [] _).alloc _
 have D4:=h.Va K4;have B4:=V.get B3 (by simp);have S4:=V.get U (by simp);have G4:Q.heap[a.heap.size+2]?=some (.cells G 229 (0,0)):=by rw[s,<-L];exact QR _ _
 have ad:=hI s.symm;have Z4:Q.heap.size=a.heap.size+3:=by rw[s];simp[L]
 clear s V
 go_upto_region 4 with fail
 clear ag b2;rw[ad.out];have b4:Q.cell? ⟨a.heap.size,3,none⟩=some (.slice (b 9).ao w.proof.length (b 9).cap):=by rw[aa B4,o];rfl
 clear ad m2 b3;obtain⟨W,ai,S,K,a7⟩:=tO (P:=prog) Q 156 156 3 (a.heap.size+2) w.proof.length (b 9) (gN w.proof) G 229 underlying156 ac.out G4 (D4.own 9) z2 (FJ _);simp only[gN]at ai S;have K5:ab [] a W:=((K4.mono (S':=[a.heap.size+2]) (by simp)).trans K).mono (by simp);have X:=K.get B4 (by simp);have S5:=K.get S4 (by simp);rw[Z4]at a7;clear G4 B4 D4 K K4 S4;have a6:W.cell? ⟨a.heap.size,2,none⟩=some (.slice (b 8).ao w.U5.length (b 8).cap):=by rw[aa X,o];rfl
 have a0:W.cell? ⟨a.heap.size,3,none⟩=some (.slice (b 9).ao w.proof.length (b 9).cap):=by rw[aa X,o];rfl
 have a4:W.cell? ⟨a.heap.size,7,none⟩=some (.int .i64 0):=by rw[aa X,o];rfl
 have fx:=am X;obtain⟨E,z⟩:∃E,E=((W.setCell ⟨a.heap.size,2,none⟩ (.slice (some ⟨a.heap.size+1,0,none⟩) w.U5.length w.U5.length)).setCell ⟨a.heap.size,3,none⟩ (.slice (some ⟨a.heap.size+2,0,none⟩) w.proof.length w.proof.length)).setCell ⟨a.heap.size,7,none⟩ (.int .i64 0):=⟨_,rfl⟩
 have Z:=hI z.symm;have K8:ab [] a E:=by rw[z];exact((K5.setCell (QU (QQ _)) _).setCell (QU (QQ _)) _).setCell (QU (QQ _)) _
 have R:ab [a.heap.size] W E:=by rw[z];exact(((ab.refl _ _).setCell (Q0 (by simp)) _).setCell (Q0 (by simp)) _).setCell (Q0 (by simp)) _
 have B8:E.heap[a.heap.size]?=some (.cells (JM ⟨D,m,w.U5,w.proof,⟨C,l,c⟩,0⟩ ⟨some ⟨a.heap.size+1,0,none⟩,w.U5.length⟩ ⟨some ⟨a.heap.size+2,0,none⟩,w.proof.length⟩).toArray 158 (0,0)):=by
  rw[z,ah (ah (ah X _ _) _ _),o];rfl
 have S8:=R.get S5 (by simp);have P8:=R.get S (by simp);clear z R S5 S X
 go_upto_region 8 with fail
 rw[Z.out];clear Z ai a6 a0 a4 fx b4 K5 o U L B3 K3;have J:=fun j v (hv:(JM ⟨D,m,w.U5,w.proof,⟨C,l,c⟩,0⟩ ⟨some ⟨a.heap.size+1,0,none⟩,w.U5.length⟩ ⟨some ⟨a.heap.size+2,0,none⟩,w.proof.length⟩)[j]?=some v)=>(aa B8 j).trans (by simpa using hv)
 have y0:=J 0 _ rfl;have y1:=J 1 _ rfl;have y2:=J 2 _ rfl;have y3:=J 3 _ rfl;have y4:=J 4 _ rfl;have y5:=J 5 _ rfl;have y6:=J 6 _ rfl;have y7:=J 7 _ rfl;simp only at y0 y1 y2 y3 y4 y5 y6 y7;clear J;have D8:=h.Va K8;have q6:=D8.cellAt H ho 6 (by omega);simp only[b9,SD,Td]at q6;have be:=D8.free;have bd:=D8.lt;obtain⟨d,k⟩:∃d:List Value,d=JM ⟨D,m,w.U5,w.proof,⟨C,l,c⟩,0⟩ ⟨some ⟨a.heap.size+1,0,none⟩,w.U5.length⟩ ⟨some ⟨a.heap.size+2,0,none⟩,w.proof.length⟩:=⟨_,rfl⟩
 obtain⟨F,M⟩:∃F,F=(E.alloc (.cells #[.int .i64 D,.string m,.slice (some ⟨a.heap.size+1,0,none⟩) w.U5.length w.U5.length,.slice (some ⟨a.heap.size+2,0,none⟩) w.proof.length w.proof.length,.string C,.int .i64 l,.int .i64 c,.int .i64 0] 158)).drew:=⟨_,rfl⟩
 have K9:ab [] E F:=by rw[M];exact((ab.refl [] _).alloc _).drew
 have G9:F.heap[E.heap.size]?=some (.cells d.toArray 158 (0,0)):=by rw[M,k];exact QR _ _
 have O1:aw F ⟨some ⟨a.heap.size+1,0,none⟩,w.U5.length⟩ (aB w.U5):=aw.made (r:=aB w.U5) (K9.get S8 (by simp)) (C4 _) (by simp only[aB];unfold maxLen;omega);have O2:aw F ⟨some ⟨a.heap.size+2,0,none⟩,w.proof.length⟩ (gN w.proof):=aw.made (r:=gN w.proof) (K9.get P8 (by simp)) (FI _) (by simp only[gN];unfold maxLen;omega);have D9:Hid (aR F f y x v w b):=D8.Va K9
 have s2:Hid (∀j u,d[j]?=some u->F.cell? ((⟨E.heap.size,0,none⟩:Addr).add j)=some u):=by
  intro j u hj;rw[bL,aa G9];simpa using hj
 have s3:Hid (∀u∈d,u.oneCell'=true):=by rw[k];exact Ob _ _ _
 have s4:Hid ((iE w.sts b).n+1<=maxLen):=by show _<=_;simp only[iE];unfold maxLen;omega
 have s5:Hid (((iE w.sts b).n+1)*112<=140737488355328):=by show _<=_;simp only[iE];omega
 have AF:=fun(g p:Nat) (w1:World) (I:aw w1 ⟨some ⟨g,0,none⟩,p⟩ ⟨(iE w.sts b).e,(iE w.sts b).size,(iE w.sts b).n+1,(iE w.sts b).xs++d⟩) N i=>h.addst (K8.trans K9) ho ⟨D,m,w.U5,w.proof,⟨C,l,c⟩,0⟩ ⟨some ⟨a.heap.size+1,0,none⟩,w.U5.length⟩ ⟨some ⟨a.heap.size+2,0,none⟩,w.proof.length⟩ (a.heap.size+1) (a.heap.size+2) rfl rfl (by omega) (by omega) (by omega) O1 O2 g p (w1:=w1) (by rw[<-k];exact I) N i
 have an:=hI AF;have ar:Hid (d.length=1*(iE w.sts b).size):=by show _=_;rw[k];rfl
 rw[M]at D9 s2 an;clear AF O1 O2 G9 K9 M F k P8 S8 B8
 go_region_law (refine cd rfl (.tmp 31) (.tmp 33) 74 rfl i2 (.agg #[.int .i64 0,.string ⟨#[]⟩,.slice none 0 0,.slice none 0 0,.string ⟨#[]⟩,.int .i64 0,.int .i64 0,.int .i64 0]) 112 (b 6) (iE w.sts b) underlying74 a1 aS a3 az rfl (Uy 7) (by simp[Act.eval] <;> rfl) (D9.out.own 6) ⟨E.heap.size,0,none⟩ 1 1 d (by simp[Act.eval]) ar.out s2.out s3.out Rb s4.out s5.out ?_;intro g p w1 I N i;obtain⟨k5,f5,HP⟩:=an.out g p w1 I N (by simpa using i);clear I N i)
 all_goals go_wp2
 all_goals go_end0
 all_goals
  obtain⟨H',P1,P2,P3⟩:=HP.out;exact⟨rfl,H',P1,P2,P3⟩
def mX(d:Db)(p:Pl):Db:={ d with sts:=d.sts++[⟨d.kind,d.label,d.U5,d.proof,p,0⟩] }
def mN(d:Db):Db:=if(d.kind==2)=true/\1<d.U5.length then { d with typed:=d.typed++[d.U5.getD 1 ⟨#[]⟩] } else d
def aY(d:Db)(p:Pl):Db :=
 if(d.kind==7)=true then { d with U7:=d.U7++d.U5 }
 else if(d.kind==8)=true then dO d d.U5.length
 else mX (mN d) p
theorem zw(D:aR k a M I g n S)(j:I.length=z3)(i:S 8=y9 8)(d:S 9=y9 9) :
  k.cell? ⟨a,z3+8,none⟩=some (.int .i64 n.kind)/\k.cell? ⟨a,z3+9,none⟩=some (.string n.label)/\k.cell? ⟨a,z3+10,none⟩=some (.slice (y9 8).ao n.U5.length (y9 8).cap)/\k.cell? ⟨a,z3+12,none⟩=some (.slice (y9 9).ao n.proof.length (y9 9).cap):=by
 obtain⟨o,q,l,m,r,s,p,t,h,f,c,e,b⟩:=D.cells z3 j;rw[i]at c;rw[d]at b;exact⟨h,f,c,b⟩
theorem zv{f:ByteArray}{l c:Int}(T:aA a k S z6 y9)(B:k.heap[M]?=some (.cells #[.string f,.int .i64 l,.int .i64 c] 36 (0,0)))(h:M≠a)(d:∀b,f9 S b->b≠M) :
  z6.cell? ⟨M,0,none⟩=some (.string f)/\z6.cell? ⟨M,1,none⟩=some (.int .i64 l)/\z6.cell? ⟨M,2,none⟩=some (.int .i64 c):=by
 have g:=T.1.get B (by rintro (e | e);exact h e;exact d _ e rfl);refine⟨?_,?_,?_⟩ <;> rw[aa g] <;> rfl
theorem Br(h:aR T f y x v w b)(d:x.length=H)(hm:0<w.U5.length)(c:fK w 10000000) :
  Calls prog 252 #[.pointer (some ⟨f,H,none⟩),.agg #[.string l,.int .i64 L,.int .i64 D]] T fun e a=>e=.returned (.tuple #[])/\∃H',aR a f y x v (aY w ⟨l,L,D⟩) H'/\aA f T b a H':=by
 obtain⟨W,Z⟩:∃W,W=T.alloc (.cells #[.string l,.int .i64 L,.int .i64 D] 36):=⟨_,rfl⟩
 have K:ab [] T W:=by rw[Z];exact(ab.refl [] _).alloc _
 have r:=h.Va K;have P:=hI Z.symm;have B:W.heap[T.heap.size]?=some (.cells #[.string l,.int .i64 L,.int .i64 D] 36 (0,0)):=by rw[Z];exact QR _ _
 have n:T.heap.size≠f:=by have:=h.lt;omega
 have A:Hid (∀k,f9 b k->k≠T.heap.size):=fun k hk=>by have:=h.inlt hk;omega
 have j:=(show Hid (fK w 100000000) from⟨by have:=c.Vd;omega,by have:=c.U7;omega,by have:=c.U8;omega,by have:=c.Ve;omega,by have:=c.typed;omega,by have:=c.blocks;omega,by have:=c.sts;omega,by have:=c.rbl;omega,by have:=c.U5;omega,by have:=c.proof;omega⟩);clear Z;obtain⟨q0,q1,q2,q3,q4,q5,q6,q7,q8,q9,m,z,C⟩:=r.cells H d;clear q0 q1 q2 q3 q4 q5 q6 q7 z;have ar:=c.U5
 cases X:(w.kind==7)
 ·cases k8:(w.kind==8)
  ·by_cases I:(w.kind==2)=true/\1<w.U5.length
   ·have o:Hid (aY w ⟨l,L,D⟩=mX { w with typed:=w.typed++[w.U5.getD 1 ⟨#[]⟩] } ⟨l,L,D⟩):=by show aY w ⟨l,L,D⟩=_;unfold aY mN;rw[X,k8,QV I];simp
    obtain⟨O,E⟩:=I;have hx:w.U5.getD 1 ⟨#[]⟩=w.U5[1]:=by rw[QP,QO E];rfl
    rw[hx]at o;have F:aw W (b 8) (aB w.U5):=r.own 8
    rcases F.ways with ⟨_,h0,_⟩ | ⟨g8,ai,e8,-,af,-⟩
    ·have:w.U5.length=0:=h0
     omega
    ·have c1:=F.cell e8 1 (.string w.U5[1]) (tB w.U5 1 E)
     rw[e8]at m;have al:w.U5.length<=(b 8).cap:=af;have an:=c.typed;clear F hx;generalize w.U5[1]=ag at *;go_enter func252,ntmps252
     go_upto_region 1 with fail
     rw[P.out]
     go_upto_region 3 with fail
     go_region_with (go_at_call 267;refine(zz f y H x v w b ag _ (by exact r.Va (ab.refl [] _).drew) d (by omega)).mono ?_;rintro e V ⟨rfl,i,G,s⟩)
     all_goals
      have t:=A;have Y:=s.1.get (by exact B) (by rintro (e | e);exact n e;exact t.out _ e rfl);have ap:=ae B
      have J:Hid (∀k,f9 i k->k≠T.heap.size):=fun k hk=>by
       rcases s.2 k hk with h' | h'
       ·exact t.out k h'
       ·rintro rfl
        have h2:W.heap.size<=T.heap.size:=h';omega
      have ac:=(show Hid _ from(s.first (ab.refl [] _).drew).first K);clear q8 q9 m C c1 s r B;obtain⟨q0,q1,q2,q3,q4,q5,q6,q7,q8,q9,m,z,C⟩:=G.cells H d;clear q0 q1 q2 q3 q4 q5 q6 q7 z;simp only at q8 q9 m C;have R:V.cell? ⟨T.heap.size,0,none⟩=some (.string l):=by rw[aa Y];rfl
      have M:V.cell? ⟨T.heap.size,1,none⟩=some (.int .i64 L):=by rw[aa Y];rfl
      have S:V.cell? ⟨T.heap.size,2,none⟩=some (.int .i64 D):=by rw[aa Y];rfl
      have ad:=(show Hid (fK { w with typed:=w.typed++[ag] } 100000000) from⟨by have:=c.Vd;simp only;omega,by have:=c.U7;simp only;omega,by have:=c.U8;simp only;omega,by have:=c.Ve;simp only;omega,by simp;omega,by have:=c.blocks;simp only;omega,by have:=c.sts;simp only;omega,by have:=c.rbl;simp only;omega,by have:=c.U5;simp only;omega,by have:=c.proof;simp only;omega⟩)
     all_goals go_upto_region 4 with fail
     all_goals go_region_held3 (fun a=>a.cell? ⟨f,H+8,none⟩=some (.int .i64 w.kind)/\a.cell? ⟨f,H+9,none⟩=some (.string w.label)/\a.cell? ⟨f,H+10,none⟩=some (.slice (i 8).ao w.U5.length (i 8).cap)/\a.cell? ⟨f,H+12,none⟩=some (.slice (i 9).ao w.proof.length (i 9).cap)/\a.cell? ⟨T.heap.size,0,none⟩=some (.string l)/\a.cell? ⟨T.heap.size,1,none⟩=some (.int .i64 L)/\a.cell? ⟨T.heap.size,2,none⟩=some (.int .i64 D)) (go_keep) (first | (go_at_call 268;refine(rJ f y H x v { w with typed:=w.typed++[ag] } i w.kind w.label l L D _ (by exact G.Va (ab.refl [] _).drew) d ad.out).mono ?_;rintro e w9 ⟨rfl,Q,q,p,u⟩;obtain⟨r8,r9,U,N⟩:=zw q d (u 8 (by omega) (by omega)) (u 9 (by omega) (by omega));obtain⟨R,M,S⟩:=zv p (by exact Y) n J.out))
     all_goals go_wp2
     all_goals go_end0
     all_goals exact⟨rfl,Q,by rw[o.out];exact q,aA.trans ac.out (p.first (ab.refl [] _).drew)⟩
   ·have o:Hid (aY w ⟨l,L,D⟩=mX w ⟨l,L,D⟩):=by show aY w ⟨l,L,D⟩=_;unfold aY mN;rw[X,k8,QS I];simp
    cases O:(w.kind==2)
    ·clear I
     go_enter func252,ntmps252
     go_upto_region 1 with fail
     rw[P.out]
     go_upto_region 4 with fail
     have R:W.cell? ⟨T.heap.size,0,none⟩=some (.string l):=by rw[aa B];rfl
     have M:W.cell? ⟨T.heap.size,1,none⟩=some (.int .i64 L):=by rw[aa B];rfl
     have S:W.cell? ⟨T.heap.size,2,none⟩=some (.int .i64 D):=by rw[aa B];rfl
     go_region_held3 (fun a=>a.cell? ⟨f,H+8,none⟩=some (.int .i64 w.kind)/\a.cell? ⟨f,H+9,none⟩=some (.string w.label)/\a.cell? ⟨f,H+10,none⟩=some (.slice (b 8).ao w.U5.length (b 8).cap)/\a.cell? ⟨f,H+12,none⟩=some (.slice (b 9).ao w.proof.length (b 9).cap)/\a.cell? ⟨T.heap.size,0,none⟩=some (.string l)/\a.cell? ⟨T.heap.size,1,none⟩=some (.int .i64 L)/\a.cell? ⟨T.heap.size,2,none⟩=some (.int .i64 D)) (go_keep) (first | (go_at_call 268;refine(rJ f y H x v w b w.kind w.label l L D _ (by exact r.Va (ab.refl [] _).drew) d j.out).mono ?_;rintro e w9 ⟨rfl,Q,q,p,u⟩;obtain⟨r8,r9,U,N⟩:=zw q d (u 8 (by omega) (by omega)) (u 9 (by omega) (by omega));obtain⟨R,M,S⟩:=zv p (by exact B) n A.out))
     all_goals go_wp2
     all_goals go_end0
     all_goals exact⟨rfl,Q,by rw[o.out];exact q,(p.first (ab.refl [] _).drew).first K⟩
    ·have E:¬1<w.U5.length:=fun hh=>I ⟨O,hh⟩
     clear I;go_enter func252,ntmps252
     go_upto_region 1 with fail
     rw[P.out]
     go_upto_region 4 with fail
     have R:W.cell? ⟨T.heap.size,0,none⟩=some (.string l):=by rw[aa B];rfl
     have M:W.cell? ⟨T.heap.size,1,none⟩=some (.int .i64 L):=by rw[aa B];rfl
     have S:W.cell? ⟨T.heap.size,2,none⟩=some (.int .i64 D):=by rw[aa B];rfl
     go_region_held3 (fun a=>a.cell? ⟨f,H+8,none⟩=some (.int .i64 w.kind)/\a.cell? ⟨f,H+9,none⟩=some (.string w.label)/\a.cell? ⟨f,H+10,none⟩=some (.slice (b 8).ao w.U5.length (b 8).cap)/\a.cell? ⟨f,H+12,none⟩=some (.slice (b 9).ao w.proof.length (b 9).cap)/\a.cell? ⟨T.heap.size,0,none⟩=some (.string l)/\a.cell? ⟨T.heap.size,1,none⟩=some (.int .i64 L)/\a.cell? ⟨T.heap.size,2,none⟩=some (.int .i64 D)) (go_keep) (first | (go_at_call 268;refine(rJ f y H x v w b w.kind w.label l L D _ (by exact r.Va (ab.refl [] _).drew) d j.out).mono ?_;rintro e w9 ⟨rfl,Q,q,p,u⟩;obtain⟨r8,r9,U,N⟩:=zw q d (u 8 (by omega) (by omega)) (u 9 (by omega) (by omega));obtain⟨R,M,S⟩:=zv p (by exact B) n A.out))
     all_goals go_wp2
     all_goals go_end0
     all_goals exact⟨rfl,Q,by rw[o.out];exact q,(p.first (ab.refl [] _).drew).first K⟩
  ·have o:Hid (aY w ⟨l,L,D⟩=dO w w.U5.length):=by show aY w ⟨l,L,D⟩=_;unfold aY;rw[X,k8];simp
   go_enter func252,ntmps252
   go_upto_region 1 with fail
   rw[P.out];go_wp2_with fail
   go_region_with (go_at_call 266;refine(tG f y H x v w b _ (by exact r.Va (ab.refl [] _).drew) d hm j.out).mono ?_;rintro e V ⟨rfl,i,G,s⟩)
   all_goals go_wp2
   all_goals go_end0
   all_goals exact⟨rfl,i,by rw[o.out];exact G,(s.first (ab.refl [] _).drew).first K⟩
 ·have o:Hid (aY w ⟨l,L,D⟩={ w with U7:=w.U7++w.U5 }):=by show aY w ⟨l,L,D⟩=_;unfold aY;rw[X];simp
  go_enter func252,ntmps252
  go_upto_region 1 with fail
  rw[P.out];go_wp2_with fail
  go_region_with (go_at_call 265;refine(tF f y H x v w b _ (by exact r.Va (ab.refl [] _).drew) d hm j.out).mono ?_;rintro e V ⟨rfl,i,G,s⟩)
  all_goals go_wp2
  all_goals go_end0
  all_goals exact⟨rfl,i,by rw[o.out];exact G,(s.first (ab.refl [] _).drew).first K⟩
def iY(d:Db)(x:ByteArray):Int:=if aJ d.Ve x=false then 18 else if aJ d.U5 x=true then 19 else 0
def iZ(d:Db)(x:ByteArray):Int:=if aJ d.U7 x=false then 17 else 0
def fC(d:Db)(x:ByteArray):Int:=if 1<d.U5.length then 16 else if aJ d.Ve x=false then 18 else if aJ d.typed x=true then 20 else 0
def fy(d:Db)(x:ByteArray):Int:=if aJ d.U7 x=true then 0 else if aJ d.Ve x=false then 21 else if aJ d.typed x=false then 22 else 0
def aZ(d:Db)(x:ByteArray):Int :=
 if(d.kind==7)=true then(if aJ d.U5 x=true∨dK d x=true then 13 else 0)
 else if(d.kind==8)=true then(if aJ d.U5 x=true∨dX d x=true then 13 else 0)
 else if(d.kind==1)=true then iY d x
 else if d.U5.length=0 then iZ d x
 else if(d.kind==2)=true then fC d x
 else fy d x
theorem si(h:aR T f y x v w b)(c:x.length=H)(a:fK w 1073741824) :
  Calls prog 256 #[.pointer (some ⟨f,H,none⟩),.string l] T fun e o=>e=.returned (.int .i64 (iY w l))/\o=T:=by
 obtain⟨A,s,p,z,t,u,q,C,r,B,n,j,d⟩:=h.cells H c;have m:=a.U5
 cases g:aJ w.Ve l <;> cases i:aJ w.U5 l
 all_goals
  go_enter func256,ntmps256;go_wp2_with (first | (go_at_call 269;refine(kF f y H x v w b l _ (by exact h) c a.Ve).mono ?_;rintro e k ⟨rfl,rfl⟩) | (go_at_call 253;refine(eN (b 8) w.U5 l _ (by exact h.own 8) a.U5).mono ?_;rintro e k ⟨rfl,rfl⟩));go_ret;exact⟨QM (by simp[iY,g,i]),rfl⟩
theorem ss(h:aR T f y x v w b)(a:x.length=H)(c:fK w 1073741824) :
  Calls prog 257 #[.pointer (some ⟨f,H,none⟩),.string l] T fun e m=>e=.returned (.int .i64 (iZ w l))/\m=T:=by
 obtain⟨z,q,n,u,r,t,o,B,p,A,k,i,d⟩:=h.cells H a;have j:=c.U5
 cases g:aJ w.U7 l
 all_goals
  go_enter func257,ntmps257;go_wp2_with (first | (go_at_call 270;refine(mA f y H x v w b l _ (by exact h) a c.U7).mono ?_;rintro e s ⟨rfl,rfl⟩));go_ret;exact⟨QM (by simp[iZ,g]),rfl⟩
theorem so(h:aR T f y x v w b)(a:x.length=H)(c:fK w 1073741824) :
  Calls prog 258 #[.pointer (some ⟨f,H,none⟩),.string l] T fun e p=>e=.returned (.int .i64 (fC w l))/\p=T:=by
 obtain⟨B,t,q,A,u,z,r,D,s,C,o,m,i⟩:=h.cells H a;have n:=c.U5
 by_cases g:1<w.U5.length
 ·go_enter func258,ntmps258
  go_wp2_with (first | (go_at_call 269;refine(kF f y H x v w b l _ (by exact h) a c.Ve).mono ?_;rintro e d ⟨rfl,rfl⟩) | (go_at_call 271;refine(nc f y H x v w b l _ (by exact h) a c.typed).mono ?_;rintro e d ⟨rfl,rfl⟩));go_ret;exact⟨QM (by simp[fC,g]),rfl⟩
 ·cases j:aJ w.Ve l <;> cases k:aJ w.typed l
  all_goals
   go_enter func258,ntmps258;go_wp2_with (first | (go_at_call 269;refine(kF f y H x v w b l _ (by exact h) a c.Ve).mono ?_;rintro e d ⟨rfl,rfl⟩) | (go_at_call 271;refine(nc f y H x v w b l _ (by exact h) a c.typed).mono ?_;rintro e d ⟨rfl,rfl⟩));go_ret;exact⟨QM (by simp[fC,g,j,k]),rfl⟩
theorem qI(h:aR T f y x v w b)(a:x.length=H)(c:fK w 1073741824) :
  Calls prog 259 #[.pointer (some ⟨f,H,none⟩),.string l] T fun e p=>e=.returned (.int .i64 (fy w l))/\p=T:=by
 obtain⟨B,t,q,A,u,z,r,D,s,C,o,m,i⟩:=h.cells H a;have n:=c.U5
 cases g:aJ w.U7 l
 ·cases j:aJ w.Ve l <;> cases k:aJ w.typed l
  all_goals
   go_enter func259,ntmps259;go_wp2_with (first | (go_at_call 270;refine(mA f y H x v w b l _ (by exact h) a c.U7).mono ?_;rintro e d ⟨rfl,rfl⟩) | (go_at_call 269;refine(kF f y H x v w b l _ (by exact h) a c.Ve).mono ?_;rintro e d ⟨rfl,rfl⟩) | (go_at_call 271;refine(nc f y H x v w b l _ (by exact h) a c.typed).mono ?_;rintro e d ⟨rfl,rfl⟩));go_ret;exact⟨QM (by simp[fy,g,j,k]),rfl⟩
 ·go_enter func259,ntmps259
  go_wp2_with (first | (go_at_call 270;refine(mA f y H x v w b l _ (by exact h) a c.U7).mono ?_;rintro e d ⟨rfl,rfl⟩) | (go_at_call 269;refine(kF f y H x v w b l _ (by exact h) a c.Ve).mono ?_;rintro e d ⟨rfl,rfl⟩) | (go_at_call 271;refine(nc f y H x v w b l _ (by exact h) a c.typed).mono ?_;rintro e d ⟨rfl,rfl⟩));go_ret;exact⟨QM (by simp[fy,g]),rfl⟩
theorem pb(h:aR T f y x v w b)(c:x.length=H)(a:fK w 1073741824) :
  Calls prog 236 #[.pointer (some ⟨f,H,none⟩),.string l] T fun e z=>e=.returned (.int .i64 (aZ w l))/\z=T:=by
 obtain⟨I,C,A,G,E,F,B,K,D,J,u,s,r⟩:=h.cells H c;have t:=a.U5
 cases j:(w.kind==7)
 ·cases k:(w.kind==8)
  ·cases m:(w.kind==1)
   ·by_cases d:w.U5.length=0
    ·have g:Hid (aZ w l=iZ w l):=by show aZ w l=_;simp only[aZ,j,k,m,d];simp
     have p:((w.U5.length:Int)==0)=true:=by simp[d]
     clear d;go_enter func236,ntmps236;go_wp2_with (first | (go_at_call 257;refine(ss f y H x v w b l _ (by exact h) c a).mono ?_;rintro e i ⟨rfl,rfl⟩));go_ret;exact⟨QM (by rw[g.out]),rfl⟩
    ·have p:((w.U5.length:Int)==0)=false:=Rg.2 (by omega)
     cases q:(w.kind==2)
     ·have g:Hid (aZ w l=fy w l):=by show aZ w l=_;simp[aZ,j,k,m,q,d]
      clear d;go_enter func236,ntmps236;go_wp2_with (first | (go_at_call 259;refine(qI f y H x v w b l _ (by exact h) c a).mono ?_;rintro e i ⟨rfl,rfl⟩));go_ret;exact⟨QM (by rw[g.out]),rfl⟩
     ·have g:Hid (aZ w l=fC w l):=by show aZ w l=_;simp[aZ,j,k,m,q,d]
      clear d;go_enter func236,ntmps236;go_wp2_with (first | (go_at_call 258;refine(so f y H x v w b l _ (by exact h) c a).mono ?_;rintro e i ⟨rfl,rfl⟩));go_ret;exact⟨QM (by rw[g.out]),rfl⟩
   ·have g:Hid (aZ w l=iY w l):=by show aZ w l=_;simp[aZ,j,k,m]
    go_enter func236,ntmps236;go_wp2_with (first | (go_at_call 256;refine(si f y H x v w b l _ (by exact h) c a).mono ?_;rintro e i ⟨rfl,rfl⟩));go_ret;exact⟨QM (by rw[g.out]),rfl⟩
  ·cases n:aJ w.U5 l <;> cases o:dX w l
   all_goals
    go_enter func236,ntmps236;go_wp2_with (first | (go_at_call 253;refine(eN (b 8) w.U5 l _ (by exact h.own 8) a.U5).mono ?_;rintro e i ⟨rfl,rfl⟩) | (go_at_call 255;refine(z9 f y H x v w b l _ (by exact h) c a).mono ?_;rintro e i ⟨rfl,rfl⟩));go_ret;exact⟨QM (by simp[aZ,j,k,n,o]),rfl⟩
 ·cases n:aJ w.U5 l <;> cases o:dK w l
  all_goals
   go_enter func236,ntmps236;go_wp2_with (first | (go_at_call 253;refine(eN (b 8) w.U5 l _ (by exact h.own 8) a.U5).mono ?_;rintro e i ⟨rfl,rfl⟩) | (go_at_call 254;refine(lP f y H x v w b l _ (by exact h) c a).mono ?_;rintro e i ⟨rfl,rfl⟩));go_ret;exact⟨QM (by simp[aZ,j,n,o]),rfl⟩
theorem fK.mono{M:Nat}(h:fK n a)(b:a<=M):fK n M :=
 ⟨Q1 h.Vd b,Q1 h.U7 b,Q1 h.U8 b,Q1 h.Ve b,Q1 h.typed b,Q1 h.blocks b,Q1 h.sts b,Q1 h.rbl b,Q1 h.U5 b,Q1 h.proof b⟩
theorem aR.kind(h:aR k a M I g n S)(o:Nat)(d:I.length=o)(c:Int) :
  Hid (aR (k.setCell ⟨a,o+8,none⟩ (.int .i64 c)) a M I g { n with kind:=c } S/\aA a k S (k.setCell ⟨a,o+8,none⟩ (.int .i64 c)) S) :=
 h.set (d':={ n with kind:=c }) o 8 d (JG n S c) _ (by omega) rfl
theorem aR.lab(h:aR k a M I g n S)(o:Nat)(d:I.length=o)(c:ByteArray) :
  Hid (aR (k.setCell ⟨a,o+9,none⟩ (.string c)) a M I g { n with label:=c } S/\aA a k S (k.setCell ⟨a,o+9,none⟩ (.string c)) S) :=
 h.set (d':={ n with label:=c }) o 9 d (E6 n S c) _ (by omega) rfl
theorem aR.U9(h:aR k a M I g n S)(o:Nat)(d:I.length=o)(b:Bool) :
  Hid (aR (k.setCell ⟨a,o+11,none⟩ (.bool b)) a M I g { n with U9:=b } S/\aA a k S (k.setCell ⟨a,o+11,none⟩ (.bool b)) S) :=
 h.set (d':={ n with U9:=b }) o 11 d (Aw n S b) _ (by omega) rfl
theorem aR.forget(h:aR k a M I g n S)(o:Nat)(c:I.length=o) :
  aR (k.setCell ⟨a,o+10,none⟩ (.slice none 0 0)) a M I g { n with U5:=[] } (g9 S 8 ⟨none,0⟩)/\aA a k S (k.setCell ⟨a,o+10,none⟩ (.slice none 0 0)) (g9 S 8 ⟨none,0⟩) :=
 h.put (d':={ n with U5:=[] }) o 10 c 8 (by omega) ⟨none,0⟩ ⟨by simp[aU,aB,cN],Q0 ⟨by simp[aU,aB],by simp[aU,aB]⟩⟩ (UC _ _) (Q0 rfl) (tp n S []) _ (by omega) (by simp[b9,g9])
theorem aR.noProof(h:aR k a M I g n S)(o:Nat)(c:I.length=o) :
  aR (k.setCell ⟨a,o+12,none⟩ (.slice none 0 0)) a M I g { n with proof:=[] } (g9 S 9 ⟨none,0⟩)/\aA a k S (k.setCell ⟨a,o+12,none⟩ (.slice none 0 0)) (g9 S 9 ⟨none,0⟩) :=
 h.put (d':={ n with proof:=[] }) o 12 c 9 (by omega) ⟨none,0⟩ ⟨by simp[aU,gN,nC],Q0 ⟨by simp[aU,gN],by simp[aU,gN]⟩⟩ (UC _ _) (Q0 rfl) (wY n S []) _ (by omega) (by simp[b9,g9])
def aH(d:Db)(x:ByteArray):Int×Db :=
 if(x.toList == [36,102])=true then(0,{ d with kind:=2 })
 else if(x.toList == [36,101])=true then(0,{ d with kind:=3 })
 else if(x.toList == [36,97])=true then(0,{ d with kind:=4 })
 else if(x.toList == [36,112])=true then(0,{ d with kind:=5 })
 else(14,d)
def b7(d:Db):Int×Db:=if d.U5.length=0 then(15,d) else(0,{ d with U9:=true })
def bI(d:Db)(x:ByteArray):Int×Db :=
 if dA x=true then(8,d) else if gG x=false then(12,d) else if dK d x=true then(13,d)
 else(0,{ d with Vd:=d.Vd++[x],label:=x,kind:=6 })
def lK(d:Db)(p:Pl):Int×Db :=
 if(d.U5.length:Int)<l4 d then(15,d)
 else if(d.kind==5)=true/\d.U9=false then(23,d)
 else(0,{ aY d p with kind:=0,label:=⟨#[]⟩,U5:=[],U9:=false,proof:=[] })
def cw(d:Db)(q:Nat×Nat):Db :=
 match d.rbl.getLast? with
 | none=>dq d d.blocks.dropLast q
 | some x=>{ dq d d.blocks.dropLast q with rbl:=d.rbl.dropLast,sts:=gy d.sts x }
def av(d:Db)(x:ByteArray):Int×Db :=
 if(x.toList == [36,123])=true then(0,{ d with blocks:=d.blocks++[(d.Ve.length,d.typed.length)],rbl:=d.rbl++[d.sts.length] })
 else if(x.toList == [36,125])=true then(match d.blocks.getLast? with | none=>(9,d) | some p=>(0,cw d p))
 else if(x.toList == [36,99])=true then(if 0<d.blocks.length then(10,d) else(0,{ d with kind:=7 }))
 else if(x.toList == [36,118])=true then(0,{ d with kind:=8 })
 else if(x.toList == [36,100])=true then(0,{ d with kind:=1 })
 else if(x.toList == [36,102])=true∨(x.toList == [36,101])=true∨(x.toList == [36,97])=true∨(x.toList == [36,112])=true then(11,d)
 else bI d x
def aX(d:Db)(x:ByteArray)(p:Pl):Int×Db :=
 if(d.kind==0)=true then av d x
 else if(d.kind==6)=true then aH d x
 else if(x.toList == [36,46])=true then lK d p
 else if(x.toList == [36,61])=true/\(d.kind==5)=true/\d.U9=false then b7 d
 else if dA x=true then(8,d)
 else if d.U9=true then(0,{ d with proof:=d.proof++[(x,p)] })
 else if(aZ d x==0)=true then(0,{ d with U5:=d.U5++[x] })
 else(aZ d x,d)
theorem vf(h:aR T f y x v w b)(m:x.length=H) :
  Calls prog 233 #[.pointer (some ⟨f,H,none⟩),.string l] T fun e o=>e=.returned (.int .i64 (aH w l).1)/\∃n,aR o f y x v (aH w l).2 n/\aA f T b o n:=by
 obtain⟨E,z,t,D,B,C,u,G,A,F,s,q,p⟩:=h.cells H m;have r:=h.free
 cases a:(l.toList == [36,102])
 ·cases d:(l.toList == [36,101])
  ·cases k:(l.toList == [36,97])
   ·cases j:(l.toList == [36,112])
    ·have c:Hid (aH w l=(14,w)):=by show aH w l=_;simp only[aH,a,d,k,j];simp
     go_enter func233,ntmps233;go_wp2;go_ret;exact⟨QM (by rw[c.out]),b,by rw[c.out];exact h,aA.refl _ _ _⟩
    ·have c:Hid (aH w l=(0,{ w with kind:=5 })):=by show aH w l=_;simp only[aH,a,d,k,j];simp
     have i:=h.kind H m 5;go_enter func233,ntmps233;go_wp2;go_ret;exact⟨QM (by rw[c.out]),b,by rw[c.out];exact i.out.1,i.out.2⟩
   ·have c:Hid (aH w l=(0,{ w with kind:=4 })):=by show aH w l=_;simp only[aH,a,d,k];simp
    have i:=h.kind H m 4;go_enter func233,ntmps233;go_wp2;go_ret;exact⟨QM (by rw[c.out]),b,by rw[c.out];exact i.out.1,i.out.2⟩
  ·have c:Hid (aH w l=(0,{ w with kind:=3 })):=by show aH w l=_;simp only[aH,a,d];simp
   have i:=h.kind H m 3;go_enter func233,ntmps233;go_wp2;go_ret;exact⟨QM (by rw[c.out]),b,by rw[c.out];exact i.out.1,i.out.2⟩
 ·have c:Hid (aH w l=(0,{ w with kind:=2 })):=by show aH w l=_;simp only[aH,a];simp
  have i:=h.kind H m 2;go_enter func233,ntmps233;go_wp2;go_ret;exact⟨QM (by rw[c.out]),b,by rw[c.out];exact i.out.1,i.out.2⟩
theorem vK(h:aR T f y x v w b)(g:x.length=H) :
  Calls prog 235 #[.pointer (some ⟨f,H,none⟩)] T fun e k=>e=.returned (.int .i64 (b7 w).1)/\∃j,aR k f y x v (b7 w).2 j/\aA f T b k j:=by
 obtain⟨A,s,p,z,t,u,q,D,r,B,o,m,l⟩:=h.cells H g;have n:=h.free
 by_cases a:w.U5.length=0
 ·have c:Hid (b7 w=(15,w)):=by show b7 w=_;simp only[b7,a];simp
  have d:((w.U5.length:Int)==0)=true:=by simp[a]
  clear a;go_enter func235,ntmps235;go_wp2;go_ret;exact⟨QM (by rw[c.out]),b,by rw[c.out];exact h,aA.refl _ _ _⟩
 ·have c:Hid (b7 w=(0,{ w with U9:=true })):=by show b7 w=_;simp only[b7,a];simp
  have d:((w.U5.length:Int)==0)=false:=Rg.2 (by omega);have i:=h.U9 H g true;clear a;go_enter func235,ntmps235;go_wp2;go_ret;exact⟨QM (by rw[c.out]),b,by rw[c.out];exact i.out.1,i.out.2⟩
theorem xT(h:aR T f y x v w b)(d:x.length=H)(n:fK w 100000000)(g:l.size<=1073741824) :
  Calls prog 250 #[.pointer (some ⟨f,H,none⟩),.string l] T fun e F=>e=.returned (.int .i64 (bI w l).1)/\∃D,aR F f y x v (bI w l).2 D/\aA f T b F D:=by
 obtain⟨I,t,r,G,z,E,s,K,u,J,m,j,i⟩:=h.cells H d;have k:=h.free
 cases o:dA l
 ·cases q:gG l
  ·have a:Hid (bI w l=(12,w)):=by show bI w l=_;simp[bI,o,q]
   go_enter func250,ntmps250;go_wp2_with (first | (go_at_call 231;refine(dV l _ g).mono ?_;rintro e c ⟨rfl,rfl⟩) | (go_at_call 263;refine(na l _ g).mono ?_;rintro e c ⟨rfl,rfl⟩) | (go_at_call 254;refine(lP f y H x v w b l _ (by exact h) d (n.mono (by omega))).mono ?_;rintro e c ⟨rfl,rfl⟩));go_ret;exact⟨QM (by rw[a.out]),b,by rw[a.out];exact h,aA.refl _ _ _⟩
  ·cases B:dK w l
   ·have a:Hid (bI w l=(0,{ w with Vd:=w.Vd++[l],label:=l,kind:=6 })):=by show bI w l=_;simp[bI,o,q,B]
    have N:=n.Vd;go_enter func250,ntmps250;go_wp2_with (first | (go_at_call 231;refine(dV l _ g).mono ?_;rintro e c ⟨rfl,rfl⟩) | (go_at_call 263;refine(na l _ g).mono ?_;rintro e c ⟨rfl,rfl⟩) | (go_at_call 254;refine(lP f y H x v w b l _ (by exact h) d (n.mono (by omega))).mono ?_;rintro e c ⟨rfl,rfl⟩));refine(zy f y H x v w b l _ (by exact h) d (by omega)).mono ?_;rintro e P ⟨rfl,M,p,L⟩;have A:=p.lab H d l;have C:=A.out.1.kind H d 6;clear I t r G z E s K u J m j i k;obtain⟨I,t,r,G,z,E,s,K,u,J,m,j,i⟩:=p.cells H d;have k:=p.free;go_wp2;go_ret;exact⟨QM (by rw[a.out]),M,by rw[a.out];exact C.out.1,L.trans (A.out.2.trans C.out.2)⟩
   ·have a:Hid (bI w l=(13,w)):=by show bI w l=_;simp[bI,o,q,B]
    go_enter func250,ntmps250;go_wp2_with (first | (go_at_call 231;refine(dV l _ g).mono ?_;rintro e c ⟨rfl,rfl⟩) | (go_at_call 263;refine(na l _ g).mono ?_;rintro e c ⟨rfl,rfl⟩) | (go_at_call 254;refine(lP f y H x v w b l _ (by exact h) d (n.mono (by omega))).mono ?_;rintro e c ⟨rfl,rfl⟩));go_ret;exact⟨QM (by rw[a.out]),b,by rw[a.out];exact h,aA.refl _ _ _⟩
 ·have a:Hid (bI w l=(8,w)):=by show bI w l=_;simp[bI,o]
  go_enter func250,ntmps250;go_wp2_with (first | (go_at_call 231;refine(dV l _ g).mono ?_;rintro e c ⟨rfl,rfl⟩) | (go_at_call 263;refine(na l _ g).mono ?_;rintro e c ⟨rfl,rfl⟩) | (go_at_call 254;refine(lP f y H x v w b l _ (by exact h) d (n.mono (by omega))).mono ?_;rintro e c ⟨rfl,rfl⟩));go_ret;exact⟨QM (by rw[a.out]),b,by rw[a.out];exact h,aA.refl _ _ _⟩
theorem Iz:1<=l4 w:=by unfold l4;split <;> omega
theorem Nk(h:aR T f y x v w b)(a:x.length=H)(hs:fK w 10000000) :
  Calls prog 234 #[.pointer (some ⟨f,H,none⟩),.agg #[.string l,.int .i64 L,.int .i64 D]] T fun e U=>e=.returned (.int .i64 (lK w ⟨l,L,D⟩).1)/\∃R,aR U f y x v (lK w ⟨l,L,D⟩).2 R/\aA f T b U R:=by
 obtain⟨W,p⟩:∃W,W=T.alloc (.cells #[.string l,.int .i64 L,.int .i64 D] 36):=⟨_,rfl⟩
 have K:ab [] T W:=by rw[p];exact(ab.refl [] _).alloc _
 have g:=h.Va K;have r:=hI p.symm;have B:W.heap[T.heap.size]?=some (.cells #[.string l,.int .i64 L,.int .i64 D] 36 (0,0)):=by rw[p];exact QR _ _
 have p0:W.cell? ⟨T.heap.size,0,none⟩=some (.string l):=by rw[aa B];rfl
 have p1:W.cell? ⟨T.heap.size,1,none⟩=some (.int .i64 L):=by rw[aa B];rfl
 have X:W.cell? ⟨T.heap.size,2,none⟩=some (.int .i64 D):=by rw[aa B];rfl
 clear p B h;obtain⟨G,u,s,F,z,C,t,I,M,V,o,c,j⟩:=g.cells H a;clear G u s F z C t I V j;have n:=g.free
 by_cases i:(w.U5.length:Int)<l4 w
 ·have d:Hid (lK w ⟨l,L,D⟩=(15,w)):=by show lK w ⟨l,L,D⟩=_;simp only[lK,QV i]
  go_enter func234,ntmps234
  go_upto_region 1 with fail
  rw[r.out]
  go_quiet ((go_at_call 251;exact Rc (tZ f y H x v w b _ (g.Va ((ab.refl [] W).drewN _)) a)))
  go_wp2;go_ret;exact⟨QM (by rw[d.out]),b,by rw[d.out];exact g.Va ((ab.refl [] _).drewN _),(aA.refl _ _ _).Va (K.drewN _)⟩
 ·have E:Hid (0<w.U5.length):=by have:=Iz w;show 0<_;omega
  by_cases m:(w.kind==5)=true/\w.U9=false
  ·have d:Hid (lK w ⟨l,L,D⟩=(23,w)):=by show lK w ⟨l,L,D⟩=_;simp only[lK,QS i,QV m]
   obtain⟨q,Y⟩:=m;rw[Y]at c;go_enter func234,ntmps234
   go_upto_region 1 with fail
   rw[r.out]
   go_quiet ((go_at_call 251;exact Rc (tZ f y H x v w b _ (g.Va ((ab.refl [] W).drewN _)) a)))
   go_wp2;go_ret;exact⟨QM (by rw[d.out]),b,by rw[d.out];exact g.Va ((ab.refl [] _).drewN _),(aA.refl _ _ _).Va (K.drewN _)⟩
  ·have d:Hid (lK w ⟨l,L,D⟩=(0,{ aY w ⟨l,L,D⟩ with kind:=0,label:=⟨#[]⟩,U5:=[],U9:=false,proof:=[] })):=by show lK w ⟨l,L,D⟩=_;simp only[lK,QS i,QS m]
   have k:(w.kind==5)=true->w.U9=true:=by
    intro q
    cases hq:w.U9 with
    | true=>rfl
    | false=>exact absurd ⟨q,hq⟩ m
   cases q:(w.kind==5)
   all_goals
    try rw[k q]at c
    clear k;clear m;go_enter func234,ntmps234
    go_upto_region 1 with fail
    rw[r.out]
    go_quiet ((go_at_call 251;exact Rc (tZ f y H x v w b _ (g.Va ((ab.refl [] W).drewN _)) a)))
    go_wp2_with fail;refine(Br f y H x v w b l L D _ (by exact g.Va ((ab.refl [] _).drewN _)) a E.out hs).mono ?_;rintro e w2 ⟨rfl,H2,A,Z⟩;have S:=A.kind H a 0;have J:=S.out.1.lab H a ⟨#[]⟩;have N:=hI (J.out.1.forget H a);have P:=N.out.1.U9 H a false;have O:=hI (P.out.1.noProof H a);clear M o c n p0 p1 X;obtain⟨G,u,s,F,z,C,t,I,M,V,o,c,j⟩:=A.cells H a;clear G u s F z C t I;have n:=A.free;go_wp2;go_ret;exact⟨QM (by rw[d.out]),_,by rw[d.out];exact O.out.1,(Z.first (K.drewN _)).trans (S.out.2.trans (J.out.2.trans (N.out.2.trans (P.out.2.trans O.out.2))))⟩
theorem rC{l:List α}{p:α}(h:l.getLast?=some p):l=l.dropLast++[p]:=by
 obtain⟨a,rfl⟩:=List.getLast?_eq_some_iff.1 h;simp
structure AV(d:Db)(N:Nat):Prop where
 names:∀p,p∈d.blocks->p.1<=N/\p.2<=N
 same:d.rbl.length=d.blocks.length
 recs:∀x,x∈d.rbl->x<=d.sts.length
theorem xS(h:aR T f y x v w b)(r:x.length=H)(E:fK w 10000000)(hx:l.size<=1073741824)(J:AV w 100000000) :
  Calls prog 232 #[.pointer (some ⟨f,H,none⟩),.string l] T fun e U=>e=.returned (.int .i64 (av w l).1)/\∃S,aR U f y x v (av w l).2 S/\aA f T b U S:=by
 have j:=E.mono (M:=100000000) (by omega);obtain⟨q0,q1,q2,q3,q4,q5,q6,q7,q8,q9,ad,Y,W⟩:=h.cells H r;have Z:=h.free
 cases a:(l.toList == [36,123])
 ·cases c:(l.toList == [36,125])
  ·cases m:(l.toList == [36,99])
   ·cases i:(l.toList == [36,118])
    ·cases k:(l.toList == [36,100])
     ·cases n:(l.toList == [36,102])
      ·cases q:(l.toList == [36,101])
       ·cases z:(l.toList == [36,97])
        ·cases u:(l.toList == [36,112])
         ·have d:Hid (av w l=bI w l):=by show av w l=_;simp only[av,a,c,m,i,k,n,q,z,u];simp
          go_enter func232,ntmps232;go_wp2_with fail;refine(xT f y H x v w b l _ (by exact h) r j hx).mono ?_;rintro e V ⟨rfl,Q,F,D⟩;go_wp2;go_ret;exact⟨QM (by rw[d.out]),Q,by rw[d.out];exact F,D⟩
         ·have d:Hid (av w l=(11,w)):=by show av w l=_;simp only[av,a,c,m,i,k,n,q,z,u];simp
          go_enter func232,ntmps232;go_wp2;go_ret;exact⟨QM (by rw[d.out]),b,by rw[d.out];exact h,aA.refl _ _ _⟩
        ·have d:Hid (av w l=(11,w)):=by show av w l=_;simp only[av,a,c,m,i,k,n,q,z];simp
         go_enter func232,ntmps232;go_wp2;go_ret;exact⟨QM (by rw[d.out]),b,by rw[d.out];exact h,aA.refl _ _ _⟩
       ·have d:Hid (av w l=(11,w)):=by show av w l=_;simp only[av,a,c,m,i,k,n,q];simp
        go_enter func232,ntmps232;go_wp2;go_ret;exact⟨QM (by rw[d.out]),b,by rw[d.out];exact h,aA.refl _ _ _⟩
      ·have d:Hid (av w l=(11,w)):=by show av w l=_;simp only[av,a,c,m,i,k,n];simp
       go_enter func232,ntmps232;go_wp2;go_ret;exact⟨QM (by rw[d.out]),b,by rw[d.out];exact h,aA.refl _ _ _⟩
     ·have d:Hid (av w l=(0,{ w with kind:=1 })):=by show av w l=_;simp only[av,a,c,m,i,k];simp
      have t:=h.kind H r 1;go_enter func232,ntmps232;go_wp2;go_ret;exact⟨QM (by rw[d.out]),b,by rw[d.out];exact t.out.1,t.out.2⟩
    ·have d:Hid (av w l=(0,{ w with kind:=8 })):=by show av w l=_;simp only[av,a,c,m,i];simp
     have t:=h.kind H r 8;go_enter func232,ntmps232;go_wp2;go_ret;exact⟨QM (by rw[d.out]),b,by rw[d.out];exact t.out.1,t.out.2⟩
   ·by_cases g:0<w.blocks.length
    ·have d:Hid (av w l=(10,w)):=by show av w l=_;simp only[av,a,c,m,g];simp
     have A:decide (0<w.blocks.length)=true:=by simpa using g
     clear g;go_enter func232,ntmps232;go_wp2_with (go_at_call 207;refine(lO f y H x v w b _ (by exact h) r).mono ?_;rintro e K ⟨rfl,rfl⟩);go_ret;exact⟨QM (by rw[d.out]),b,by rw[d.out];exact h,aA.refl _ _ _⟩
    ·have d:Hid (av w l=(0,{ w with kind:=7 })):=by show av w l=_;simp only[av,a,c,m,g];simp
     have A:decide (0<w.blocks.length)=false:=by simpa using g
     have t:=h.kind H r 7;clear g;go_enter func232,ntmps232;go_wp2_with (go_at_call 207;refine(lO f y H x v w b _ (by exact h) r).mono ?_;rintro e K ⟨rfl,rfl⟩);go_ret;exact⟨QM (by rw[d.out]),b,by rw[d.out];exact t.out.1,t.out.2⟩
  ·rcases hbb:w.blocks.getLast? with _ | p
   ·have g:w.blocks=[]:=by simpa using hbb
    have d:Hid (av w l=(9,w)):=by show av w l=_;simp only[av,a,c,hbb];simp
    have A:decide (0<w.blocks.length)=false:=by rw[g];rfl
    clear hbb g;go_enter func232,ntmps232;go_wp2_with (go_at_call 207;refine(lO f y H x v w b _ (by exact h) r).mono ?_;rintro e K ⟨rfl,rfl⟩);go_ret;exact⟨QM (by rw[d.out]),b,by rw[d.out];exact h,aA.refl _ _ _⟩
   ·have g:w.blocks=w.blocks.dropLast++[p]:=rC hbb
    have d:Hid (av w l=(0,cw w p)):=by show av w l=_;simp only[av,a,c,hbb];simp
    have A:decide (0<w.blocks.length)=true:=by rw[g];simp
    have HB:Hid (w.blocks=w.blocks.dropLast++[p]):=g;have hp:=J.names p (by rw[g];simp);have G:w.rbl≠[]:=by intro e;have:=J.same;rw[e,g]at this;simp at this
    obtain⟨C,I⟩:∃C,w.rbl.getLast?=some C:=⟨_,SZ G⟩
    have R:Hid (w.rbl=w.rbl.dropLast++[C]):=rC I;have L:=J.recs C (by rw[R.out];simp);have HE:Hid (cw w p={ dq w w.blocks.dropLast p with rbl:=w.rbl.dropLast,sts:=gy w.sts C }):=by show cw w p=_;unfold cw;rw[I]
    have B:Hid (fK (dq w w.blocks.dropLast p) 100000000):=⟨j.Vd,j.U7,j.U8,by have:=j.Ve;simp only[dq,RO];omega,by have:=j.typed;simp only[dq,RO];omega,by have:=j.blocks;simp only[dq,SE];omega,j.sts,j.rbl,j.U5,j.proof⟩;clear hbb g G I;go_enter func232,ntmps232;go_wp2_with (go_at_call 207;refine(lO f y H x v w b _ (by exact h) r).mono ?_;rintro e K ⟨rfl,rfl⟩);refine(zL f y H x v w b w.blocks.dropLast p _ (by exact h) r HB.out (j.mono (by omega)) ⟨by omega,by omega⟩).mono ?_;rintro e V ⟨rfl,F,D⟩;go_wp2_with fail;refine(E1 f y H x v (dq w w.blocks.dropLast p) b w.rbl.dropLast C _ (by exact F) r R.out B.out L).mono ?_;rintro e w3 ⟨rfl,O,N⟩;go_wp2;go_ret;exact⟨QM (by rw[d.out]),b,by rw[d.out,HE.out];exact O,D.trans N⟩
 ·have d:Hid (av w l=(0,{ w with blocks:=w.blocks++[(w.Ve.length,w.typed.length)],rbl:=w.rbl++[w.sts.length] })):=by show av w l=_;simp only[av,a];simp
  have ac:=j.blocks;have B:Hid (fK { w with blocks:=w.blocks++[(w.Ve.length,w.typed.length)] } 100000000):=⟨j.Vd,j.U7,j.U8,j.Ve,j.typed,by have:=E.blocks;simp;omega,j.sts,j.rbl,j.U5,j.proof⟩;go_enter func232,ntmps232;go_wp2_with fail;refine(vJ f y H x v w b _ (by exact h) r (by omega)).mono ?_;rintro e V ⟨rfl,Q,F,D⟩;go_wp2_with fail;refine(Av f y H x v { w with blocks:=w.blocks++[(w.Ve.length,w.typed.length)] } Q _ (by exact F) r B.out).mono ?_;rintro e w3 ⟨rfl,X,O,N⟩;go_wp2;go_ret;exact⟨QM (by rw[d.out]),X,by rw[d.out];exact O,D.trans N⟩
end Go.Proofs.YtpddjjabfbfifaaGreat
