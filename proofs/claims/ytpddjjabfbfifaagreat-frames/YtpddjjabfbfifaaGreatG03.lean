import Derived.BigQuiet
import Derived.Deep.RegionHeld3
import Derived.Test.YtpddjjabfbfifaaGreatG02
namespace Go.Proofs.YtpddjjabfbfifaaGreat
open Go.RowKit Tryz
set_option maxRecDepth 100000
set_option maxHeartbeats 40000000
variable{k z6:World}{y8:Hd}{a M z3:Nat}{I N:List Value}{n:Db}{S y9:Nat->Hd}(f:Nat)(o:List St)(y:Nat)(yd:World)(z7:Hd)(z5:List ByteArray)(H:Nat)(x v:List Value)(w:Db)(ya:St)(b:Nat->Hd)(l:ByteArray)(L D:Int)(g:List (Nat×Nat))(zt:Nat×Nat)(z0:List Nat)(i:Nat)(T:World)(z4:Nat->Hd)(zb:List (ByteArray×Pl))(d:Nat)
theorem oJ(l:List (Nat×Nat)):(pairs l).length=l.length*2:=by
 induction l with
 | nil=>rfl
 | cons a r b=>simp only[pairs,List.flatMap_cons,List.length_append,List.length_cons,List.length_nil]at *;omega
theorem wJ:(pairs (g++[zt]))[g.length*2]?=some (.int .i64 zt.1)/\(pairs (g++[zt]))[g.length*2+1]?=some (.int .i64 zt.2):=by
 rw[rH];have:=oJ g
 constructor
 ·rw[Q5 (by omega),this];simp
 ·rw[Q5 (by omega),this];simp
theorem aw.pop{l:List (Nat×Nat)}{x:Nat×Nat}(o:aw k y8 (nZ (l++[x]))):aw k y8 (nZ l):=by
 rcases o.Vm with ⟨r,q,_⟩ | ⟨g,a,j,n,h,f,i,m⟩
 ·have d:(l++[x]).length=0:=q
  simp at d
 ·obtain⟨s,b⟩:=y8
  simp only at j h f i;subst j;have c:(l++[x]).length<=b:=h;simp at c;refine⟨by simp only[nZ];exact oJ l,QV ⟨g,b,a,rfl,Ro _,n,?_,f,i,?_⟩⟩
  ·simp only[nZ];omega
  ·have e:a.toList.take ((l++[x]).length*2)=pairs (l++[x]):=m
   simp only[nZ];have p:pairs l=(pairs (l++[x])).take (l.length*2):=by rw[rH,List.take_left' (oJ l)]
   rw[p,<-e,UC]
   congr 1
   simp
def dq(d:Db)(bl:List (Nat×Nat))(x:Nat×Nat):Db:={ d with blocks:=bl,Vf:=d.Vf.take x.1,Vi:=d.Vi.take x.2 }
theorem MG:(z5.take d).length=if d<=z5.length then d else z5.length:=by
 rw[RQ];split <;> omega
theorem aw.taken{l:List ByteArray}(o:aw k y8 (aB l))(c:Nat):aw k y8 (aB (l.take c)):=by
 by_cases a:c<=l.length
 ·exact o.cut c a
 ·rw[Tu (by omega)];exact o
theorem wf(a:Hid ((z5.take H).length=i))(c:aw T z7 (aB z5))(b:H<=1073741824) :
  Calls prog 262 #[.slice z7.ao z5.length z7.cap,.int .i64 H] T fun e d=>e=.returned (.slice z7.ao i z7.cap)/\d=T:=by
 have e:i=if H<=z5.length then H else z5.length:=by rw[<-a.out,MG]
 rw[e];exact Ig z7 z5 H T c b
theorem qk{d':Db}(h:aR k a M I N n S)(m:I.length=z3)(f:i<10)(e:aw k (S i) (aU d' S i))(b:∀j,j≠i->aU d' S j=aU n S j)(u:Value)(l:d<13)(c:(b9 n S).set d u=b9 d' (g9 S i (S i))) :
  aR (k.setCell ⟨a,z3+d,none⟩ u) a M I N d' S/\aA a k S (k.setCell ⟨a,z3+d,none⟩ u) S:=by
 have g:=MP S i;have:=h.put (d':=d') z3 d m i f (S i) e (UD _ _) (QV (Q1 rfl)) b u l c;rw[g]at this;exact this
theorem zN(h:aR T f y x v w b)(z:x.length=H)(G:w.blocks=g++[zt])(hs:fK w 1073741824)(hx:zt.1<=1073741824/\zt.2<=1073741824) :
  Calls prog 248 #[.pointer (some ⟨f,H,none⟩)] T fun e w'=>e=.returned (.tuple #[])/\aR w' f y x v (dq w g zt) b/\aA f T b w' b:=by
 obtain⟨N,Q,L,R,K,t,P,M,O,S,q,p,r⟩:=h.cells H z;obtain⟨c,i⟩:=zt;simp only at hx;have o:=h.free;have al:=h.lt;have D:=h.own 5;have d:aw T (b 5) (nZ (g++[(c,i)])):=by have:=D;simp only[aU,G]at this;exact this
 have s:=hs.blocks;rw[G]at s t;simp only[List.length_append,List.length_cons,List.length_nil]at s t
 rcases d.Vm with ⟨e0,h0,_⟩ | ⟨U,ai,V,e2,e3,W,e5,e6⟩
 ·have Y:(g++[(c,i)]).length=0:=h0
  simp at Y
 ·have p1:=d.cell V (g.length*2) _ (wJ g (c,i)).1
  have p2:=d.cell V (g.length*2+1) _ (wJ g (c,i)).2;have ag:g.length+1<=(b 5).cap:=by have:(g++[(c,i)]).length<=(b 5).cap:=e3;simpa using this
  have ad:(b 5).cap<=9223372036854775807:=by unfold maxLen at W;exact W
  have hg:=ae e2;have X:=qk 5 5 (d':={ w with blocks:=g }) h z (by omega) d.pop (uQ w b g) (.slice (some ⟨U,0,none⟩) g.length (b 5).cap) (by omega) (by simp[b9,g9,V]);obtain⟨l,n⟩:∃l,l=(T.setCell ⟨f,H+5,none⟩ (.slice (some ⟨U,0,none⟩) g.length (b 5).cap)).alloc (.cells #[.int .i64 c,.int .i64 i] 337):=⟨_,rfl⟩
  have u:aR l f y x v { w with blocks:=g } b:=by rw[n];exact X.1.Vb ((ab.refl [] _).alloc _)
  have T2:aA f T b l b:=by rw[n];exact X.2.Vb ((ab.refl [] _).alloc _)
  have C:l.heap[T.heap.size]?=some (.cells #[.int .i64 c,.int .i64 i] 337 (0,0)):=by
   rw[n];have:=QS (T.setCell ⟨f,H+5,none⟩ (.slice (some ⟨U,0,none⟩) g.length (b 5).cap)) (.cells #[.int .i64 c,.int .i64 i] 337);simpa [World.setCell] using this
  have HW:Hid ((T.setCell ⟨f,H+5,none⟩ (.slice (some ⟨U,0,none⟩) g.length (b 5).cap)).alloc (.cells #[.int .i64 c,.int .i64 i] 337)=l):=n.symm;have an:=hs.Vf;have ap:=hs.Vi;rw[V]at t;simp only at p1 p2;clear D d e3 W e5 e6 e2 h X n;go_enter func248,ntmps248
  go_upto_region 4 with fail
  rw[HW.out];have c0:l.cell? ⟨T.heap.size,0,none⟩=some (.int .i64 c):=by rw[aa C];rfl
  have c1:l.cell? ⟨T.heap.size,1,none⟩=some (.int .i64 i):=by rw[aa C];rfl
  have af:T.heap.size≠f:=by omega
  have ac:=ae C;clear HW N Q L R K t P M O S q p r p1 p2 o hg;obtain⟨N,Q,L,R,K,t,P,M,O,S,q,p,r⟩:=u.cells H z;have o:=u.free;obtain⟨A,I⟩:∃m,Hid ((w.Vf.take c).length=m):=⟨_,rfl⟩
  obtain⟨m2,E⟩:∃m,Hid ((w.Vi.take i).length=m):=⟨_,rfl⟩
  have Z:=qk 3 3 (d':={ w with blocks:=g,Vf:=w.Vf.take c }) u z (by omega) ((u.own 3).taken c) (uP { w with blocks:=g } b (w.Vf.take c)) (.slice (b 3).ao A (b 3).cap) (by omega) (by simp only[b9,dh,<-I.out];rfl);obtain⟨j,k⟩:∃j,j=(l.setCell ⟨f,H+3,none⟩ (.slice (b 3).ao A (b 3).cap)).drew:=⟨_,rfl⟩
  have B:Hid (aR j f y x v { w with blocks:=g,Vf:=w.Vf.take c } b):=by rw[k];exact Z.1.Vb (ab.refl [] _).drew
  have T3:Hid (aA f T b j b):=by rw[k];exact T2.trans (Z.2.Vb (ab.refl [] _).drew)
  have B3:Hid (j.heap[T.heap.size]?=some (.cells #[.int .i64 c,.int .i64 i] 337 (0,0))):=by
   show j.heap[T.heap.size]?=_
   rw[k];exact(Q4 l ⟨f,H+3,none⟩ (.slice (b 3).ao A (b 3).cap) T.heap.size af).trans C
  have F:Hid ((l.setCell ⟨f,H+3,none⟩ (.slice (b 3).ao A (b 3).cap)).drew=j):=k.symm;clear k Z
  go_region_with (go_at_call 262;refine(wf (b 3) w.Vf c A _ I (by exact u.own 3) hx.1).mono ?_;rintro e j ⟨rfl,rfl⟩)
  all_goals go_upto_region 5 with fail
  all_goals rw[F.out]
  all_goals
   clear F N Q L R K t P M O S q p r o u T2 C c0 c1 ac;have c0:j.cell? ⟨T.heap.size,0,none⟩=some (.int .i64 c):=by rw[aa B3.out];rfl
   have c1:j.cell? ⟨T.heap.size,1,none⟩=some (.int .i64 i):=by rw[aa B3.out];rfl
   obtain⟨N,Q,L,R,K,t,P,M,O,S,q,p,r⟩:=B.out.cells H z;have o:=B.out.free;have P4:=qk 4 4 (d':=dq w g (c,i)) B.out z (by omega) ((B.out.own 4).taken i) (xa { w with blocks:=g,Vf:=w.Vf.take c } b (w.Vi.take i)) (.slice (b 4).ao m2 (b 4).cap) (by omega) (by simp only[b9,dq,dh,<-E.out];rfl);have J:=hI P4;clear P4
   go_region_with (go_at_call 262;refine(wf (b 4) w.Vi i m2 _ E (by exact B.out.own 4) hx.2).mono ?_;rintro e j ⟨rfl,rfl⟩)
   all_goals go_wp2
   all_goals go_end0
   all_goals exact⟨rfl,J.out.1.Vb (ab.refl [] _).drew,T3.out.trans (J.out.2.Vb (ab.refl [] _).drew)⟩
theorem BI{α:Type}(f:α->List Value)(n:Nat)(c:∀a,(f a).length=n)(l:List α):(l.flatMap f).length=l.length*n:=by
 induction l with
 | nil=>simp
 | cons a l b=>simp only[List.flatMap_cons,List.length_append,c,b,List.length_cons];rw[Uc];omega
theorem BH{α:Type}(f:α->List Value)(n:Nat)(b:∀a,(f a).length=n)(l:List α)(i j:Nat)(c:i<l.length)(g:j<n):(l.flatMap f)[i*n+j]?=(f l[i])[j]?:=by
 induction l generalizing i with
 | nil=>simp at c
 | cons a l d =>
  rw[RI]
  cases i with
  | zero=>rw[Q7 (by rw[b];omega)];simp
  | succ i =>
   have e:(i+1)*n+j=n+(i*n+j):=by rw[Uc];omega
   rw[Q5 (by rw[b,e];omega),b,e,show n+(i*n+j)-n=i*n+j by omega];exact d i (by simpa using c)
theorem Lh{α:Type}(f:α->List Value)(n:Nat)(b:∀a,(f a).length=n)(l:List α)(i j:Nat)(d:i<l.length)(k:j<n)(c:α)(v:Value)(g:f c=(f l[i]).set j v) :
  (l.flatMap f).set (i*n+j) v=(l.set i c).flatMap f:=by
 induction l generalizing i with
 | nil=>simp at d
 | cons a l h =>
  cases i with
  | zero =>
   rw[Tv,RI,RI,TM _ _ (by rw[b];omega),g];simp
  | succ i =>
   have e:(i+1)*n+j=n+(i*n+j):=by rw[Uc];omega
   rw[SB,RI,RI,SS _ _ (by rw[b,e];omega),b,e,show n+(i*n+j)-n=i*n+j by omega];rw[h i (by simpa using d) (by simpa using g)]
theorem My:(mo o z4).length=o.length*8:=by
 unfold mo;rw[BI _ 8 (fun _=>rfl)];simp
theorem FK:(nD zb).length=zb.length*4:=BI _ 4 (fun _=>rfl) zb
theorem GP(b:d<o.length)(j:Nat)(a:j<8):(mo o z4)[d*8+j]?=(JO o[d] (z4 (10+2*d)) (z4 (11+2*d)))[j]?:=by
 unfold mo;rw[BH _ 8 (fun _=>rfl) _ d j (by simpa using b) a];simp
theorem Ke(b:d<zb.length)(j:Nat)(a:j<4):(nD zb)[d*4+j]?=(qZ zb[d])[j]?:=BH _ 4 (fun _=>rfl) zb d j b a
theorem JZ:mo (o++[ya]) z4=mo o z4++JO ya (z4 (10+2*o.length)) (z4 (11+2*o.length)):=by
 unfold mo;rw[List.zipIdx_append];simp
theorem FN:(o.set H ya).zipIdx=o.zipIdx.set H (ya,H):=by
 apply Sq
 intro j;simp only[List.getElem?_zipIdx,List.getElem?_set,List.length_zipIdx]
 by_cases e:H=j
 ·subst e
  by_cases a:H<o.length <;> simp[a]
 ·simp[e]
theorem Mz(b:d<o.length)(N:Nat):(mo o z4).set (d*8+7) (.int .i64 N)=mo (o.set d { o[d] with til:=N }) z4:=by
 unfold mo;rw[FN];exact Lh _ 8 (fun _=>rfl) _ d 7 (by simpa using b) (by omega) _ _ (by simp[JO])
theorem C9:(cN z5).length=z5.length*1:=by simp[cN]
theorem yT:jX (z0++[d])=jX z0++[.int .i64 d]:=by simp[jX]
theorem mv:(⟨(bB z0).e,(bB z0).size,(bB z0).n+1,(bB z0).xs++[.int .i64 d]⟩:dN)=bB (z0++[d]):=by simp[bB,yT]
theorem yH:(prog.info? 3).map (fun i=>(i.zero,i.size,i.bytes))=some (some (.int .i64 0),1,8):=by kernel_rfl
def qP(k:Int):Bool:=k==4||k==5
theorem dc(f g c k d i h:Value)(w:World) :
  Calls prog 160 #[.agg #[.int .i64 D,f,g,c,k,d,i,h]] w fun e j=>e=.returned (.bool (qP D))/\ab [] w j:=by
 cases b:(D==4)
 ·have a:Hid (qP D=(D==5)):=by show qP D=_;simp only[qP,b,Bool.false_or]
  go_enter func160,ntmps160;go_wp2;go_ret;exact⟨aD (by rw[a.out]),(ab.refl _ _).alloc _⟩
 ·have a:Hid (qP D=true):=by show qP D=_;simp only[qP,b,Bool.true_or]
  go_enter func160,ntmps160;go_wp2;go_ret;exact⟨aD (by rw[a.out]),(ab.refl _ _).alloc _⟩
theorem Ax(h:aR T f y x v w b)(B:x.length=H)(P:fK w 100000000) :
  Calls prog 247 #[.pointer (some ⟨f,H+6,none⟩)] T fun e t=>e=.returned (.tuple #[])/\∃C,aR t f y x v { w with rbl:=w.rbl++[w.Vn.length] } C/\aA f T b t C:=by
 obtain⟨Y,R,r,k,l⟩:=Re yH;obtain⟨I,O,E,S,D,J,q6,Z,K,W,p,m,q⟩:=h.cells H B;clear I O E S D J K W p m q;have F:=h.free;have G:=h.lt;have N:=P.rbl;have A:Hid (aR (T.alloc (.cells #[.int .i64 w.Vn.length] 3)).drew f y x v w b):=h.Vb ((ab.refl [] T).alloc _).drew
 have L:Hid (∀j u,([.int .i64 w.Vn.length]:List Value)[j]?=some u->(T.alloc (.cells #[.int .i64 w.Vn.length] 3)).drew.cell? ((⟨T.heap.size,0,none⟩:Addr).add j)=some u):=by
  intro j u X;have U:(T.alloc (.cells #[.int .i64 w.Vn.length] 3)).drew.heap[T.heap.size]?=some (.cells #[.int .i64 w.Vn.length] 3 (0,0)):=QS _ _;rw[bL,aa U];simpa using X
 have M:Hid (∀u∈([.int .i64 w.Vn.length]:List Value),u.oneCell'=true):=by intro u s;simp at s;subst s;rfl
 have Q:Hid ((bB w.rbl).n+1<=maxLen):=by show _<=_;simp only[bB];unfold maxLen;omega
 have V:Hid (((bB w.rbl).n+1)*8<=140737488355328):=by show _<=_;simp only[bB];omega
 clear h;go_enter func247,ntmps247;go_wp2_with fail
 go_region_law (refine cd rfl (.tmp 6) (.tmp 12) 26 rfl Y (.int .i64 0) 8 (b 7) (bB w.rbl) underlying26 R r k l rfl Rc (by simp[Act.eval] <;> rfl) (A.out.own 7) ⟨T.heap.size,0,none⟩ 1 1 [.int .i64 w.Vn.length] (by simp[Act.eval]) rfl L.out M.out Rc Q.out V.out ?_;intro g d w1 i c a;obtain⟨k5,f5,z⟩:=A.out.app (d':={ w with rbl:=w.rbl++[w.Vn.length] }) H 7 B 7 (by omega) g d ((bB w.rbl).n+1) _ i (mv w.rbl _) c (by simpa using a) (CV w b _) (by omega) _ rfl (by simp[b9,g9,bB]);clear i c a)
 all_goals go_wp2
 all_goals go_end0
 all_goals exact⟨rfl,_,z.out.1,z.out.2.first ((ab.refl [] T).alloc _).drew⟩
def lM(N:Nat)(s:St):St:=if s.til=0/\qP s.kind=false then { s with til:=N } else s
def fD(l:List St)(b n:Nat):List St:=l.mapIdx (fun i s=>if b<=i/\i<n then lM l.length s else s)
def gy(l:List St)(b:Nat):List St:=fD l b l.length
theorem jg:(fD o i d).length=o.length:=by simp[fD]
theorem mt:(fD o H i)[d]?=o[d]?.map (fun s=>if H<=d/\d<i then lM o.length s else s):=by simp[fD]
theorem Bx:fD o d d=o:=by
 apply Sq
 intro i;rw[mt];have:¬(d<=i/\i<d):=by omega
 simp[this]
theorem vZ(f:i<=d)(c:d<o.length):fD o i (d+1)=(fD o i d).set d (lM o.length o[d]):=by
 apply Sq
 intro a;rw[RU,mt,mt,jg]
 by_cases e:d=a
 ·subst e
  have b:i<=d/\d<d+1:=⟨f,by omega⟩;simp[c,b]
 ·have:(i<=a/\a<d+1) ↔ (i<=a/\a<d):=by omega
  simp[e,this]
theorem DY(b:i<=d)(a:d<o.length)(h:lM o.length o[d]=o[d]):fD o i (d+1)=fD o i d:=by
 rw[vZ o i d b a,h]
 apply Sq
 intro c;rw[RU,jg]
 by_cases e:d=c
 ·subst e
  rw[mt];simp[a]
 ·simp[e]
theorem Lb(a:d<o.length):(fD o i d)[d]?=some o[d]:=by
 rw[mt];simp[a]
theorem xm(b:d<o.length)(N:Nat)(i:Nat):symsAt (o.set d { o[d] with til:=N }) i=symsAt o i/\ti (o.set d { o[d] with til:=N }) i=ti o i:=by
 unfold symsAt ti;rw[RU]
 by_cases e:d=i
 ·subst e;simp[b]
 ·simp[e]
theorem aR.til(h:aR k a M I N n S)(g:Nat)(t:(S 6).ao=some ⟨g,0,none⟩)(b:Nat)(s:b<n.Vn.length)(c:Nat) :
  aR (k.setCell ⟨g,b*8+7,none⟩ (.int .i64 c)) a M I N { n with Vn:=n.Vn.set b { n.Vn[b] with til:=c } } S/\aA a k S (k.setCell ⟨g,b*8+7,none⟩ (.int .i64 c)) S:=by
 have d:(S 6).blk=some g:=by unfold Hd.blk;rw[t];rfl
 have q:g≠a:=by rintro rfl;exact h.off 6 d
 refine⟨⟨?_,?_,h.apart,h.off⟩,(eK.refl _ _).setCell (Q1 (QV ⟨6,d⟩)) _,fun _ l=>Q1 l⟩
 ·rw[Q4 _ _ _ _ (fun e=>q e.symm),h.blk]
  simp[b9]
 ·intro i
  by_cases e:i=6
  ·subst e
   have B:aw k (S 6) (iE n.Vn S):=h.own 6
   show aw _ (S 6) (iE (n.Vn.set b { n.Vn[b] with til:=c }) S)
   rcases B.Vm with ⟨F,D,_⟩ | ⟨u,j,f,z,x,v,y,w⟩
   ·have:n.Vn.length=0:=D
    omega
   ·have:u=g:=by rw[t]at f;injection f with f;injection f with f;exact f.symm
    subst this;refine⟨by simp only[iE];rw[My],QV ⟨u,(S 6).cap,j.setIfInBounds (b*8+7) (.int .i64 c),?_,Ro _,ah z _ _,?_,v,?_,?_⟩⟩
    ·simp[iE,t]
    ·simpa [iE] using x
    ·simpa [iE] using y
    ·have r:j.toList.take (n.Vn.length*8)=mo n.Vn S:=w
     simp only[iE,List.length_set,Array.toList_setIfInBounds,List.take_set,r];exact Mz n.Vn S b s c
  ·have C:aU { n with Vn:=n.Vn.set b { n.Vn[b] with til:=c } } S i=aU n S i:=by
    match i,e with
    | 0,_=>rfl
    | 1,_=>rfl
    | 2,_=>rfl
    | 3,_=>rfl
    | 4,_=>rfl
    | 5,_=>rfl
    | 6,e=>exact absurd rfl e
    | 7,_=>rfl
    | 8,_=>rfl
    | 9,_=>rfl
    | m+10,_=>simp only[aU,inner,(xm n.Vn b s c (m / 2)).1,(xm n.Vn b s c (m / 2)).2]
   rw[C];refine(h.own i).Vg (fun E l=>Q4 _ _ _ _ ?_);rintro rfl
   rcases h.apart i 6 e with p | p
   ·rw[p]at l;cases l
   ·exact p (l.trans d.symm)
theorem aR.stmt(h:aR k a M I N n S)(g:Nat)(d:(S 6).ao=some ⟨g,0,none⟩)(b:Nat)(s:St)(m:n.Vn[b]?=some s) :
  k.cell? ⟨g,b*8,none⟩=some (.int .i64 s.kind)/\k.cell? ⟨g,b*8+1,none⟩=some (.string s.label)/\k.cell? ⟨g,b*8+2,none⟩=some (.slice (S (10+2*b)).ao s.U6.length (S (10+2*b)).cap) /\
  k.cell? ⟨g,b*8+3,none⟩=some (.slice (S (11+2*b)).ao s.Vh.length (S (11+2*b)).cap)/\k.cell? ⟨g,b*8+4,none⟩=some (.string s.fin.file)/\k.cell? ⟨g,b*8+5,none⟩=some (.int .i64 s.fin.line) /\
  k.cell? ⟨g,b*8+6,none⟩=some (.int .i64 s.fin.col)/\k.cell? ⟨g,b*8+7,none⟩=some (.int .i64 s.til):=by
 obtain⟨f,rfl⟩:=Q8.1 m;have i:aw k (S 6) (iE n.Vn S):=h.own 6;have c:=fun j (l:j<8) v (e:(JO n.Vn[b] (S (10+2*b)) (S (11+2*b)))[j]?=some v)=>i.cell d (b*8+j) v ((GP n.Vn S b f j l).trans e)
 exact⟨c 0 (by omega) _ rfl,c 1 (by omega) _ rfl,c 2 (by omega) _ rfl,c 3 (by omega) _ rfl,c 4 (by omega) _ rfl,c 5 (by omega) _ rfl,c 6 (by omega) _ rfl,c 7 (by omega) _ rfl⟩
theorem Cx:(jX z0).length=z0.length*1:=by simp[jX]
theorem aw.popN{l:List Nat}(o:aw k y8 (bB (l++[a]))):aw k y8 (bB l):=by
 rcases o.Vm with ⟨s,r,_⟩ | ⟨g,b,m,p,i,h,j,n⟩
 ·have e:(l++[a]).length=0:=r
  simp at e
 ·obtain⟨t,c⟩:=y8
  simp only at m i h j;subst m;have d:(l++[a]).length<=c:=i;simp at d;refine⟨by simp only[bB];exact Cx l,QV ⟨g,c,b,rfl,Ro _,p,?_,h,j,?_⟩⟩
  ·simp only[bB];omega
  ·have f:b.toList.take ((l++[a]).length*1)=jX (l++[a]):=n
   simp only[bB];have q:jX l=(jX (l++[a])).take (l.length*1):=by rw[yT,List.take_left' (Cx l)]
   rw[q,<-f,UC]
   congr 1
   simp
theorem E3(h:aR T f y x v w b)(ho:x.length=H)(Q:w.rbl=z0++[i])(hs:fK w 100000000)(hx:i<=w.Vn.length) :
  Calls prog 249 #[.pointer (some ⟨f,H+6,none⟩)] T fun e w'=>e=.returned (.tuple #[])/\aR w' f y x v { w with rbl:=z0,Vn:=gy w.Vn i } b/\aA f T b w' b:=by
 obtain⟨L,W,J,X,I,S,E,t,U,R,j,c,l⟩:=h.cells H ho;clear L W J X I S U R j c l;have u:=h.free;have az:=h.lt;have n:aw T (b 7) (bB (z0++[i])):=by have:=h.own 7;simp only[aU,Q]at this;exact this
 have r:=hs.rbl;have ag:=hs.Vn;rw[Q]at r t;simp only[List.length_append,List.length_cons,List.length_nil]at r t
 rcases n.Vm with ⟨e0,h0,_⟩ | ⟨g,aS,e1,e2,e3,e4,e5,A⟩
 ·have af:(z0++[i]).length=0:=h0
  simp at af
 ·have p1:=n.cell e1 z0.length (.int .i64 i) (by simp[bB,jX])
  have ar:z0.length+1<=(b 7).cap:=by have:(z0++[i]).length<=(b 7).cap:=e3;simpa using this
  have al:(b 7).cap<=9223372036854775807:=by unfold maxLen at e4;exact e4
  have P1:=qk 7 7 (d':={ w with rbl:=z0 }) h ho (by omega) n.popN (CV w b z0) (.slice (some ⟨g,0,none⟩) z0.length (b 7).cap) (by omega) (by simp[b9,g9,e1]);rw[e1]at t;have HP:=hI P1;clear n e3 e4 e5 A e2 h P1;go_enter func249,ntmps249;go_wp2
  go_loopg [4] (w.Vn.length-i) (fun g aT wr=>∃k:Nat,i<=k/\k<=w.Vn.length/\g=w.Vn.length-k/\aT=.int .i64 k/\aR wr f y x v { w with rbl:=z0,Vn:=fD w.Vn i k } b/\aA f T b wr b)
  case atStart=>exact⟨i,by omega,hx,rfl,rfl,by rw[Bx];exact HP.out.1,HP.out.2⟩
  case round =>
   obtain⟨k,d,ax,hg,rfl,D,ac⟩:=hrel;clear HP E t p1 u;obtain⟨L,W,J,X,I,S,E,t,U,R,j,c,l⟩:=D.cells H ho;clear L W J X I S t U R j c l;have u:=D.free;simp only[jg]at E
   by_cases q:k<w.Vn.length
   ·have p:=Lb w.Vn i k q
    have K:aw wr (b 6) (iE (fD w.Vn i k) b):=D.own 6
    rcases K.Vm with ⟨_,h0,_⟩ | ⟨Y,ap,A,o,G,-⟩
    ·have:(fD w.Vn i k).length=0:=h0
     rw[jg]at this;omega
    ·obtain⟨c0,c1,c2,c3,c4,c5,c6,c7⟩:=D.stmt Y A k _ p
     rw[A]at E;have z:=am o
     have HS:Hid (∀N:Nat,aR wr f y x v { w with rbl:=z0,Vn:=fD w.Vn i k } b->∀C,ab [] wr C->aR (C.setCell ⟨Y,k*8+7,none⟩ (.int .i64 N)) f y x v { w with rbl:=z0,Vn:=(fD w.Vn i k).set k { w.Vn[k] with til:=N } } b/\aA f T b (C.setCell ⟨Y,k*8+7,none⟩ (.int .i64 N)) b):=by
      intro N D C d;have O:=D.Vb d;have hn:k<(fD w.Vn i k).length:=by rw[jg];exact q
      have P:=O.til Y A k hn N;have es:(fD w.Vn i k)[k]=w.Vn[k]:=by have:=p;rw[QP hn]at this;simpa using this
      simp only[es]at P;exact⟨P.1,(ac.Vb d).trans P.2⟩
     have M:Hid (lM w.Vn.length w.Vn[k]=w.Vn[k]->fD w.Vn i (k+1)=fD w.Vn i k):=DY w.Vn i k d q;have Z:Hid (fD w.Vn i (k+1)=(fD w.Vn i k).set k (lM w.Vn.length w.Vn[k])):=vZ w.Vn i k d q;have a0:=ae o;have an:=o;have F:=hI p;have ad:w.Vn.length<=(b 6).cap:=by have:(fD w.Vn i k).length<=(b 6).cap:=G;rw[jg]at this;exact this
     clear p K o G;generalize w.Vn[k]=s at *
     cases hz:((s.til:Int)==0)
     ·have V:Hid (fD w.Vn i (k+1)=fD w.Vn i k):=M.out (by
       have:¬s.til=0:=by intro e;simp[e]at hz
       simp[lM,this])
      clear HS M Z z;go_wp2
      go_roundg (w.Vn.length-(k+1))
      case measure=>omega
      case rel=>exact⟨k+1,by omega,by omega,rfl,by go_num,by rw[V.out];exact D,ac⟩
     ·have B:s.til=0:=by have:=TR hz;omega
      cases ha:qP s.kind
      ·have V:Hid (fD w.Vn i (k+1)=(fD w.Vn i k).set k { s with til:=w.Vn.length }):=by
        show _=_;rw[Z.out];simp[lM,B,ha]
       clear M Z B;go_wp2_with (go_at_call 160;refine(dc s.kind _ _ _ _ _ _ _ _).mono ?_;rintro e C ⟨rfl,a⟩;have ao:=a.get an (by simp));have O:=D.Vb a;have PS:=hI (fun N=>HS.out N D _ a);obtain⟨L,W,J,X,I,S,E,t,U,R,j,c,l⟩:=O.cells H ho;clear L W J X I S t U R j c l;simp only[jg,A]at E;obtain⟨c0,c1,c2,c3,c4,c5,c6,c7⟩:=O.stmt Y A k _ F.out;clear c0 c1 c2 c3 c4 c5 c6;have z:=am ao;have u:=O.free
       go_region
       all_goals go_wp2
       all_goals
        go_roundg (w.Vn.length-(k+1))
        case measure=>omega
        case rel=>exact⟨k+1,by omega,by omega,rfl,by go_num,by rw[V.out];exact(PS.out _).1.Vb (ab.refl [] _).drew,(PS.out _).2.Vb (ab.refl [] _).drew⟩
      ·have V:Hid (fD w.Vn i (k+1)=fD w.Vn i k):=M.out (by simp[lM,ha])
       clear HS M Z z B;go_wp2_with (go_at_call 160;refine(dc s.kind _ _ _ _ _ _ _ _).mono ?_;rintro e C ⟨rfl,a⟩)
       go_roundg (w.Vn.length-(k+1))
       case measure=>omega
       case rel=>exact⟨k+1,by omega,by omega,rfl,by go_num,by rw[V.out];exact D.Vb a,ac.Vb a⟩
   ·have e:k=w.Vn.length:=by omega
    subst e;go_wp2;go_end0;exact⟨rfl,D,ac⟩
theorem Qb:(prog.info? 158).map (fun i=>(i.zero,i.size,i.bytes))=some (some (.agg #[.int .i64 0,.string ⟨#[]⟩,.slice none 0 0,.slice none 0 0,.string ⟨#[]⟩,.int .i64 0,.int .i64 0,.int .i64 0]),8,112):=by kernel_rfl
theorem OC:(prog.info? 229).map (fun i=>(i.zero,i.size,i.bytes))=some (some (.agg #[.string ⟨#[]⟩,.string ⟨#[]⟩,.int .i64 0,.int .i64 0]),4,48):=by kernel_rfl
theorem uR(h:∀j,j<10+2*o.length->z4 j=b j):mo o z4=mo o b:=by
 unfold mo;rw[Uo,Uo]
 congr 1
 apply Ux
 intro p a
 have:p.2<o.length:=by
  have:=List.snd_lt_add_of_mem_zipIdx a;omega
 rw[h _ (by omega),h _ (by omega)]
theorem Ml(o:aw yd z7 (aB z5)):aw yd z7 (aB []):=by
 have:=o.taken 0;simpa using this
theorem Mn(o:aw yd z7 (gN zb)):aw yd z7 (gN []):=by
 rcases o.Vm with ⟨f,k,_⟩ | ⟨g,b,c,h,i,e,d,j⟩
 ·subst f
  exact⟨by simp[gN,nD],Q1 ⟨by simp[gN],by simp[gN]⟩⟩
 ·obtain⟨l,a⟩:=z7
  simp only at c i e d;subst c;exact⟨by simp[gN,nD],QV ⟨g,a,b,rfl,Ro _,h,by simp[gN],e,d,by simp[gN,nD]⟩⟩
theorem aR.addst{w1:World}(Y:aR k a M I N n S)(z:ab [] k z6)(ho:I.length=z3)(s:St)(y x:Hd)(G H:Nat)(W:y.blk=some G)(Q:x.blk=some H)(ac:k.heap.size<=G)(O:k.heap.size<=H)(C:G≠H)(os:aw z6 y (aB s.U6))(op:aw z6 x (gN s.Vh))(g d:Nat)(X:aw w1 ⟨some ⟨g,0,none⟩,d⟩ ⟨(iE n.Vn S).e,(iE n.Vn S).size,(iE n.Vn S).n+1,(iE n.Vn S).xs++JO s y x⟩)(A:z6.grownBy w1 (S 6).blk)(t:(S 6).blk=some g∨z6.heap.size<=g) :
  w1.cell? ⟨a,z3+6,none⟩=some (.slice (S 6).ao n.Vn.length (S 6).cap)/\w1.frozen? ⟨a,z3+6,none⟩=false /\
  Hid (∃Z,aR (w1.setCell ⟨a,z3+6,none⟩ (.slice (some ⟨g,0,none⟩) ((iE n.Vn S).n+1) d)) a M I N { n with Vn:=n.Vn++[s] } Z /\
   aA a k S (w1.setCell ⟨a,z3+6,none⟩ (.slice (some ⟨g,0,none⟩) ((iE n.Vn S).n+1) d)) Z/\∀j,j<10->j≠6->Z j=S j):=by
 have h:=Y.Vb z;have J:=(A.block a h.lt (fun e=>h.off 6 e.symm)).trans h.blk;refine⟨(aa J (z3+6)).trans (Am I (b9 n S) N z3 6 ho (by simp[b9])),am J _,?_⟩;have T:=fun {w} (J:f9 S w)=>Y.inlt J
 have ad:=Y.lt;obtain⟨l,v⟩:∃l,l=g9 (g9 S (10+2*n.Vn.length) y) (11+2*n.Vn.length) x:=⟨_,rfl⟩
 have o:∀j,j≠10+2*n.Vn.length->j≠11+2*n.Vn.length->l j=S j:=fun j b c=>by rw[v,bU _ _ _ _ c,bU _ _ _ _ b]
 have F:l (10+2*n.Vn.length)=y:=by rw[v,bU _ _ _ _ (by omega),dh]
 have E:l (11+2*n.Vn.length)=x:=by rw[v,dh]
 have e4:mo n.Vn l=mo n.Vn S:=uR _ _ _ (fun j p=>o j (by omega) (by omega));clear v
 have el:b9 n l=b9 n S:=by
  unfold b9;rw[o 0 (by omega) (by omega),o 1 (by omega) (by omega),o 2 (by omega) (by omega),o 3 (by omega) (by omega),o 4 (by omega) (by omega),o 5 (by omega) (by omega),o 6 (by omega) (by omega),o 7 (by omega) (by omega),o 8 (by omega) (by omega),o 9 (by omega) (by omega)]
 have er:∀j,aU n l j=aU n S j:=by
  intro j;unfold aU
  split <;> first | rfl | (simp only[iE,e4])
 have K:∀j,(l j).blk=(S j).blk∨((l j).blk=some G/\j=10+2*n.Vn.length)∨((l j).blk=some H/\j=11+2*n.Vn.length):=by
  intro j
  by_cases b:j=10+2*n.Vn.length
  ·subst b;rw[F];exact QV (Q1 ⟨W,rfl⟩)
  ·by_cases c:j=11+2*n.Vn.length
   ·subst c;rw[E];exact QV (QV ⟨Q,rfl⟩)
   ·rw[o j b c];exact Q1 rfl
 have D1:aR z6 a M I N n l:=by
  refine⟨by rw[el];exact h.blk,?_,?_,?_⟩
  ·intro j
   rw[er j]
   by_cases b:j=10+2*n.Vn.length
   ·subst b
    rw[F]
    have:aU n S (10+2*n.Vn.length)=aB []:=by
     rw[show 10+2*n.Vn.length=2*n.Vn.length+10 by omega];simp[aU,inner,symsAt]
    rw[this];exact Ml z6 y _ os
   ·by_cases c:j=11+2*n.Vn.length
    ·subst c
     rw[E]
     have:aU n S (11+2*n.Vn.length)=gN []:=by
      rw[show 11+2*n.Vn.length=(2*n.Vn.length+1)+10 by omega];have q:(2*n.Vn.length+1) % 2=1:=by omega
      have L:(2*n.Vn.length+1) / 2=n.Vn.length:=by omega
      simp[aU,inner,ti,q,L]
     rw[this];exact Mn z6 x _ op
    ·rw[o j b c];exact h.own j
  ·intro i j V
   have f:∀i w,(S i).blk=some w->w<k.heap.size:=fun i w e=>T ⟨i,e⟩
   rcases K i with b | ⟨b,ai⟩ | ⟨b,ai⟩ <;> rcases K j with c | ⟨c,cj⟩ | ⟨c,cj⟩ <;> rw[b,c]
   ·exact h.apart i j V
   ·cases e:(S i).blk with
    | none=>exact Q1 rfl
    | some w=>right;intro r;cases r;have:=f i _ e;omega
   ·cases e:(S i).blk with
    | none=>exact Q1 rfl
    | some w=>right;intro r;cases r;have:=f i _ e;omega
   ·right;intro r;have:=f j _ r.symm;omega
   ·omega
   ·right;intro r;cases r;exact C rfl
   ·right;intro r;have:=f j _ r.symm;omega
   ·right;intro r;cases r;exact C rfl
   ·omega
  ·intro j
   rcases K j with b | ⟨b,_⟩ | ⟨b,_⟩ <;> rw[b]
   ·exact h.off j
   ·intro e;cases e;omega
   ·intro e;cases e;omega
 have T1:aA a k S z6 l:=by
  refine⟨z.toP (by simp),?_⟩;rintro w ⟨j,p⟩
  rcases K j with b | ⟨b,_⟩ | ⟨b,_⟩ <;> rw[b]at p
  ·exact Q1 ⟨j,p⟩
  ·cases p;exact QV ac
  ·cases p;exact QV O
 have h6:l 6=S 6:=o 6 (by omega) (by omega)
 have R:aU { n with Vn:=n.Vn++[s] } l 6=⟨(iE n.Vn S).e,(iE n.Vn S).size,(iE n.Vn S).n+1,(iE n.Vn S).xs++JO s y x⟩:=by
  simp only[aU,iE,JZ,F,E,e4,List.length_append,List.length_cons,List.length_nil]
 have P:=D1.putG (d':={ n with Vn:=n.Vn++[s] }) z3 6 ho 6 (by omega) ⟨some ⟨g,0,none⟩,d⟩ (by rw[R];exact X) (by rw[h6];exact A)
  (by
    rcases t with e | e
    ·exact QV (Q1 (by rw[h6];exact e.symm))
    ·exact QV (QV ⟨g,rfl,e⟩))
  (by
   intro j p
   by_cases b:j=10+2*n.Vn.length
   ·subst b
    rw[F]
    have:aU { n with Vn:=n.Vn++[s] } l (10+2*n.Vn.length)=aB s.U6:=by
     rw[show 10+2*n.Vn.length=2*n.Vn.length+10 by omega];simp[aU,inner,symsAt]
    rw[this];exact os
   ·by_cases c:j=11+2*n.Vn.length
    ·subst c
     rw[E]
     have:aU { n with Vn:=n.Vn++[s] } l (11+2*n.Vn.length)=gN s.Vh:=by
      rw[show 11+2*n.Vn.length=(2*n.Vn.length+1)+10 by omega];have q:(2*n.Vn.length+1) % 2=1:=by omega
      have L:(2*n.Vn.length+1) / 2=n.Vn.length:=by omega
      simp[aU,inner,ti,q,L]
     rw[this];exact op
    ·have:aU { n with Vn:=n.Vn++[s] } l j=aU n l j:=by
      match j,p,b,c with
      | 0,_,_,_=>rfl
      | 1,_,_,_=>rfl
      | 2,_,_,_=>rfl
      | 3,_,_,_=>rfl
      | 4,_,_,_=>rfl
      | 5,_,_,_=>rfl
      | 6,p,_,_=>exact absurd rfl p
      | 7,_,_,_=>rfl
      | 8,_,_,_=>rfl
      | 9,_,_,_=>rfl
      | m+10,_,b,c =>
       have hm:m / 2≠n.Vn.length:=by omega
       have e:(n.Vn++[s])[m / 2]?=n.Vn[m / 2]?:=by
        rcases UR (m / 2) n.Vn.length with D | D
        ·exact Q7 D
        ·rw[Q5 D,Rx D,Rx (by simp;omega)]
       simp only[aU,inner,symsAt,ti,e]
     rw[this];exact D1.own j)
  (.slice (some ⟨g,0,none⟩) ((iE n.Vn S).n+1) d) (by omega) (by
   rw[el];have u:∀j,j<10->j≠6->g9 l 6 (⟨some ⟨g,0,none⟩,d⟩:Hd) j=S j:=fun j p U=>by rw[bU _ _ _ _ U];exact o j (by omega) (by omega)
   unfold b9;rw[u 0 (by omega) (by omega),u 1 (by omega) (by omega),u 2 (by omega) (by omega),u 3 (by omega) (by omega),u 4 (by omega) (by omega),u 5 (by omega) (by omega),u 7 (by omega) (by omega),u 8 (by omega) (by omega),u 9 (by omega) (by omega),dh];simp[iE])
 exact⟨_,P.1,T1.trans P.2,fun j p U=>by rw[bU _ _ _ _ U];exact o j (by omega) (by omega)⟩
theorem FL:∀u∈nD zb,u.oneCell'=true:=by
 intro u a;simp only[nD,List.mem_flatMap]at a;obtain⟨p,_,a⟩:=a;simp only[qZ,List.mem_cons,List.not_mem_nil,or_false]at a
 rcases a with rfl | rfl | rfl | rfl <;> rfl
theorem Oc(a b:Hd):∀u∈JO ya a b,u.oneCell'=true:=by
 intro u c;simp only[JO,List.mem_cons,List.not_mem_nil,or_false]at c
 rcases c with rfl | rfl | rfl | rfl | rfl | rfl | rfl | rfl <;> rfl
theorem rK(m E:ByteArray)(l c:Int)(a:World)(h:aR a f y x v w b)(ho:x.length=H)(hs:fK w 100000000) :
  Calls prog 268 #[.pointer (some ⟨f,H+6,none⟩),.agg #[.int .i64 D,.string m,.slice (b 8).ao w.U6.length (b 8).cap,.slice (b 9).ao w.Vh.length (b 9).cap,.string E,.int .i64 l,.int .i64 c,.int .i64 0]] a fun e w' =>
   e=.returned (.tuple #[])/\∃H',aR w' f y x v { w with Vn:=w.Vn++[⟨D,m,w.U6,w.Vh,⟨E,l,c⟩,0⟩] } H'/\aA f a b w' H'/\∀j,j<10->j≠6->H' j=b j:=by
 obtain⟨i0,hi,a3,al,a2⟩:=Re js;obtain⟨i1,Z,a1,ap,ba⟩:=Re OC;obtain⟨i2,aS,aT,a0,az⟩:=Re Qb;have bg:=hs.U6;have bj:=hs.Vh;have bf:=hs.Vn;have m1:=fun a=>dB (P:=prog) a 61 9 i0 _ underlying61 hi a3 w.U6.length 1 al (by rw[a2];omega) (by omega)
 have m2:=fun a=>dB (P:=prog) a 156 229 i1 _ underlying156 Z a1 w.Vh.length 4 ap (by rw[ba];omega) (by omega)
 obtain⟨B,A⟩:∃mc,mc=madeCells (Value.string ⟨#[]⟩).cells (w.U6.length*1):=⟨_,rfl⟩
 obtain⟨K,t⟩:∃mc,mc=madeCells (Value.agg #[.string ⟨#[]⟩,.string ⟨#[]⟩,.int .i64 0,.int .i64 0]).cells (w.Vh.length*4):=⟨_,rfl⟩
 have z1:B.size=w.U6.length*1:=by rw[A,Su]
 have z2:K.size=w.Vh.length*4:=by rw[t,Su]
 rw[<-A]at m1;rw[<-t]at m2;clear A t;obtain⟨bx,o⟩:∃bx:Array Value,bx=#[.int .i64 D,.string m,.slice (b 8).ao w.U6.length (b 8).cap,.slice (b 9).ao w.Vh.length (b 9).cap,.string E,.int .i64 l,.int .i64 c,.int .i64 0]:=⟨_,rfl⟩
 obtain⟨O,q⟩:∃O,O=(a.alloc (.cells #[.int .i64 D,.string m,.slice (b 8).ao w.U6.length (b 8).cap,.slice (b 9).ao w.Vh.length (b 9).cap,.string E,.int .i64 l,.int .i64 c,.int .i64 0] 158)).alloc (.cells B 9):=⟨_,rfl⟩
 have K2:ab [] a O:=by rw[q];exact((ab.refl [] _).alloc _).alloc _
 have D2:=h.Vb K2;have Z2:O.heap.size=a.heap.size+2:=by rw[q];simp
 have B2:O.heap[a.heap.size]?=some (.cells bx 158 (0,0)):=by
  rw[q,o];exact((ab.refl [] _).alloc _).get (QS _ _) (by simp)
 have G2:O.heap[a.heap.size+1]?=some (.cells B 9 (0,0)):=by
  rw[q];have:=QS (a.alloc (.cells #[.int .i64 D,.string m,.slice (b 8).ao w.U6.length (b 8).cap,.slice (b 9).ao w.Vh.length (b 9).cap,.string E,.int .i64 l,.int .i64 c,.int .i64 0] 158)) (.cells B 9);simpa using this
 have ac:=hI q.symm;have bd:=h.lt;have ag:Hid ((prog.info? (aB w.U6).e).map (·.size)=some (aB w.U6).size):=by show _=_;simp[aB,hi,al]
 have ax:Hid ((prog.info? (gN w.Vh).e).map (·.size)=some (gN w.Vh).size):=by show _=_;simp[gN,Z,ap]
 clear q;go_enter func268,ntmps268
 go_upto_region 2 with fail
 rw[ac.out];have b2:O.cell? ⟨a.heap.size,2,none⟩=some (.slice (b 8).ao w.U6.length (b 8).cap):=by rw[aa B2,o];rfl
 clear ac m1;obtain⟨w3,an,R,S,F⟩:=tP (P:=prog) O 61 61 3 (a.heap.size+1) w.U6.length (b 8) (aB w.U6) B 9 underlying61 ag.out G2 (D2.own 8) z1 (lY _);simp only[aB]at an R;have K3:ab [] a w3:=((K2.mono (S':=[a.heap.size+1]) (by simp)).trans S).mono (by simp);have B3:=S.get B2 (by simp);rw[Z2]at F;have b3:w3.cell? ⟨a.heap.size,3,none⟩=some (.slice (b 9).ao w.Vh.length (b 9).cap):=by rw[aa B3,o];rfl
 clear G2 B2 D2 S K2;obtain⟨Q,s⟩:∃Q,Q=w3.alloc (.cells K 229):=⟨_,rfl⟩
 have K4:ab [] a Q:=by rw[s];exact K3.alloc _
 have U:ab [] w3 Q:=by rw[s];exact(ab.refl [] _).alloc _
 have D4:=h.Vb K4;have B4:=U.get B3 (by simp);have S4:=U.get R (by simp);have G4:Q.heap[a.heap.size+2]?=some (.cells K 229 (0,0)):=by rw[s,<-F];exact QS _ _
 have ad:=hI s.symm;have Z4:Q.heap.size=a.heap.size+3:=by rw[s];simp[F]
 clear s U
 go_upto_region 4 with fail
 clear an b2;rw[ad.out];have b4:Q.cell? ⟨a.heap.size,3,none⟩=some (.slice (b 9).ao w.Vh.length (b 9).cap):=by rw[aa B4,o];rfl
 clear ad m2 b3;obtain⟨W,ar,T,I,a6⟩:=tP (P:=prog) Q 156 156 3 (a.heap.size+2) w.Vh.length (b 9) (gN w.Vh) K 229 underlying156 ax.out G4 (D4.own 9) z2 (FL _);simp only[gN]at ar T;have K5:ab [] a W:=((K4.mono (S':=[a.heap.size+2]) (by simp)).trans I).mono (by simp);have X:=I.get B4 (by simp);have S5:=I.get S4 (by simp);rw[Z4]at a6;clear G4 B4 D4 I K4 S4;have a5:W.cell? ⟨a.heap.size,2,none⟩=some (.slice (b 8).ao w.U6.length (b 8).cap):=by rw[aa X,o];rfl
 have a4:W.cell? ⟨a.heap.size,3,none⟩=some (.slice (b 9).ao w.Vh.length (b 9).cap):=by rw[aa X,o];rfl
 have a7:W.cell? ⟨a.heap.size,7,none⟩=some (.int .i64 0):=by rw[aa X,o];rfl
 have fx:=am X;obtain⟨C,z⟩:∃C,C=((W.setCell ⟨a.heap.size,2,none⟩ (.slice (some ⟨a.heap.size+1,0,none⟩) w.U6.length w.U6.length)).setCell ⟨a.heap.size,3,none⟩ (.slice (some ⟨a.heap.size+2,0,none⟩) w.Vh.length w.Vh.length)).setCell ⟨a.heap.size,7,none⟩ (.int .i64 0):=⟨_,rfl⟩
 have ai:=hI z.symm;have K8:ab [] a C:=by rw[z];exact((K5.setCell (QV (QR _)) _).setCell (QV (QR _)) _).setCell (QV (QR _)) _
 have V:ab [a.heap.size] W C:=by rw[z];exact(((ab.refl _ _).setCell (Q1 (by simp)) _).setCell (Q1 (by simp)) _).setCell (Q1 (by simp)) _
 have B8:C.heap[a.heap.size]?=some (.cells (JO ⟨D,m,w.U6,w.Vh,⟨E,l,c⟩,0⟩ ⟨some ⟨a.heap.size+1,0,none⟩,w.U6.length⟩ ⟨some ⟨a.heap.size+2,0,none⟩,w.Vh.length⟩).toArray 158 (0,0)):=by
  rw[z,ah (ah (ah X _ _) _ _),o];rfl
 have S8:=V.get S5 (by simp);have P8:=V.get T (by simp);clear z V S5 T X
 go_upto_region 8 with fail
 rw[ai.out];clear ai ar a5 a4 a7 fx b4 K5 o R F B3 K3;have M:=fun j v (hv:(JO ⟨D,m,w.U6,w.Vh,⟨E,l,c⟩,0⟩ ⟨some ⟨a.heap.size+1,0,none⟩,w.U6.length⟩ ⟨some ⟨a.heap.size+2,0,none⟩,w.Vh.length⟩)[j]?=some v)=>(aa B8 j).trans (by simpa using hv)
 have y0:=M 0 _ rfl;have y1:=M 1 _ rfl;have y2:=M 2 _ rfl;have y3:=M 3 _ rfl;have y4:=M 4 _ rfl;have y5:=M 5 _ rfl;have y6:=M 6 _ rfl;have y7:=M 7 _ rfl;simp only at y0 y1 y2 y3 y4 y5 y6 y7;clear M;have D8:=h.Vb K8;have q6:=D8.cellAt H ho 6 (by omega);simp only[b9,List.getElem?_cons_succ,List.getElem?_cons_zero]at q6;have bc:=D8.free;have be:=D8.lt;obtain⟨d,k⟩:∃d:List Value,d=JO ⟨D,m,w.U6,w.Vh,⟨E,l,c⟩,0⟩ ⟨some ⟨a.heap.size+1,0,none⟩,w.U6.length⟩ ⟨some ⟨a.heap.size+2,0,none⟩,w.Vh.length⟩:=⟨_,rfl⟩
 obtain⟨G,J⟩:∃G,G=(C.alloc (.cells #[.int .i64 D,.string m,.slice (some ⟨a.heap.size+1,0,none⟩) w.U6.length w.U6.length,.slice (some ⟨a.heap.size+2,0,none⟩) w.Vh.length w.Vh.length,.string E,.int .i64 l,.int .i64 c,.int .i64 0] 158)).drew:=⟨_,rfl⟩
 have K9:ab [] C G:=by rw[J];exact((ab.refl [] _).alloc _).drew
 have G9:G.heap[C.heap.size]?=some (.cells d.toArray 158 (0,0)):=by rw[J,k];exact QS _ _
 have O1:aw G ⟨some ⟨a.heap.size+1,0,none⟩,w.U6.length⟩ (aB w.U6):=aw.made (r:=aB w.U6) (K9.get S8 (by simp)) (C9 _) (by simp only[aB];unfold maxLen;omega);have O2:aw G ⟨some ⟨a.heap.size+2,0,none⟩,w.Vh.length⟩ (gN w.Vh):=aw.made (r:=gN w.Vh) (K9.get P8 (by simp)) (FK _) (by simp only[gN];unfold maxLen;omega);have D9:Hid (aR G f y x v w b):=D8.Vb K9
 have s2:Hid (∀j u,d[j]?=some u->G.cell? ((⟨C.heap.size,0,none⟩:Addr).add j)=some u):=by
  intro j u hj;rw[bL,aa G9];simpa using hj
 have s3:Hid (∀u∈d,u.oneCell'=true):=by rw[k];exact Oc _ _ _
 have s4:Hid ((iE w.Vn b).n+1<=maxLen):=by show _<=_;simp only[iE];unfold maxLen;omega
 have s5:Hid (((iE w.Vn b).n+1)*112<=140737488355328):=by show _<=_;simp only[iE];omega
 have AF:=fun(g p:Nat) (w1:World) (L:aw w1 ⟨some ⟨g,0,none⟩,p⟩ ⟨(iE w.Vn b).e,(iE w.Vn b).size,(iE w.Vn b).n+1,(iE w.Vn b).xs++d⟩) N i=>h.addst (K8.trans K9) ho ⟨D,m,w.U6,w.Vh,⟨E,l,c⟩,0⟩ ⟨some ⟨a.heap.size+1,0,none⟩,w.U6.length⟩ ⟨some ⟨a.heap.size+2,0,none⟩,w.Vh.length⟩ (a.heap.size+1) (a.heap.size+2) rfl rfl (by omega) (by omega) (by omega) O1 O2 g p (w1:=w1) (by rw[<-k];exact L) N i
 have af:=hI AF;have Y:Hid (d.length=1*(iE w.Vn b).size):=by show _=_;rw[k];rfl
 rw[J]at D9 s2 af;clear AF O1 O2 G9 K9 J G k P8 S8 B8
 go_region_law (refine cd rfl (.tmp 31) (.tmp 33) 74 rfl i2 (.agg #[.int .i64 0,.string ⟨#[]⟩,.slice none 0 0,.slice none 0 0,.string ⟨#[]⟩,.int .i64 0,.int .i64 0,.int .i64 0]) 112 (b 6) (iE w.Vn b) underlying74 aS aT a0 az rfl (Uz 7) (by simp[Act.eval] <;> rfl) (D9.out.own 6) ⟨C.heap.size,0,none⟩ 1 1 d (by simp[Act.eval]) Y.out s2.out s3.out Rc s4.out s5.out ?_;intro g p w1 L N i;obtain⟨k5,f5,HP⟩:=af.out g p w1 L N (by simpa using i);clear L N i)
 all_goals go_wp2
 all_goals go_end0
 all_goals
  obtain⟨H',P1,P2,P3⟩:=HP.out;exact⟨rfl,H',P1,P2,P3⟩
def mY(d:Db)(p:Pl):Db:={ d with Vn:=d.Vn++[⟨d.kind,d.label,d.U6,d.Vh,p,0⟩] }
def mO(d:Db):Db:=if(d.kind==2)=true/\1<d.U6.length then { d with Vi:=d.Vi++[d.U6.getD 1 ⟨#[]⟩] } else d
def aY(d:Db)(p:Pl):Db :=
 if(d.kind==7)=true then { d with U8:=d.U8++d.U6 }
 else if(d.kind==8)=true then dO d d.U6.length
 else mY (mO d) p
theorem zy(D:aR k a M I N n S)(g:I.length=z3)(f:S 8=y9 8)(d:S 9=y9 9) :
  k.cell? ⟨a,z3+8,none⟩=some (.int .i64 n.kind)/\k.cell? ⟨a,z3+9,none⟩=some (.string n.label)/\k.cell? ⟨a,z3+10,none⟩=some (.slice (y9 8).ao n.U6.length (y9 8).cap)/\k.cell? ⟨a,z3+12,none⟩=some (.slice (y9 9).ao n.Vh.length (y9 9).cap):=by
 obtain⟨s,j,l,o,m,r,q,p,i,h,b,e,c⟩:=D.cells z3 g;rw[f]at b;rw[d]at c;exact⟨i,h,b,c⟩
theorem zx{f:ByteArray}{l c:Int}(T:aA a k S z6 y9)(B:k.heap[M]?=some (.cells #[.string f,.int .i64 l,.int .i64 c] 36 (0,0)))(d:M≠a)(g:∀b,f9 S b->b≠M) :
  z6.cell? ⟨M,0,none⟩=some (.string f)/\z6.cell? ⟨M,1,none⟩=some (.int .i64 l)/\z6.cell? ⟨M,2,none⟩=some (.int .i64 c):=by
 have h:=T.1.get B (by rintro (e | e);exact d e;exact g _ e rfl);refine⟨?_,?_,?_⟩ <;> rw[aa h] <;> rfl
theorem Bt(h:aR T f y x v w b)(d:x.length=H)(hm:0<w.U6.length)(c:fK w 10000000) :
  Calls prog 252 #[.pointer (some ⟨f,H,none⟩),.agg #[.string l,.int .i64 L,.int .i64 D]] T fun e a=>e=.returned (.tuple #[])/\∃H',aR a f y x v (aY w ⟨l,L,D⟩) H'/\aA f T b a H':=by
 obtain⟨W,Y⟩:∃W,W=T.alloc (.cells #[.string l,.int .i64 L,.int .i64 D] 36):=⟨_,rfl⟩
 have K:ab [] T W:=by rw[Y];exact(ab.refl [] _).alloc _
 have p:=h.Vb K;have U:=hI Y.symm;have B:W.heap[T.heap.size]?=some (.cells #[.string l,.int .i64 L,.int .i64 D] 36 (0,0)):=by rw[Y];exact QS _ _
 have j:T.heap.size≠f:=by have:=h.lt;omega
 have A:Hid (∀k,f9 b k->k≠T.heap.size):=fun k hk=>by have:=h.inlt hk;omega
 have i:=(show Hid (fK w 100000000) from⟨by have:=c.Ve;omega,by have:=c.U8;omega,by have:=c.U9;omega,by have:=c.Vf;omega,by have:=c.Vi;omega,by have:=c.blocks;omega,by have:=c.Vn;omega,by have:=c.rbl;omega,by have:=c.U6;omega,by have:=c.Vh;omega⟩);clear Y;obtain⟨q0,q1,q2,q3,Z,q5,q6,q7,q8,q9,n,z,E⟩:=p.cells H d;clear q0 q1 q2 q3 Z q5 q6 q7 z;have an:=c.U6
 cases V:(w.kind==7)
 ·cases k8:(w.kind==8)
  ·by_cases F:(w.kind==2)=true/\1<w.U6.length
   ·have m:Hid (aY w ⟨l,L,D⟩=mY { w with Vi:=w.Vi++[w.U6.getD 1 ⟨#[]⟩] } ⟨l,L,D⟩):=by show aY w ⟨l,L,D⟩=_;unfold aY mO;rw[V,k8,QW F];simp
    obtain⟨J,u⟩:=F;have hx:w.U6.getD 1 ⟨#[]⟩=w.U6[1]:=by rw[QQ,QP u];rfl
    rw[hx]at m;have C:aw W (b 8) (aB w.U6):=p.own 8
    rcases C.Vm with ⟨_,h0,_⟩ | ⟨g8,ai,e8,-,ac,-⟩
    ·have:w.U6.length=0:=h0
     omega
    ·have c1:=C.cell e8 1 (.string w.U6[1]) (tC w.U6 1 u)
     rw[e8]at n;have ar:w.U6.length<=(b 8).cap:=ac;have ap:=c.Vi;clear C hx;generalize w.U6[1]=af at *;go_enter func252,ntmps252
     go_upto_region 1 with fail
     rw[U.out]
     go_upto_region 3 with fail
     go_region_with (go_at_call 267;refine(zB f y H x v w b af _ (by exact p.Vb (ab.refl [] _).drew) d (by omega)).mono ?_;rintro e O ⟨rfl,g,G,t⟩)
     all_goals
      have q:=A;have X:=t.1.get (by exact B) (by rintro (e | e);exact j e;exact q.out _ e rfl);have al:=ae B
      have I:Hid (∀k,f9 g k->k≠T.heap.size):=fun k hk=>by
       rcases t.2 k hk with h' | h'
       ·exact q.out k h'
       ·rintro rfl
        have h2:W.heap.size<=T.heap.size:=h';omega
      have ag:=(show Hid _ from(t.first (ab.refl [] _).drew).first K);clear q8 q9 n E c1 t p B;obtain⟨q0,q1,q2,q3,Z,q5,q6,q7,q8,q9,n,z,E⟩:=G.cells H d;clear q0 q1 q2 q3 Z q5 q6 q7 z;simp only at q8 q9 n E;have P:O.cell? ⟨T.heap.size,0,none⟩=some (.string l):=by rw[aa X];rfl
      have N:O.cell? ⟨T.heap.size,1,none⟩=some (.int .i64 L):=by rw[aa X];rfl
      have S:O.cell? ⟨T.heap.size,2,none⟩=some (.int .i64 D):=by rw[aa X];rfl
      have ad:=(show Hid (fK { w with Vi:=w.Vi++[af] } 100000000) from⟨by have:=c.Ve;simp only;omega,by have:=c.U8;simp only;omega,by have:=c.U9;simp only;omega,by have:=c.Vf;simp only;omega,by simp;omega,by have:=c.blocks;simp only;omega,by have:=c.Vn;simp only;omega,by have:=c.rbl;simp only;omega,by have:=c.U6;simp only;omega,by have:=c.Vh;simp only;omega⟩)
     all_goals go_upto_region 4 with fail
     all_goals go_region_held3 (fun a=>a.cell? ⟨f,H+8,none⟩=some (.int .i64 w.kind)/\a.cell? ⟨f,H+9,none⟩=some (.string w.label)/\a.cell? ⟨f,H+10,none⟩=some (.slice (g 8).ao w.U6.length (g 8).cap)/\a.cell? ⟨f,H+12,none⟩=some (.slice (g 9).ao w.Vh.length (g 9).cap)/\a.cell? ⟨T.heap.size,0,none⟩=some (.string l)/\a.cell? ⟨T.heap.size,1,none⟩=some (.int .i64 L)/\a.cell? ⟨T.heap.size,2,none⟩=some (.int .i64 D)) (go_keep) (first | (go_at_call 268;refine(rK f y H x v { w with Vi:=w.Vi++[af] } g w.kind w.label l L D _ (by exact G.Vb (ab.refl [] _).drew) d ad.out).mono ?_;rintro e w9 ⟨rfl,Q,r,o,s⟩;obtain⟨r8,r9,R,M⟩:=zy r d (s 8 (by omega) (by omega)) (s 9 (by omega) (by omega));obtain⟨P,N,S⟩:=zx o (by exact X) j I.out))
     all_goals go_wp2
     all_goals go_end0
     all_goals exact⟨rfl,Q,by rw[m.out];exact r,aA.trans ag.out (o.first (ab.refl [] _).drew)⟩
   ·have m:Hid (aY w ⟨l,L,D⟩=mY w ⟨l,L,D⟩):=by show aY w ⟨l,L,D⟩=_;unfold aY mO;rw[V,k8,QT F];simp
    cases J:(w.kind==2)
    ·clear F
     go_enter func252,ntmps252
     go_upto_region 1 with fail
     rw[U.out]
     go_upto_region 4 with fail
     have P:W.cell? ⟨T.heap.size,0,none⟩=some (.string l):=by rw[aa B];rfl
     have N:W.cell? ⟨T.heap.size,1,none⟩=some (.int .i64 L):=by rw[aa B];rfl
     have S:W.cell? ⟨T.heap.size,2,none⟩=some (.int .i64 D):=by rw[aa B];rfl
     go_region_held3 (fun a=>a.cell? ⟨f,H+8,none⟩=some (.int .i64 w.kind)/\a.cell? ⟨f,H+9,none⟩=some (.string w.label)/\a.cell? ⟨f,H+10,none⟩=some (.slice (b 8).ao w.U6.length (b 8).cap)/\a.cell? ⟨f,H+12,none⟩=some (.slice (b 9).ao w.Vh.length (b 9).cap)/\a.cell? ⟨T.heap.size,0,none⟩=some (.string l)/\a.cell? ⟨T.heap.size,1,none⟩=some (.int .i64 L)/\a.cell? ⟨T.heap.size,2,none⟩=some (.int .i64 D)) (go_keep) (first | (go_at_call 268;refine(rK f y H x v w b w.kind w.label l L D _ (by exact p.Vb (ab.refl [] _).drew) d i.out).mono ?_;rintro e w9 ⟨rfl,Q,r,o,s⟩;obtain⟨r8,r9,R,M⟩:=zy r d (s 8 (by omega) (by omega)) (s 9 (by omega) (by omega));obtain⟨P,N,S⟩:=zx o (by exact B) j A.out))
     all_goals go_wp2
     all_goals go_end0
     all_goals exact⟨rfl,Q,by rw[m.out];exact r,(o.first (ab.refl [] _).drew).first K⟩
    ·have u:¬1<w.U6.length:=fun hh=>F ⟨J,hh⟩
     clear F;go_enter func252,ntmps252
     go_upto_region 1 with fail
     rw[U.out]
     go_upto_region 4 with fail
     have P:W.cell? ⟨T.heap.size,0,none⟩=some (.string l):=by rw[aa B];rfl
     have N:W.cell? ⟨T.heap.size,1,none⟩=some (.int .i64 L):=by rw[aa B];rfl
     have S:W.cell? ⟨T.heap.size,2,none⟩=some (.int .i64 D):=by rw[aa B];rfl
     go_region_held3 (fun a=>a.cell? ⟨f,H+8,none⟩=some (.int .i64 w.kind)/\a.cell? ⟨f,H+9,none⟩=some (.string w.label)/\a.cell? ⟨f,H+10,none⟩=some (.slice (b 8).ao w.U6.length (b 8).cap)/\a.cell? ⟨f,H+12,none⟩=some (.slice (b 9).ao w.Vh.length (b 9).cap)/\a.cell? ⟨T.heap.size,0,none⟩=some (.string l)/\a.cell? ⟨T.heap.size,1,none⟩=some (.int .i64 L)/\a.cell? ⟨T.heap.size,2,none⟩=some (.int .i64 D)) (go_keep) (first | (go_at_call 268;refine(rK f y H x v w b w.kind w.label l L D _ (by exact p.Vb (ab.refl [] _).drew) d i.out).mono ?_;rintro e w9 ⟨rfl,Q,r,o,s⟩;obtain⟨r8,r9,R,M⟩:=zy r d (s 8 (by omega) (by omega)) (s 9 (by omega) (by omega));obtain⟨P,N,S⟩:=zx o (by exact B) j A.out))
     all_goals go_wp2
     all_goals go_end0
     all_goals exact⟨rfl,Q,by rw[m.out];exact r,(o.first (ab.refl [] _).drew).first K⟩
  ·have m:Hid (aY w ⟨l,L,D⟩=dO w w.U6.length):=by show aY w ⟨l,L,D⟩=_;unfold aY;rw[V,k8];simp
   go_enter func252,ntmps252
   go_upto_region 1 with fail
   rw[U.out];go_wp2_with fail
   go_region_with (go_at_call 266;refine(tH f y H x v w b _ (by exact p.Vb (ab.refl [] _).drew) d hm i.out).mono ?_;rintro e O ⟨rfl,g,G,t⟩)
   all_goals go_wp2
   all_goals go_end0
   all_goals exact⟨rfl,g,by rw[m.out];exact G,(t.first (ab.refl [] _).drew).first K⟩
 ·have m:Hid (aY w ⟨l,L,D⟩={ w with U8:=w.U8++w.U6 }):=by show aY w ⟨l,L,D⟩=_;unfold aY;rw[V];simp
  go_enter func252,ntmps252
  go_upto_region 1 with fail
  rw[U.out];go_wp2_with fail
  go_region_with (go_at_call 265;refine(tG f y H x v w b _ (by exact p.Vb (ab.refl [] _).drew) d hm i.out).mono ?_;rintro e O ⟨rfl,g,G,t⟩)
  all_goals go_wp2
  all_goals go_end0
  all_goals exact⟨rfl,g,by rw[m.out];exact G,(t.first (ab.refl [] _).drew).first K⟩
def iY(d:Db)(x:ByteArray):Int:=if aJ d.Vf x=false then 18 else if aJ d.U6 x=true then 19 else 0
def iZ(d:Db)(x:ByteArray):Int:=if aJ d.U8 x=false then 17 else 0
def fC(d:Db)(x:ByteArray):Int:=if 1<d.U6.length then 16 else if aJ d.Vf x=false then 18 else if aJ d.Vi x=true then 20 else 0
def fy(d:Db)(x:ByteArray):Int:=if aJ d.U8 x=true then 0 else if aJ d.Vf x=false then 21 else if aJ d.Vi x=false then 22 else 0
def aZ(d:Db)(x:ByteArray):Int :=
 if(d.kind==7)=true then(if aJ d.U6 x=true∨dK d x=true then 13 else 0)
 else if(d.kind==8)=true then(if aJ d.U6 x=true∨dX d x=true then 13 else 0)
 else if(d.kind==1)=true then iY d x
 else if d.U6.length=0 then iZ d x
 else if(d.kind==2)=true then fC d x
 else fy d x
theorem so(h:aR T f y x v w b)(c:x.length=H)(a:fK w 1073741824) :
  Calls prog 256 #[.pointer (some ⟨f,H,none⟩),.string l] T fun e g=>e=.returned (.int .i64 (iY w l))/\g=T:=by
 obtain⟨t,A,p,B,q,s,z,r,u,C,n,m,o⟩:=h.cells H c;have d:=a.U6
 cases i:aJ w.Vf l <;> cases j:aJ w.U6 l
 all_goals
  go_enter func256,ntmps256;go_wp2_with (first | (go_at_call 269;refine(kG f y H x v w b l _ (by exact h) c a.Vf).mono ?_;rintro e k ⟨rfl,rfl⟩) | (go_at_call 253;refine(eN (b 8) w.U6 l _ (by exact h.own 8) a.U6).mono ?_;rintro e k ⟨rfl,rfl⟩));go_ret;exact⟨QN (by simp[iY,i,j]),rfl⟩
theorem su(h:aR T f y x v w b)(c:x.length=H)(a:fK w 1073741824) :
  Calls prog 257 #[.pointer (some ⟨f,H,none⟩),.string l] T fun e g=>e=.returned (.int .i64 (iZ w l))/\g=T:=by
 obtain⟨r,z,n,A,o,q,u,p,s,B,k,j,m⟩:=h.cells H c;have d:=a.U6
 cases i:aJ w.U8 l
 all_goals
  go_enter func257,ntmps257;go_wp2_with (first | (go_at_call 270;refine(mB f y H x v w b l _ (by exact h) c a.U8).mono ?_;rintro e t ⟨rfl,rfl⟩));go_ret;exact⟨QN (by simp[iZ,i]),rfl⟩
theorem ss(h:aR T f y x v w b)(c:x.length=H)(a:fK w 1073741824) :
  Calls prog 258 #[.pointer (some ⟨f,H,none⟩),.string l] T fun e j=>e=.returned (.int .i64 (fC w l))/\j=T:=by
 obtain⟨u,B,q,C,r,t,A,s,z,D,o,n,p⟩:=h.cells H c;have i:=a.U6
 by_cases g:1<w.U6.length
 ·go_enter func258,ntmps258
  go_wp2_with (first | (go_at_call 269;refine(kG f y H x v w b l _ (by exact h) c a.Vf).mono ?_;rintro e d ⟨rfl,rfl⟩) | (go_at_call 271;refine(nf f y H x v w b l _ (by exact h) c a.Vi).mono ?_;rintro e d ⟨rfl,rfl⟩));go_ret;exact⟨QN (by simp[fC,g]),rfl⟩
 ·cases k:aJ w.Vf l <;> cases m:aJ w.Vi l
  all_goals
   go_enter func258,ntmps258;go_wp2_with (first | (go_at_call 269;refine(kG f y H x v w b l _ (by exact h) c a.Vf).mono ?_;rintro e d ⟨rfl,rfl⟩) | (go_at_call 271;refine(nf f y H x v w b l _ (by exact h) c a.Vi).mono ?_;rintro e d ⟨rfl,rfl⟩));go_ret;exact⟨QN (by simp[fC,g,k,m]),rfl⟩
theorem qJ(h:aR T f y x v w b)(c:x.length=H)(a:fK w 1073741824) :
  Calls prog 259 #[.pointer (some ⟨f,H,none⟩),.string l] T fun e j=>e=.returned (.int .i64 (fy w l))/\j=T:=by
 obtain⟨u,B,q,C,r,t,A,s,z,D,o,n,p⟩:=h.cells H c;have i:=a.U6
 cases g:aJ w.U8 l
 ·cases k:aJ w.Vf l <;> cases m:aJ w.Vi l
  all_goals
   go_enter func259,ntmps259;go_wp2_with (first | (go_at_call 270;refine(mB f y H x v w b l _ (by exact h) c a.U8).mono ?_;rintro e d ⟨rfl,rfl⟩) | (go_at_call 269;refine(kG f y H x v w b l _ (by exact h) c a.Vf).mono ?_;rintro e d ⟨rfl,rfl⟩) | (go_at_call 271;refine(nf f y H x v w b l _ (by exact h) c a.Vi).mono ?_;rintro e d ⟨rfl,rfl⟩));go_ret;exact⟨QN (by simp[fy,g,k,m]),rfl⟩
 ·go_enter func259,ntmps259
  go_wp2_with (first | (go_at_call 270;refine(mB f y H x v w b l _ (by exact h) c a.U8).mono ?_;rintro e d ⟨rfl,rfl⟩) | (go_at_call 269;refine(kG f y H x v w b l _ (by exact h) c a.Vf).mono ?_;rintro e d ⟨rfl,rfl⟩) | (go_at_call 271;refine(nf f y H x v w b l _ (by exact h) c a.Vi).mono ?_;rintro e d ⟨rfl,rfl⟩));go_ret;exact⟨QN (by simp[fy,g]),rfl⟩
theorem pd(h:aR T f y x v w b)(i:x.length=H)(a:fK w 1073741824) :
  Calls prog 236 #[.pointer (some ⟨f,H,none⟩),.string l] T fun e s=>e=.returned (.int .i64 (aZ w l))/\s=T:=by
 obtain⟨E,I,B,J,A,D,G,C,F,K,u,t,z⟩:=h.cells H i;have r:=a.U6
 cases j:(w.kind==7)
 ·cases k:(w.kind==8)
  ·cases m:(w.kind==1)
   ·by_cases g:w.U6.length=0
    ·have c:Hid (aZ w l=iZ w l):=by show aZ w l=_;simp only[aZ,j,k,m,g];simp
     have n:((w.U6.length:Int)==0)=true:=by simp[g]
     clear g;go_enter func236,ntmps236;go_wp2_with (first | (go_at_call 257;refine(su f y H x v w b l _ (by exact h) i a).mono ?_;rintro e d ⟨rfl,rfl⟩));go_ret;exact⟨QN (by rw[c.out]),rfl⟩
    ·have n:((w.U6.length:Int)==0)=false:=Rh.2 (by omega)
     cases q:(w.kind==2)
     ·have c:Hid (aZ w l=fy w l):=by show aZ w l=_;simp[aZ,j,k,m,q,g]
      clear g;go_enter func236,ntmps236;go_wp2_with (first | (go_at_call 259;refine(qJ f y H x v w b l _ (by exact h) i a).mono ?_;rintro e d ⟨rfl,rfl⟩));go_ret;exact⟨QN (by rw[c.out]),rfl⟩
     ·have c:Hid (aZ w l=fC w l):=by show aZ w l=_;simp[aZ,j,k,m,q,g]
      clear g;go_enter func236,ntmps236;go_wp2_with (first | (go_at_call 258;refine(ss f y H x v w b l _ (by exact h) i a).mono ?_;rintro e d ⟨rfl,rfl⟩));go_ret;exact⟨QN (by rw[c.out]),rfl⟩
   ·have c:Hid (aZ w l=iY w l):=by show aZ w l=_;simp[aZ,j,k,m]
    go_enter func236,ntmps236;go_wp2_with (first | (go_at_call 256;refine(so f y H x v w b l _ (by exact h) i a).mono ?_;rintro e d ⟨rfl,rfl⟩));go_ret;exact⟨QN (by rw[c.out]),rfl⟩
  ·cases o:aJ w.U6 l <;> cases p:dX w l
   all_goals
    go_enter func236,ntmps236;go_wp2_with (first | (go_at_call 253;refine(eN (b 8) w.U6 l _ (by exact h.own 8) a.U6).mono ?_;rintro e d ⟨rfl,rfl⟩) | (go_at_call 255;refine(Ab f y H x v w b l _ (by exact h) i a).mono ?_;rintro e d ⟨rfl,rfl⟩));go_ret;exact⟨QN (by simp[aZ,j,k,o,p]),rfl⟩
 ·cases o:aJ w.U6 l <;> cases p:dK w l
  all_goals
   go_enter func236,ntmps236;go_wp2_with (first | (go_at_call 253;refine(eN (b 8) w.U6 l _ (by exact h.own 8) a.U6).mono ?_;rintro e d ⟨rfl,rfl⟩) | (go_at_call 254;refine(lQ f y H x v w b l _ (by exact h) i a).mono ?_;rintro e d ⟨rfl,rfl⟩));go_ret;exact⟨QN (by simp[aZ,j,o,p]),rfl⟩
theorem fK.mono{M:Nat}(h:fK n a)(b:a<=M):fK n M :=
 ⟨Q3 h.Ve b,Q3 h.U8 b,Q3 h.U9 b,Q3 h.Vf b,Q3 h.Vi b,Q3 h.blocks b,Q3 h.Vn b,Q3 h.rbl b,Q3 h.U6 b,Q3 h.Vh b⟩
theorem aR.kind(h:aR k a M I N n S)(o:Nat)(d:I.length=o)(b:Int) :
  Hid (aR (k.setCell ⟨a,o+8,none⟩ (.int .i64 b)) a M I N { n with kind:=b } S/\aA a k S (k.setCell ⟨a,o+8,none⟩ (.int .i64 b)) S) :=
 h.set (d':={ n with kind:=b }) o 8 d (JI n S b) _ (by omega) rfl
theorem aR.lab(h:aR k a M I N n S)(o:Nat)(d:I.length=o)(c:ByteArray) :
  Hid (aR (k.setCell ⟨a,o+9,none⟩ (.string c)) a M I N { n with label:=c } S/\aA a k S (k.setCell ⟨a,o+9,none⟩ (.string c)) S) :=
 h.set (d':={ n with label:=c }) o 9 d (E8 n S c) _ (by omega) rfl
theorem aR.Va(h:aR k a M I N n S)(o:Nat)(c:I.length=o)(b:Bool) :
  Hid (aR (k.setCell ⟨a,o+11,none⟩ (.bool b)) a M I N { n with Va:=b } S/\aA a k S (k.setCell ⟨a,o+11,none⟩ (.bool b)) S) :=
 h.set (d':={ n with Va:=b }) o 11 c (Ay n S b) _ (by omega) rfl
theorem aR.forget(h:aR k a M I N n S)(o:Nat)(b:I.length=o) :
  aR (k.setCell ⟨a,o+10,none⟩ (.slice none 0 0)) a M I N { n with U6:=[] } (g9 S 8 ⟨none,0⟩)/\aA a k S (k.setCell ⟨a,o+10,none⟩ (.slice none 0 0)) (g9 S 8 ⟨none,0⟩) :=
 h.put (d':={ n with U6:=[] }) o 10 b 8 (by omega) ⟨none,0⟩ ⟨by simp[aU,aB,cN],Q1 ⟨by simp[aU,aB],by simp[aU,aB]⟩⟩ (UD _ _) (Q1 rfl) (tq n S []) _ (by omega) (by simp[b9,g9])
theorem aR.noProof(h:aR k a M I N n S)(o:Nat)(b:I.length=o) :
  aR (k.setCell ⟨a,o+12,none⟩ (.slice none 0 0)) a M I N { n with Vh:=[] } (g9 S 9 ⟨none,0⟩)/\aA a k S (k.setCell ⟨a,o+12,none⟩ (.slice none 0 0)) (g9 S 9 ⟨none,0⟩) :=
 h.put (d':={ n with Vh:=[] }) o 12 b 9 (by omega) ⟨none,0⟩ ⟨by simp[aU,gN,nD],Q1 ⟨by simp[aU,gN],by simp[aU,gN]⟩⟩ (UD _ _) (Q1 rfl) (wZ n S []) _ (by omega) (by simp[b9,g9])
def aH(d:Db)(x:ByteArray):Int×Db :=
 if(x.toList == [36,102])=true then(0,{ d with kind:=2 })
 else if(x.toList == [36,101])=true then(0,{ d with kind:=3 })
 else if(x.toList == [36,97])=true then(0,{ d with kind:=4 })
 else if(x.toList == [36,112])=true then(0,{ d with kind:=5 })
 else(14,d)
def b7(d:Db):Int×Db:=if d.U6.length=0 then(15,d) else(0,{ d with Va:=true })
def bI(d:Db)(x:ByteArray):Int×Db :=
 if dA x=true then(8,d) else if gG x=false then(12,d) else if dK d x=true then(13,d)
 else(0,{ d with Ve:=d.Ve++[x],label:=x,kind:=6 })
def lL(d:Db)(p:Pl):Int×Db :=
 if(d.U6.length:Int)<l5 d then(15,d)
 else if(d.kind==5)=true/\d.Va=false then(23,d)
 else(0,{ aY d p with kind:=0,label:=⟨#[]⟩,U6:=[],Va:=false,Vh:=[] })
def cw(d:Db)(q:Nat×Nat):Db :=
 match d.rbl.getLast? with
 | none=>dq d d.blocks.dropLast q
 | some x=>{ dq d d.blocks.dropLast q with rbl:=d.rbl.dropLast,Vn:=gy d.Vn x }
def av(d:Db)(x:ByteArray):Int×Db :=
 if(x.toList == [36,123])=true then(0,{ d with blocks:=d.blocks++[(d.Vf.length,d.Vi.length)],rbl:=d.rbl++[d.Vn.length] })
 else if(x.toList == [36,125])=true then(match d.blocks.getLast? with | none=>(9,d) | some p=>(0,cw d p))
 else if(x.toList == [36,99])=true then(if 0<d.blocks.length then(10,d) else(0,{ d with kind:=7 }))
 else if(x.toList == [36,118])=true then(0,{ d with kind:=8 })
 else if(x.toList == [36,100])=true then(0,{ d with kind:=1 })
 else if(x.toList == [36,102])=true∨(x.toList == [36,101])=true∨(x.toList == [36,97])=true∨(x.toList == [36,112])=true then(11,d)
 else bI d x
def aX(d:Db)(x:ByteArray)(p:Pl):Int×Db :=
 if(d.kind==0)=true then av d x
 else if(d.kind==6)=true then aH d x
 else if(x.toList == [36,46])=true then lL d p
 else if(x.toList == [36,61])=true/\(d.kind==5)=true/\d.Va=false then b7 d
 else if dA x=true then(8,d)
 else if d.Va=true then(0,{ d with Vh:=d.Vh++[(x,p)] })
 else if(aZ d x==0)=true then(0,{ d with U6:=d.U6++[x] })
 else(aZ d x,d)
theorem vg(h:aR T f y x v w b)(m:x.length=H) :
  Calls prog 233 #[.pointer (some ⟨f,H,none⟩),.string l] T fun e n=>e=.returned (.int .i64 (aH w l).1)/\∃o,aR n f y x v (aH w l).2 o/\aA f T b n o:=by
 obtain⟨B,E,t,F,u,A,D,z,C,G,r,q,s⟩:=h.cells H m;have p:=h.free
 cases a:(l.toList == [36,102])
 ·cases d:(l.toList == [36,101])
  ·cases k:(l.toList == [36,97])
   ·cases j:(l.toList == [36,112])
    ·have c:Hid (aH w l=(14,w)):=by show aH w l=_;simp only[aH,a,d,k,j];simp
     go_enter func233,ntmps233;go_wp2;go_ret;exact⟨QN (by rw[c.out]),b,by rw[c.out];exact h,aA.refl _ _ _⟩
    ·have c:Hid (aH w l=(0,{ w with kind:=5 })):=by show aH w l=_;simp only[aH,a,d,k,j];simp
     have i:=h.kind H m 5;go_enter func233,ntmps233;go_wp2;go_ret;exact⟨QN (by rw[c.out]),b,by rw[c.out];exact i.out.1,i.out.2⟩
   ·have c:Hid (aH w l=(0,{ w with kind:=4 })):=by show aH w l=_;simp only[aH,a,d,k];simp
    have i:=h.kind H m 4;go_enter func233,ntmps233;go_wp2;go_ret;exact⟨QN (by rw[c.out]),b,by rw[c.out];exact i.out.1,i.out.2⟩
  ·have c:Hid (aH w l=(0,{ w with kind:=3 })):=by show aH w l=_;simp only[aH,a,d];simp
   have i:=h.kind H m 3;go_enter func233,ntmps233;go_wp2;go_ret;exact⟨QN (by rw[c.out]),b,by rw[c.out];exact i.out.1,i.out.2⟩
 ·have c:Hid (aH w l=(0,{ w with kind:=2 })):=by show aH w l=_;simp only[aH,a];simp
  have i:=h.kind H m 2;go_enter func233,ntmps233;go_wp2;go_ret;exact⟨QN (by rw[c.out]),b,by rw[c.out];exact i.out.1,i.out.2⟩
theorem vL(h:aR T f y x v w b)(j:x.length=H) :
  Calls prog 235 #[.pointer (some ⟨f,H,none⟩)] T fun e g=>e=.returned (.int .i64 (b7 w).1)/\∃k,aR g f y x v (b7 w).2 k/\aA f T b g k:=by
 obtain⟨t,B,q,C,p,s,A,r,z,D,n,m,o⟩:=h.cells H j;have l:=h.free
 by_cases c:w.U6.length=0
 ·have a:Hid (b7 w=(15,w)):=by show b7 w=_;simp only[b7,c];simp
  have d:((w.U6.length:Int)==0)=true:=by simp[c]
  clear c;go_enter func235,ntmps235;go_wp2;go_ret;exact⟨QN (by rw[a.out]),b,by rw[a.out];exact h,aA.refl _ _ _⟩
 ·have a:Hid (b7 w=(0,{ w with Va:=true })):=by show b7 w=_;simp only[b7,c];simp
  have d:((w.U6.length:Int)==0)=false:=Rh.2 (by omega);have i:=h.Va H j true;clear c;go_enter func235,ntmps235;go_wp2;go_ret;exact⟨QN (by rw[a.out]),b,by rw[a.out];exact i.out.1,i.out.2⟩
theorem xV(h:aR T f y x v w b)(d:x.length=H)(j:fK w 100000000)(g:l.size<=1073741824) :
  Calls prog 250 #[.pointer (some ⟨f,H,none⟩),.string l] T fun e u=>e=.returned (.int .i64 (bI w l).1)/\∃K,aR u f y x v (bI w l).2 K/\aA f T b u K:=by
 obtain⟨A,D,r,G,s,z,C,t,B,I,m,k,n⟩:=h.cells H d;have i:=h.free
 cases o:dA l
 ·cases q:gG l
  ·have a:Hid (bI w l=(12,w)):=by show bI w l=_;simp[bI,o,q]
   go_enter func250,ntmps250;go_wp2_with (first | (go_at_call 231;refine(dV l _ g).mono ?_;rintro e c ⟨rfl,rfl⟩) | (go_at_call 263;refine(nc l _ g).mono ?_;rintro e c ⟨rfl,rfl⟩) | (go_at_call 254;refine(lQ f y H x v w b l _ (by exact h) d (j.mono (by omega))).mono ?_;rintro e c ⟨rfl,rfl⟩));go_ret;exact⟨QN (by rw[a.out]),b,by rw[a.out];exact h,aA.refl _ _ _⟩
  ·cases J:dK w l
   ·have a:Hid (bI w l=(0,{ w with Ve:=w.Ve++[l],label:=l,kind:=6 })):=by show bI w l=_;simp[bI,o,q,J]
    have N:=j.Ve;go_enter func250,ntmps250;go_wp2_with (first | (go_at_call 231;refine(dV l _ g).mono ?_;rintro e c ⟨rfl,rfl⟩) | (go_at_call 263;refine(nc l _ g).mono ?_;rintro e c ⟨rfl,rfl⟩) | (go_at_call 254;refine(lQ f y H x v w b l _ (by exact h) d (j.mono (by omega))).mono ?_;rintro e c ⟨rfl,rfl⟩));refine(zA f y H x v w b l _ (by exact h) d (by omega)).mono ?_;rintro e O ⟨rfl,L,p,M⟩;have F:=p.lab H d l;have E:=F.out.1.kind H d 6;clear A D r G s z C t B I m k n i;obtain⟨A,D,r,G,s,z,C,t,B,I,m,k,n⟩:=p.cells H d;have i:=p.free;go_wp2;go_ret;exact⟨QN (by rw[a.out]),L,by rw[a.out];exact E.out.1,M.trans (F.out.2.trans E.out.2)⟩
   ·have a:Hid (bI w l=(13,w)):=by show bI w l=_;simp[bI,o,q,J]
    go_enter func250,ntmps250;go_wp2_with (first | (go_at_call 231;refine(dV l _ g).mono ?_;rintro e c ⟨rfl,rfl⟩) | (go_at_call 263;refine(nc l _ g).mono ?_;rintro e c ⟨rfl,rfl⟩) | (go_at_call 254;refine(lQ f y H x v w b l _ (by exact h) d (j.mono (by omega))).mono ?_;rintro e c ⟨rfl,rfl⟩));go_ret;exact⟨QN (by rw[a.out]),b,by rw[a.out];exact h,aA.refl _ _ _⟩
 ·have a:Hid (bI w l=(8,w)):=by show bI w l=_;simp[bI,o]
  go_enter func250,ntmps250;go_wp2_with (first | (go_at_call 231;refine(dV l _ g).mono ?_;rintro e c ⟨rfl,rfl⟩) | (go_at_call 263;refine(nc l _ g).mono ?_;rintro e c ⟨rfl,rfl⟩) | (go_at_call 254;refine(lQ f y H x v w b l _ (by exact h) d (j.mono (by omega))).mono ?_;rintro e c ⟨rfl,rfl⟩));go_ret;exact⟨QN (by rw[a.out]),b,by rw[a.out];exact h,aA.refl _ _ _⟩
theorem IB:1<=l5 w:=by unfold l5;split <;> omega
theorem Nl(h:aR T f y x v w b)(a:x.length=H)(Z:fK w 10000000) :
  Calls prog 234 #[.pointer (some ⟨f,H,none⟩),.agg #[.string l,.int .i64 L,.int .i64 D]] T fun e P=>e=.returned (.int .i64 (lL w ⟨l,L,D⟩).1)/\∃V,aR P f y x v (lL w ⟨l,L,D⟩).2 V/\aA f T b P V:=by
 obtain⟨W,q⟩:∃W,W=T.alloc (.cells #[.string l,.int .i64 L,.int .i64 D] 36):=⟨_,rfl⟩
 have K:ab [] T W:=by rw[q];exact(ab.refl [] _).alloc _
 have g:=h.Vb K;have F:=hI q.symm;have B:W.heap[T.heap.size]?=some (.cells #[.string l,.int .i64 L,.int .i64 D] 36 (0,0)):=by rw[q];exact QS _ _
 have p0:W.cell? ⟨T.heap.size,0,none⟩=some (.string l):=by rw[aa B];rfl
 have p1:W.cell? ⟨T.heap.size,1,none⟩=some (.int .i64 L):=by rw[aa B];rfl
 have p2:W.cell? ⟨T.heap.size,2,none⟩=some (.int .i64 D):=by rw[aa B];rfl
 clear q B h;obtain⟨A,G,r,I,s,z,C,t,Q,U,m,c,n⟩:=g.cells H a;clear A G r I s z C t U n;have j:=g.free
 by_cases i:(w.U6.length:Int)<l5 w
 ·have d:Hid (lL w ⟨l,L,D⟩=(15,w)):=by show lL w ⟨l,L,D⟩=_;simp only[lL,if_pos i]
  go_enter func234,ntmps234
  go_upto_region 1 with fail
  rw[F.out]
  go_quiet ((go_at_call 251;exact Rd (t7 f y H x v w b _ (g.Vb ((ab.refl [] W).drewN _)) a)))
  go_wp2;go_ret;exact⟨QN (by rw[d.out]),b,by rw[d.out];exact g.Vb ((ab.refl [] _).drewN _),(aA.refl _ _ _).Vb (K.drewN _)⟩
 ·have E:Hid (0<w.U6.length):=by have:=IB w;show 0<_;omega
  by_cases k:(w.kind==5)=true/\w.Va=false
  ·have d:Hid (lL w ⟨l,L,D⟩=(23,w)):=by show lL w ⟨l,L,D⟩=_;simp only[lL,if_neg i,if_pos k]
   obtain⟨p,X⟩:=k;rw[X]at c;go_enter func234,ntmps234
   go_upto_region 1 with fail
   rw[F.out]
   go_quiet ((go_at_call 251;exact Rd (t7 f y H x v w b _ (g.Vb ((ab.refl [] W).drewN _)) a)))
   go_wp2;go_ret;exact⟨QN (by rw[d.out]),b,by rw[d.out];exact g.Vb ((ab.refl [] _).drewN _),(aA.refl _ _ _).Vb (K.drewN _)⟩
  ·have d:Hid (lL w ⟨l,L,D⟩=(0,{ aY w ⟨l,L,D⟩ with kind:=0,label:=⟨#[]⟩,U6:=[],Va:=false,Vh:=[] })):=by show lL w ⟨l,L,D⟩=_;simp only[lL,if_neg i,if_neg k]
   have o:(w.kind==5)=true->w.Va=true:=by
    intro p
    cases Y:w.Va with
    | true=>rfl
    | false=>exact absurd ⟨p,Y⟩ k
   cases p:(w.kind==5)
   all_goals
    try rw[o p]at c
    clear o;clear k;go_enter func234,ntmps234
    go_upto_region 1 with fail
    rw[F.out]
    go_quiet ((go_at_call 251;exact Rd (t7 f y H x v w b _ (g.Vb ((ab.refl [] W).drewN _)) a)))
    go_wp2_with fail;refine(Bt f y H x v w b l L D _ (by exact g.Vb ((ab.refl [] _).drewN _)) a E.out Z).mono ?_;rintro e w2 ⟨rfl,H2,u,T2⟩;have M:=u.kind H a 0;have S:=M.out.1.lab H a ⟨#[]⟩;have N:=hI (S.out.1.forget H a);have O:=N.out.1.Va H a false;have J:=hI (O.out.1.noProof H a);clear Q m c j p0 p1 p2;obtain⟨A,G,r,I,s,z,C,t,Q,U,m,c,n⟩:=u.cells H a;clear A G r I s z C t;have j:=u.free;go_wp2;go_ret;exact⟨QN (by rw[d.out]),_,by rw[d.out];exact J.out.1,(T2.first (K.drewN _)).trans (M.out.2.trans (S.out.2.trans (N.out.2.trans (O.out.2.trans J.out.2))))⟩
theorem rD{α:Type}{l:List α}{p:α}(h:l.getLast?=some p):l=l.dropLast++[p]:=by
 obtain⟨a,rfl⟩:=List.getLast?_eq_some_iff.1 h;simp
structure AY(d:Db)(N:Nat):Prop where
 names:∀p,p∈d.blocks->p.1<=N/\p.2<=N
 same:d.rbl.length=d.blocks.length
 recs:∀x,x∈d.rbl->x<=d.Vn.length
theorem xU(h:aR T f y x v w b)(r:x.length=H)(F:fK w 10000000)(hx:l.size<=1073741824)(N:AY w 100000000) :
  Calls prog 232 #[.pointer (some ⟨f,H,none⟩),.string l] T fun e R=>e=.returned (.int .i64 (av w l).1)/\∃V,aR R f y x v (av w l).2 V/\aA f T b R V:=by
 have j:=F.mono (M:=100000000) (by omega);obtain⟨q0,q1,q2,q3,q4,q5,q6,q7,q8,q9,af,ac,ag⟩:=h.cells H r;have Y:=h.free
 cases a:(l.toList == [36,123])
 ·cases d:(l.toList == [36,125])
  ·cases m:(l.toList == [36,99])
   ·cases i:(l.toList == [36,118])
    ·cases k:(l.toList == [36,100])
     ·cases n:(l.toList == [36,102])
      ·cases q:(l.toList == [36,101])
       ·cases A:(l.toList == [36,97])
        ·cases s:(l.toList == [36,112])
         ·have c:Hid (av w l=bI w l):=by show av w l=_;simp only[av,a,d,m,i,k,n,q,A,s];simp
          go_enter func232,ntmps232;go_wp2_with fail;refine(xV f y H x v w b l _ (by exact h) r j hx).mono ?_;rintro e S ⟨rfl,I,D,E⟩;go_wp2;go_ret;exact⟨QN (by rw[c.out]),I,by rw[c.out];exact D,E⟩
         ·have c:Hid (av w l=(11,w)):=by show av w l=_;simp only[av,a,d,m,i,k,n,q,A,s];simp
          go_enter func232,ntmps232;go_wp2;go_ret;exact⟨QN (by rw[c.out]),b,by rw[c.out];exact h,aA.refl _ _ _⟩
        ·have c:Hid (av w l=(11,w)):=by show av w l=_;simp only[av,a,d,m,i,k,n,q,A];simp
         go_enter func232,ntmps232;go_wp2;go_ret;exact⟨QN (by rw[c.out]),b,by rw[c.out];exact h,aA.refl _ _ _⟩
       ·have c:Hid (av w l=(11,w)):=by show av w l=_;simp only[av,a,d,m,i,k,n,q];simp
        go_enter func232,ntmps232;go_wp2;go_ret;exact⟨QN (by rw[c.out]),b,by rw[c.out];exact h,aA.refl _ _ _⟩
      ·have c:Hid (av w l=(11,w)):=by show av w l=_;simp only[av,a,d,m,i,k,n];simp
       go_enter func232,ntmps232;go_wp2;go_ret;exact⟨QN (by rw[c.out]),b,by rw[c.out];exact h,aA.refl _ _ _⟩
     ·have c:Hid (av w l=(0,{ w with kind:=1 })):=by show av w l=_;simp only[av,a,d,m,i,k];simp
      have u:=h.kind H r 1;go_enter func232,ntmps232;go_wp2;go_ret;exact⟨QN (by rw[c.out]),b,by rw[c.out];exact u.out.1,u.out.2⟩
    ·have c:Hid (av w l=(0,{ w with kind:=8 })):=by show av w l=_;simp only[av,a,d,m,i];simp
     have u:=h.kind H r 8;go_enter func232,ntmps232;go_wp2;go_ret;exact⟨QN (by rw[c.out]),b,by rw[c.out];exact u.out.1,u.out.2⟩
   ·by_cases g:0<w.blocks.length
    ·have c:Hid (av w l=(10,w)):=by show av w l=_;simp only[av,a,d,m,g];simp
     have B:decide (0<w.blocks.length)=true:=by simpa using g
     clear g;go_enter func232,ntmps232;go_wp2_with (go_at_call 207;refine(lP f y H x v w b _ (by exact h) r).mono ?_;rintro e K ⟨rfl,rfl⟩);go_ret;exact⟨QN (by rw[c.out]),b,by rw[c.out];exact h,aA.refl _ _ _⟩
    ·have c:Hid (av w l=(0,{ w with kind:=7 })):=by show av w l=_;simp only[av,a,d,m,g];simp
     have B:decide (0<w.blocks.length)=false:=by simpa using g
     have u:=h.kind H r 7;clear g;go_enter func232,ntmps232;go_wp2_with (go_at_call 207;refine(lP f y H x v w b _ (by exact h) r).mono ?_;rintro e K ⟨rfl,rfl⟩);go_ret;exact⟨QN (by rw[c.out]),b,by rw[c.out];exact u.out.1,u.out.2⟩
  ·rcases hbb:w.blocks.getLast? with _ | p
   ·have g:w.blocks=[]:=by simpa using hbb
    have c:Hid (av w l=(9,w)):=by show av w l=_;simp only[av,a,d,hbb];simp
    have B:decide (0<w.blocks.length)=false:=by rw[g];rfl
    clear hbb g;go_enter func232,ntmps232;go_wp2_with (go_at_call 207;refine(lP f y H x v w b _ (by exact h) r).mono ?_;rintro e K ⟨rfl,rfl⟩);go_ret;exact⟨QN (by rw[c.out]),b,by rw[c.out];exact h,aA.refl _ _ _⟩
   ·have g:w.blocks=w.blocks.dropLast++[p]:=rD hbb
    have c:Hid (av w l=(0,cw w p)):=by show av w l=_;simp only[av,a,d,hbb];simp
    have B:decide (0<w.blocks.length)=true:=by rw[g];simp
    have W:Hid (w.blocks=w.blocks.dropLast++[p]):=g;have hp:=N.names p (by rw[g];simp);have G:w.rbl≠[]:=by intro e;have:=N.same;rw[e,g]at this;simp at this
    obtain⟨C,O⟩:∃C,w.rbl.getLast?=some C:=⟨_,Ta G⟩
    have U:Hid (w.rbl=w.rbl.dropLast++[C]):=rD O;have Q:=N.recs C (by rw[U.out];simp);have HE:Hid (cw w p={ dq w w.blocks.dropLast p with rbl:=w.rbl.dropLast,Vn:=gy w.Vn C }):=by show cw w p=_;unfold cw;rw[O]
    have z:Hid (fK (dq w w.blocks.dropLast p) 100000000):=⟨j.Ve,j.U8,j.U9,by have:=j.Vf;simp only[dq,List.length_take];omega,by have:=j.Vi;simp only[dq,List.length_take];omega,by have:=j.blocks;simp only[dq,List.length_dropLast];omega,j.Vn,j.rbl,j.U6,j.Vh⟩;clear hbb g G O;go_enter func232,ntmps232;go_wp2_with (go_at_call 207;refine(lP f y H x v w b _ (by exact h) r).mono ?_;rintro e K ⟨rfl,rfl⟩);refine(zN f y H x v w b w.blocks.dropLast p _ (by exact h) r W.out (j.mono (by omega)) ⟨by omega,by omega⟩).mono ?_;rintro e S ⟨rfl,D,E⟩;go_wp2_with fail;refine(E3 f y H x v (dq w w.blocks.dropLast p) b w.rbl.dropLast C _ (by exact D) r U.out z.out Q).mono ?_;rintro e X ⟨rfl,J,L⟩;go_wp2;go_ret;exact⟨QN (by rw[c.out]),b,by rw[c.out,HE.out];exact J,E.trans L⟩
 ·have c:Hid (av w l=(0,{ w with blocks:=w.blocks++[(w.Vf.length,w.Vi.length)],rbl:=w.rbl++[w.Vn.length] })):=by show av w l=_;simp only[av,a];simp
  have ad:=j.blocks;have z:Hid (fK { w with blocks:=w.blocks++[(w.Vf.length,w.Vi.length)] } 100000000):=⟨j.Ve,j.U8,j.U9,j.Vf,j.Vi,by have:=F.blocks;simp;omega,j.Vn,j.rbl,j.U6,j.Vh⟩;go_enter func232,ntmps232;go_wp2_with fail;refine(vK f y H x v w b _ (by exact h) r (by omega)).mono ?_;rintro e S ⟨rfl,I,D,E⟩;go_wp2_with fail;refine(Ax f y H x v { w with blocks:=w.blocks++[(w.Vf.length,w.Vi.length)] } I _ (by exact D) r z.out).mono ?_;rintro e X ⟨rfl,Z,J,L⟩;go_wp2;go_ret;exact⟨QN (by rw[c.out]),Z,by rw[c.out];exact J,E.trans L⟩
end Go.Proofs.YtpddjjabfbfifaaGreat
