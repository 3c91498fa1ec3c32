import Derived.Deep.RegionHeld3
import Derived.Deep.RegionLaw
import Derived.Deep.CutRange
import Derived.Test.YtpddjjabfbfifaaGreatG21
namespace Go.Proofs.YtpddjjabfbfifaaGreat
open Go.RowKit Tryz
set_option maxRecDepth 100000
set_option maxHeartbeats 40000000
variable{i:List Tk}{D:List Sm}{b y L:Nat}{x8:Nat->Bool}{ya:Db}{yd:List ik}{z3 y9:ByteArray}{yy:List St}{yv:Nat->Hd}{S o:World}{ys:List Nat}{a:Fs}{M:Option Nat}{g yz:Hd}{x5:Int}{k:Nat×Nat->It}{yg:Nat×Nat}{vb xz:dN}{v0:List Value}{yr:Program}{v5:Array Oper}{yf:Oper}{yt:Act}{va:Exit->Act->World->Prop}(z2 v:Nat)(x6:Fs)(y4 y5:ByteArray)(n:Fs)(z4:Hd)(x:Nat)(z7:ByteArray)(l:List Tk)(y6:Option Addr)(zt:Nat)(T:List Sm)(x7:Option Addr)(f:Nat)(d:List ik)(z6:Option Addr)(H:Nat)(v3 yu y7 y8:Value)(N:Option Nat)(I:ByteArray)(w:World)(zb:Nat×Nat->It)
def jO(T:List Tk)(S:List Sm)(j k:Nat):ByteArray:=((bu T (au S j).h).take k).foldl (fun s x=>s++⟨#[32]⟩++x) (bG T (au S j)++⟨#[32]⟩++(au S j).k)
theorem sS(h:H<(bu l (au T f).h).length):jO l T f (H+1)=jO l T f H++⟨#[32]⟩++(bu l (au T f).h)[H]:=by
 unfold jO;rw[Td,QP h,Sw];rfl
theorem Ah(d:(bG i (au D b)).size<=100000)(e:(au D b).k.size<=100000)(a:∀x∈bu i (au D b).h,x.size<=100000)(k:Nat)(f:k<=(bu i (au D b).h).length):(jO i D b k).size<=200001+k*100001:=by
 induction k with
 | zero =>
  unfold jO;simp only[List.take_zero,List.foldl_nil,ByteArray.size_append,mG];omega
 | succ k c =>
  have g:=a _ (Rb (show k<(bu i (au D b).h).length by omega));rw[sS i D b k (by omega)];simp only[ByteArray.size_append,mG];have:=c (by omega);omega
theorem IG(A:w.heap[z2]?=some (.cells #[v3,yu,.pointer (some ⟨v,0,none⟩),y7,y8] 85 (0,0)))(o:fz w v l y6 zt T z6 H)(D:x<T.length)(hT:l.length<=10000)(hE:cU l T[x].h)(ha:T[x].a<l.length)(X:(bG l (au T x)).size<=100000)(Y:(au T x).k.size<=100000)(S:∀x∈bu l (au T x).h,x.size<=100000)(hl:(bu l (au T x).h).length<=10000) :
  Calls prog 63 #[.pointer (some ⟨z2,0,none⟩),.int .i64 x] w fun e G=>e=.returned (.string (kn l T x))/\ab [] w G:=by
 have F:au T x=T[x]:=by unfold au;rw[QQ,QP D];rfl
 have U:=hI (nQ v x l y6 zt T z6 H w o D ha);have R:Hid (∀b,ab [] w b->Calls prog 72 #[.pointer (some ⟨v,0,none⟩),.int .i64 x] b fun e G=>∃t,e=.returned (.slice t.ao (bu l T[x].h).length t.cap)/\vj b G t (bu l T[x].h)):=fun b k=>kD v x l y6 zt T z6 H b (o.Vb k) D (by omega) hE
 have q:Hid (kn l T x=jO l T x (bu l (au T x).h).length):=by show _=_;unfold kn jO;rw[RK]
 have f:=hI (Ah X Y S);have u:=hI (sS l T x);have P:Hid (jO l T x 0=bG l T[x]++⟨#[32]⟩++T[x].k):=by show _=_;unfold jO;rw[F];rfl
 have O:Hid (fz w v l y6 zt T z6 H):=o;have J:=hI A;have Z:=hI S;rw[F]at X Y hl q f u Z;obtain⟨r,rfl,p,q0,q1,q2,C⟩:=o.s.2 x T[x] (QP D);have L:w.cell? ⟨z2,2,none⟩=some (.pointer (some ⟨v,0,none⟩)):=by rw[aa A];rfl
 have M:=ae A;have al:(x:Int)<(T.length:Int):=by omega
 have j:Hid (w.cell? ⟨r,x*4+3,none⟩=some (.string T[x].k)/\r<w.heap.size):=⟨C,p⟩;generalize T[x].k=kk at *;generalize bG l T[x]=E at *;generalize bu l T[x].h=B at *;clear o A S F q0 q1 q2 C p hE;go_enter func63,ntmps63
 go_upto_region 2 with (go_at_call 87;refine QU U.out ?_;rintro e b ⟨rfl,z⟩)
 have c:=hI z;have m:=hI (z.get J.out (by simp));have W:=hI (O.out.Vb z);clear L M z;have L:b.cell? ⟨z2,2,none⟩=some (.pointer (some ⟨v,0,none⟩)):=by rw[aa m.out];rfl
 have M:=ae m.out;obtain⟨-,d1,bz⟩:=W.out.cells;have C:b.cell? ⟨r,x*4+3,none⟩=some (.string kk):=by rw[Q6 (c.out.block r j.out.2 (by simp))];exact j.out.1
 have gz:r<b.heap.size:=QX j.out.2 c.out.size;have n:=hI (R.out b c.out);have z1:(E++⟨#[32]⟩:ByteArray).size<=100001:=by simp only[ByteArray.size_append,mG];omega
 go_upto_region 3 with fail
 go_upto_region 4 with (go_at_call 72;refine QU n.out ?_;rintro e w2 ⟨t,rfl,Q⟩)
 have K:=hI Q.own.srcX;have I:=hI (c.out.trans Q.kept);rw[<-P.out];clear L M d1 bz C gz Q z1;obtain⟨N,ac⟩:=t;go_wp2
 go_loopg [5,7] B.length (fun g tv i wr=>∃k:Nat,k<=B.length/\g=B.length-k/\i=.int .i64 k/\tv=.string (jO l T x k)/\w2=wr)
 case atStart=>exact⟨0,by omega,by omega,rfl,rfl,rfl⟩
 case round =>
  obtain⟨k,hk,hg,rfl,rfl,rfl⟩:=hrel
  by_cases d:k<B.length
  ·have af:=f.out k hk
   have ad:=f.out (k+1) d;have hx:=Z.out _ (Rb d);have HT:=(show Hid _ from(u.out k d).symm);have ap:(k:Int)<(B.length:Int):=by omega
   obtain⟨gB,V,an,cB⟩:=K.out k _ (QP d);replace V:N=some ⟨gB,0,none⟩:=V;subst V;generalize B[k]=y at *;have ag:(jO l T x k++⟨#[32]⟩:ByteArray).size<=200002+k*100001:=by simp only[ByteArray.size_append,mG];omega
   generalize jO l T x k=tx at *;go_wp2
   go_roundg (B.length-(k+1))
   case measure=>omega
   case rel=>exact⟨k+1,by omega,rfl,by go_num,congrArg Value.string HT.out,rfl⟩
  ·have e:k=B.length:=by omega
   subst e;have ai:¬(B.length:Int)<(B.length:Int):=by omega
   go_wp2;go_ret;exact⟨congrArg (fun s=>Ending.returned (Value.string s)) q.out.symm,I.out⟩
def Na(RS:List ik)(lab:ByteArray)(a:Nat):Bool:=(bne (ff RS a).Vc 0)&&((ff RS a).label.toList==lab.toList)
def uZ(RS:List ik)(lab:ByteArray):Option Nat:=(List.range RS.length).find? (Na RS lab)
theorem D0(a:y<b)(c:∀i,i<y->x8 i=false)(h:x8 y=true):(List.range b).find? x8=some y:=by
 rw[Up];refine⟨h,y,by rw[Tf];exact a,by rw[Ub],fun j d=>?_⟩;rw[Ub,c j d];rfl
theorem Lk(a:∀i,i<b->x8 i=false):(List.range b).find? x8=none:=by
 rw[Sk];intro i c;rw[a i (Ra.1 c)];simp
theorem Ky(a:w.heap[x]?=some (.cells #[v3,.bool false,yu,y7,y8] 85 (0,0))) :
  Calls prog 61 #[.pointer (some ⟨x,0,none⟩),.string z7] w fun e b=>e=.returned (.tuple #[.int .i64 0,.int .i64 7])/\b=w:=by
 have d:w.cell? ⟨x,1,none⟩=some (.bool false):=by rw[aa a];rfl
 have c:=ae a;clear a;go_enter func61,ntmps61;go_wp2;exact QY (v:=.tuple #[.int .i64 0,.int .i64 7]) (by simp[results,results61,go_sem]) rfl ⟨rfl,rfl⟩
def MY(RS:List ik)(lab:ByteArray)(w:World)(e:Ending)(w':World):Prop:=e=.returned (.tuple #[.int .i64 ((uZ RS lab).getD 0:Nat),.int .i64 (if(uZ RS lab).isSome=true then 0 else 8)])/\w'=w
theorem Bb(c:w.heap[x]?=some (.cells #[yu,.bool true,y7,y8,.slice z6 d.length H] 85 (0,0)))(p:cm w z6 6 jJ d)(E:d.length<=100000) :
  Calls prog 61 #[.pointer (some ⟨x,0,none⟩),.string z7] w fun e u=>MY d z7 w e u:=by
 have M:w.cell? ⟨x,1,none⟩=some (.bool true):=by rw[aa c];rfl
 have G:w.cell? ⟨x,4,none⟩=some (.slice z6 d.length H):=by rw[aa c];rfl
 have J:=ae c;have C:=(show Hid (cm w z6 6 jJ d) from p);clear c p;go_enter func61,ntmps61;go_wp2
 go_loopg [6] d.length (fun g i wr=>∃k:Nat,k<=d.length/\g=d.length-k/\i=.int .i64 k/\Hid (∀i,i<k->Na d z7 i=false)/\w=wr)
 case atStart=>exact⟨0,by omega,by omega,rfl,(fun i h=>by omega),rfl⟩
 case round =>
  obtain⟨k,K,N,rfl,f,rfl⟩:=hrel
  by_cases a:k<d.length
  ·have D:(k:Int)<(d.length:Int):=by omega
   have q:d[k]?=some (ff d k):=by unfold ff;rw[QQ,QP a];rfl
   obtain⟨L,rfl,y,m⟩:=C.out k _ q;have o:=m 0 _ rfl;have B:=m 1 _ rfl;rw[Tg]at o;have b:Hid (Na d z7 k=((bne (ff d k).Vc 0)&&((ff d k).label.toList==z7.toList))):=rfl;clear m q;generalize ff d k=r at *;obtain⟨v,t,O,I,P,F⟩:=r;simp only at b o B
   cases j:(t != 0)
   ·have n:Hid (∀i,i<k+1->Na d z7 i=false):=fun i z=>by
     by_cases e:i=k
     ·rw[e,b.out,j];rfl
     ·exact f.out i (by omega)
    go_wp2
    go_roundg (d.length-(k+1))
    case measure=>omega
    case rel=>exact⟨k+1,by omega,rfl,by go_num,n,rfl⟩
   ·cases s:(v.toList==z7.toList)
    ·have n:Hid (∀i,i<k+1->Na d z7 i=false):=fun i z=>by
      by_cases e:i=k
      ·rw[e,b.out,j,s];rfl
      ·exact f.out i (by omega)
     go_wp2
     go_roundg (d.length-(k+1))
     case measure=>omega
     case rel=>exact⟨k+1,by omega,rfl,by go_num,n,rfl⟩
    ·have l:Hid (uZ d z7=some k):=D0 a f.out (by rw[b.out,j,s];rfl)
     go_wp2;exact QY (v:=.tuple #[.int .i64 k,.int .i64 0]) (by simp[results,results61,go_sem]) rfl ⟨by rw[l.out];rfl,rfl⟩
  ·have e:k=d.length:=by omega
   subst e;have A:¬(d.length:Int)<(d.length:Int):=by omega
   have l:Hid (uZ d z7=none):=Lk f.out;go_wp2;exact QY (v:=.tuple #[.int .i64 0,.int .i64 8]) (by simp[results,results61,go_sem]) rfl ⟨by rw[l.out];rfl,rfl⟩
def Km(L:List ByteArray)(w:World)(e:Ending)(w':World):Prop:=∃h',e=.returned (.tuple #[.slice h'.ao L.length h'.cap,.int .i64 0])/\gw w w' h' (aB L)
theorem Ee(hd:w.heap[z2]?=some (.cells #[y7,.bool true,.pointer (some ⟨v,0,none⟩),y8,.slice z6 d.length H] 85 (0,0)))(hS:cm w z6 6 jJ d)(hl:d.length<=100000)(hD:fz w v l y6 zt T x7 f)(ok:nK l T x)(hn:x<T.length)(hE:cU l (au T x).h)(ha:uZ d z7=some x)(ap:∀K,ab [] w K->∀j,(j∈bW l T x∨j=x)->Calls prog 63 #[.pointer (some ⟨z2,0,none⟩),.int .i64 j] K fun e u=>e=.returned (.string (kn l T j))/\ab [] K u)(hp:∀p∈fH l T x,p.1.size<=100000/\p.2.size<=100000)(hh:(bW l T x).length<=10000)(hq:(fH l T x).length<=100000000) :
  Calls prog 40 #[.pointer (some ⟨z2,0,none⟩),.string z7] w fun e u=>Km (pL l T x) w e u:=by
 have a6:Hid (Calls prog 61 #[.pointer (some ⟨z2,0,none⟩),.string z7] w fun e u=>e=.returned (.tuple #[.int .i64 x,.int .i64 0])/\u=w):=(Bb z2 z7 d z6 H y7 _ y8 w hd hS hl).mono (fun e u h=>by
  obtain⟨h1,F⟩:=h;rw[ha]at h1;exact⟨h1,F⟩)
 have aS:=hI (nP v x l y6 zt T x7 f w hD ok hn hE);have a4:Hid (∀K,ab [] w K->Calls prog 64 #[.pointer (some ⟨v,0,none⟩),.int .i64 x] K fun e u=>∃t,e=.returned (.slice t.ao (fH l T x).length t.cap)/\gw K u t (lz (fH l T x))):=fun K k=>wI v x l y6 zt T x7 f K (hD.Vb k) ok hn hE
 have ar:=hI ap;have ba:=hI hp;have HV:=hI hd;have v2:w.cell? ⟨z2,2,none⟩=some (.pointer (some ⟨v,0,none⟩)):=by rw[aa hd];rfl
 have vz:=ae hd;have ac:Hid (pL l T x=(bW l T x).map (kn l T)++(fH l T x).map fh++[kn l T x]):=rfl;obtain⟨iS,U,B,A,z⟩:=Re js;generalize pL l T x=LL at *;generalize bW l T x=c at *;generalize fH l T x=a at *;clear hd hS hD ok hE ap hp ha;go_enter func40,ntmps40
 go_upto_region 5 with (go_at_call 61;refine QU a6.out ?_;rintro e w9 ⟨rfl,ag⟩;rw[ag];clear ag)
 go_upto_region 6 with (go_at_call 62;refine QU aS.out ?_;rintro e w1 ⟨h1,rfl,x1⟩)
 have R:=hI x1.kept;have bo:=hI x1.own.srcN;obtain⟨bd,bx⟩:=h1;have bj:Hid (gw w1 w1 ⟨none,0⟩ (aB [])):=⟨QZ _ _ _ _,(by intro k hk;cases hk),ab.refl _ _⟩;clear x1 v2 vz;go_wp2
 go_loopg [8,10] c.length (fun g o i wr=>∃(k:Nat) (t:Hd),k<=c.length/\g=c.length-k/\o=.slice t.ao k t.cap/\i=.int .i64 k/\Hid (gw w1 wr t (aB ((c.take k).map (kn l T)))))
 case atStart=>exact⟨0,⟨none,0⟩,by omega,rfl,rfl,rfl,bj⟩
 case round =>
  obtain⟨k,t,hk,hg,rfl,rfl,Y⟩:=hrel;have S:=hI (R.out.trans Y.out.kept)
  by_cases s:k<c.length
  ·have bg:(k:Int)<(c.length:Int):=by omega
   obtain⟨gH,eH,a3,cH⟩:=(qD.Vb bo.out Y.out.kept) k _ (QP s);replace eH:bd=some ⟨gH,0,none⟩:=eH;subst eH;have a2:=hI (ar.out wr S.out c[k] (Q1 (Rb s)));have V:Hid ((c.take k).map (kn l T)++[kn l T c[k]]=(c.take (k+1)).map (kn l T)):=by show _=_;rw[Td,QP s,Ry];rfl
   have q:Hid (((c.take k).map (kn l T)).length=k):=by show _=_;rw[Ri,RQ];omega
   generalize (c.take k).map (kn l T)=O at *;generalize kn l T c[k]=ln at *;generalize c[k]=j at *
   go_upto_region 10 with (go_at_call 63;refine QU a2.out ?_;rintro e w2 ⟨rfl,k2⟩)
   have I:=hI (Y.out.Vb k2);have E:=I.out.own;have y:Hid ((aB O).n<=900000000):=by show O.length<=_;rw[q.out];omega
   have r:Hid ((aB O).n=k):=q.out;clear cH a3 k2;go_wp2_with (at_builtin;refine bN w2 rfl (.tmp 42) (.tmp 44) 61 rfl iS (.string ⟨#[]⟩) 16 t (aB O) [.string ln] underlying61 U B A z rfl Rc (by rw[r.out];simp[Act.eval]) E y.out (by omega) (by simp[Act.eval]) rfl (by simp[Value.oneCell']) ?_;intro h5 w5 m b;rw[dr]at m;have W:=hI (I.out.Vl b m);clear m b)
   go_roundg (c.length-(k+1))
   case measure=>omega
   case rel=>exact⟨k+1,h5,by omega,rfl,by rw[r.out],by go_num,by rw[<-V.out];exact W⟩
  ·have e:k=c.length:=by omega
   subst e;have bw:¬(c.length:Int)<(c.length:Int):=by omega
   rw[RK]at Y;have al:=hI (S.out.get HV.out (by simp));have v2:wr.cell? ⟨z2,2,none⟩=some (.pointer (some ⟨v,0,none⟩)):=by rw[aa al.out];rfl
   have vz:=ae al.out;have ax:=hI (a4.out wr S.out)
   go_upto_region 12 with (go_at_call 64;refine QU ax.out ?_;rintro e w2 ⟨hP,rfl,x2⟩)
   have be:Hid (cm w2 hP.ao 2 CJ a):=aw.srcG (f:=CJ) x2.own (fun _=>rfl);have I:=hI (Y.out.Vb x2.kept)
   have bc:Hid (∀g,hP.ao=some ⟨g,0,none⟩->t.blk≠some g):=fun g G hb=>by
    have h1:=x2.far g (tK G);have F:=Y.out.own.lt hb;omega
   have a5:Hid (∀g,hP.ao=some ⟨g,0,none⟩->g<w2.heap.size):=fun g G=>x2.own.lt (tK G)
   obtain⟨N,bv⟩:=hP;clear v2 vz x2;have aT:Hid ((c.map (kn l T)).length=c.length):=Ri _;generalize c.map (kn l T)=O at *;have an:Hid (gw w1 w2 t (aB (O++(a.take 0).map fh))):=by show gw _ _ _ _;rw[Tq,UA,Rl];exact I.out
   go_wp2
   go_loopg [8,13] a.length (fun g o i P=>∃(k:Nat) (F:Hd),k<=a.length/\g=a.length-k/\o=.slice F.ao (c.length+k) F.cap/\i=.int .i64 k/\Hid (gw w1 P F (aB (O++(a.take k).map fh)))/\Hid (cm P N 2 CJ a)/\Hid (∀g,N=some ⟨g,0,none⟩->F.blk≠some g/\g<P.heap.size))
   case atStart=>exact⟨0,t,by omega,rfl,rfl,rfl,an,be,fun g G=>⟨bc.out g G,a5.out g G⟩⟩
   case round =>
    obtain⟨k,F,bs,bk,rfl,rfl,D,Z,M⟩:=hrel;have az:=hI (R.out.trans D.out.kept);have q:Hid ((O++(a.take k).map fh).length=c.length+k):=by show _=_;rw[Q0,aT.out,Ri,RQ];omega
    by_cases s:k<a.length
    ·have bg:(k:Int)<(a.length:Int):=by omega
     obtain⟨J,eP,a0,hc⟩:=Z.out k _ (QP s);replace eP:N=some ⟨J,0,none⟩:=eP;subst eP;have c0:=hc 0 _ rfl;have c1:=hc 1 _ rfl;rw[Tg]at c0;obtain⟨z0,z1⟩:=ba.out _ (Rb s);have V:Hid (O++(a.take k).map fh++[fh a[k]]=O++(a.take (k+1)).map fh):=by show _=_;rw[Td,QP s,Ry,Sy];rfl
     have ad:Hid (fh a[k]=⟨#[36,100,32]⟩++a[k].1++⟨#[32]⟩++a[k].2):=rfl;clear hc;generalize a[k]=pp at *;obtain⟨Q,py⟩:=pp;simp only at ad z0 z1 c0 c1;generalize O++(a.take k).map fh=C at *;have s3:(⟨#[36,100,32]⟩:ByteArray).size=3:=rfl;have y1:(⟨#[36,100,32]⟩++Q:ByteArray).size<=100003:=by simp only[ByteArray.size_append,s3];omega
     have y2:(⟨#[36,100,32]⟩++Q++⟨#[32]⟩:ByteArray).size<=100004:=by simp only[ByteArray.size_append,s3,mG];omega
     have n1:¬9223372036854775807<3+Q.size:=by omega
     have n2:¬9223372036854775807<3+Q.size+1:=by omega
     have n3:¬9223372036854775807<3+Q.size+1+py.size:=by omega
     have E:=D.out.own;have y:Hid ((aB C).n<=900000000):=by show C.length<=_;rw[q.out];omega
     have r:Hid ((aB C).n=c.length+k):=q.out
     have HS:Hid (∀(X:World) (h6:Hd),bt wr X F h6->X.cell? ⟨J,k*2,none⟩=some (.string Q)/\X.cell? ⟨J,k*2+1,none⟩=some (.string py)):=fun X h6 gr=>by
      have hb:=gr.kept.block J a0 (fun hm=>(M.out J rfl).1 (aN hm));exact⟨by rw[Q6 hb];exact c0,by rw[Q6 hb];exact c1⟩
     go_upto_region 15 with fail
     go_region_held3 (fun u=>u.cell? ⟨J,k*2,none⟩=some (.string Q)/\u.cell? ⟨J,k*2+1,none⟩=some (.string py)) (go_keep) ((refine bH wr (by rfl) (.tmp 58) (.tmp 72) 61 (by rfl) iS (.string ⟨#[]⟩) 16 F (aB C) [.string _] underlying61 U B A z rfl Rc (by rw[r.out];simp[Act.eval]) E y.out (by omega) (by simp[Act.eval]) rfl (by simp[Value.oneCell']) ?_;intro ai L w5 m b;obtain⟨y0,y3⟩:=HS.out w5 _ b))
     all_goals
      rw[dr,<-ad.out,V.out]at m;have a7:=hI (D.out.Vl b m);have bl:Hid (cm w5 (some ⟨J,0,none⟩) 2 CJ a):=Z.out.keptS b.kept (fun g G hm=>(M.out g G).1 (aN hm))
      have a1:Hid (∀g,(some ⟨J,0,none⟩:Option Addr)=some ⟨g,0,none⟩->(⟨ai,L⟩:Hd).blk≠some g/\g<w5.heap.size):=fun g G=>by
       obtain⟨f1,f2⟩:=M.out g G;have hs:=b.kept.size;refine⟨fun e=>?_,by omega⟩
       rcases b.blk with e2 | ⟨g2,e2,bk⟩
       ·rw[e2]at e;exact f1 e
       ·rw[e2]at e;cases e;omega
      clear m b;go_wp2
      go_roundg (a.length-(k+1))
      case measure=>omega
      case rel=>exact⟨k+1,⟨ai,L⟩,by omega,rfl,by rw[r.out];rfl,by go_num,a7,bl,a1⟩
    ·have e:k=a.length:=by omega
     subst e;have br:¬(a.length:Int)<(a.length:Int):=by omega
     rw[RK]at D q;have bf:=hI (ar.out wr az.out x (QV rfl));generalize O++a.map fh=C at *;generalize kn l T x=la at *
     go_upto_region 17 with (go_at_call 63;refine QU bf.out ?_;rintro e X ⟨rfl,k6⟩)
     have af:=hI (D.out.Vb k6);have E:=af.out.own;have y:Hid ((aB C).n<=900000000):=by show C.length<=_;rw[q.out];omega
     have r:Hid ((aB C).n=c.length+a.length):=q.out;clear k6;go_wp2_with (at_builtin;refine bN X rfl (.tmp 77) (.tmp 79) 61 rfl iS (.string ⟨#[]⟩) 16 F (aB C) [.string la] underlying61 U B A z rfl Rc (by rw[r.out];simp[Act.eval]) E y.out (by omega) (by simp[Act.eval]) rfl (by simp[Value.oneCell']) ?_;intro h5 w5 m b;rw[dr]at m;have W:=hI (af.out.Vl b m);clear m b);have bp:Hid (LL.length=(aB C).n+1):=by show _=_;rw[ac.out,Q0];rfl
     exact QY (v:=.tuple #[.slice h5.ao ((aB C).n+1) h5.cap,.int .i64 0]) (by simp[results,results40,go_sem]) rfl ⟨h5,by rw[bp.out],by rw[ac.out];exact W.out.base R.out⟩
structure Qp(T:List Tk)(S:List Sm)(RS:List ik):Prop where
 len:RS.length=S.length
 yes:∀a,a<S.length->aC (au S a).k=true->(bne (ff RS a).Vc 0)=true/\(ff RS a).label=bG T (au S a)
 no:∀a,a<S.length->aC (au S a).k=false->(bne (ff RS a).Vc 0)=false
theorem kP.find(R:kP i ya)(E:Qp i (aj i) yd)(b:ByteArray):uZ yd b=(gC ya.Vn b).map (bR (aj i)):=by
 have c:((List.range ya.Vn.length).filter (mD ya.Vn b)).map (bR (aj i))=(List.range (aj i).length).filter (Na yd b):=by
  refine ub R.hel.len (fun j p h=>?_) (fun n e=>?_)
  ·unfold Na at h
   simp only[Bool.and_eq_true]at h
   cases a:aC (au (aj i) j).k
   ·rw[E.no j p a]at h;cases h.1
   ·unfold aC at a
    simp only[Bool.or_eq_true]at a;unfold nu
    rcases a with a | a <;> rw[a] <;> simp
  ·obtain⟨s,q,o,g,-⟩:=R.get e
   have d:=R.hel.at_ e;unfold mD Na;rw[q];simp only;have f:=(fS o).2.2.2
   cases a:aC (au (aj i) (bR (aj i) n)).k
   ·rw[E.no _ d a]
    unfold aC at a;rw[f,a];simp
   ·obtain⟨l,m⟩:=E.yes _ d a
    rw[l,m];unfold aC at a;rw[f,a,g];simp
 unfold uZ gC;rw[E.len,<-List.head?_filter,<-c,List.head?_map,List.head?_filter]
theorem Ef(G:oj i ya)(E:Qp i (aj i) yd)(a:ByteArray):(gC ya.Vn a=none->uZ yd a=none)/\∀n,gC ya.Vn a=some n->uZ yd a=some (bR (aj i) n)/\cW ya.Vn n=pL i (aj i) (bR (aj i) n):=by
 have h:=G.r.find E a;refine⟨fun e=>by rw[h,e];rfl,fun n e=>⟨by rw[h,e];rfl,?_⟩⟩
 have b:n<ya.Vn.length:=by
  unfold gC at e;exact Ra.1 (Rz e)
 refine G.r.frame G.f b (fun s c=>?_);unfold gC at e;have:=Tm e;unfold mD at this;rw[c]at this;simp only[Bool.and_eq_true]at this;exact this.2
theorem FC(P:List dj)(a:ByteArray)(t:Tk):∀(f k:Nat) (M:List (List ByteArray)),(bne (po l T H P a t f k M).Vc 0)=true/\(po l T H P a t f k M).label=a:=by
 intro f
 induction f with
 | zero =>
  intro k M;unfold po xt
  repeat' split
  all_goals exact⟨rfl,rfl⟩
 | succ f b =>
  intro k M;unfold po
  repeat' split
  all_goals first
   | exact⟨rfl,rfl⟩
   | exact b _ _
theorem AM(p:jS)(t:Tk):(bne (mR l T H p t).Vc 0)=true/\(mR l T H p t).label=bG l (au T H):=by
 unfold mR
 split
 ·exact⟨rfl,rfl⟩
 ·split
  ·exact⟨rfl,rfl⟩
  ·exact FC l T H _ _ t _ _ _
theorem zf:(aC (au T H).k=true->(bne (oO l T (JJ l T) H).Vc 0)=true/\(oO l T (JJ l T) H).label=bG l (au T H))/\(aC (au T H).k=false->(bne (oO l T (JJ l T) H).Vc 0)=false):=by
 unfold oO aC
 cases a:NB T H
 ·cases b:tY T H
  ·unfold NB at a
   unfold tY at b;rw[a,b];exact⟨(fun h=>by cases h),fun _=>rfl⟩
  ·unfold tY at b
   rw[b,Bool.or_true];refine⟨fun _=>?_,fun h=>by cases h⟩;exact AM l T H _ _
 ·unfold NB at a
  rw[a,Ts];exact⟨fun _=>⟨rfl,rfl⟩,fun h=>by cases h⟩
theorem pv.tell{j:List (jS×Hd)}(h:pv D j ((List.range D.length).map (oO i D (JJ i D))) yd D.length):Qp i D yd:=by
 have l:yd.length=D.length:=by rw[h.len,Ri,Tf]
 have f:∀a,a<D.length->ff ((List.range D.length).map (oO i D (JJ i D))) a=oO i D (JJ i D) a:=fun a b=>by
  unfold ff;rw[QQ,Rq,Uy b];rfl
 have d:∀a,a<D.length->(ff yd a).label=(oO i D (JJ i D) a).label/\(bne (ff yd a).Vc 0)=(bne (oO i D (JJ i D) a).Vc 0):=fun a b=>by
  by_cases c:(ff ((List.range D.length).map (oO i D (JJ i D))) a).Vc=4/\vB D j ((List.range D.length).map (oO i D (JJ i D))) a
  ·have e:=h.yes a b c.1 c.2
   have k:=c.1;rw[f a b]at e k;rw[e];exact⟨rfl,by simp only;rw[k];rfl⟩
  ·rw[h.no a b c,f a b]
   exact⟨rfl,rfl⟩
 refine⟨l,fun a b g=>?_,fun a b g=>?_⟩
 ·obtain⟨m,p⟩:=d a b
  obtain⟨o,n⟩:=(zf i D a).1 g;exact⟨by rw[p];exact o,by rw[m];exact n⟩
 ·rw[(d a b).2];exact(zf i D a).2 g
def uT(RS:List ik):List ik:=RS.filter (fun r=>bne r.Vc 0)
theorem Mq(r:ik):∀u∈jJ r,u.oneCell'=true:=by
 intro u a;simp only[jJ,List.mem_cons,List.not_mem_nil,or_false]at a
 rcases a with rfl | rfl | rfl | rfl | rfl | rfl <;> rfl
theorem JH(a:w.heap[H]?=some (.cells #[v3,.bool false,yu,y7,y8] 85 (0,0))) :
  Calls prog 22 #[.pointer (some ⟨H,0,none⟩)] w fun e b=>e=.returned (.slice none 0 0)/\b=w:=by
 have d:w.cell? ⟨H,1,none⟩=some (.bool false):=by rw[aa a];rfl
 have c:=ae a;clear a;go_enter func22,ntmps22;go_wp2;go_ret;exact⟨rfl,rfl⟩
def M4(RS:List ik)(w:World)(e:Ending)(w':World):Prop:=∃h',e=.returned (.slice h'.ao (uT RS).length h'.cap)/\gw w w' h' (fM (uT RS))
theorem JG(y:w.heap[f]?=some (.cells #[yu,.bool true,y7,y8,.slice z6 d.length H] 85 (0,0)))(O:cm w z6 6 jJ d)(hl:d.length<=100000) :
  Calls prog 22 #[.pointer (some ⟨f,0,none⟩)] w fun e T=>M4 d w e T:=by
 have v1:w.cell? ⟨f,1,none⟩=some (.bool true):=by rw[aa y];rfl
 have Q:=ae y;have S:=hI y;have HS:=(show Hid (cm w z6 6 jJ d) from O);have G:Hid (gw w w ⟨none,0⟩ (fM (uT (d.take 0)))):=⟨QZ _ _ _ _,(by intro k R;cases R),ab.refl _ _⟩;obtain⟨iR,F,q,m,s⟩:=Re Gp;clear y O;go_enter func22,ntmps22;go_wp2;clear v1 Q
 go_loopg [3,4] d.length (fun g o i wr=>∃(k:Nat) (c:Hd) (L:List ik),k<=d.length/\g=d.length-k/\o=.slice c.ao L.length c.cap/\i=.int .i64 k/\L.length<=k/\Hid (L=uT (d.take k))/\Hid (gw w wr c (fM L)))
 case atStart=>exact⟨0,⟨none,0⟩,[],by omega,rfl,rfl,rfl,QR _,rfl,G⟩
 case round =>
  obtain⟨k,c,L,R,hg,rfl,rfl,V,z,l⟩:=hrel;have u:=hI (l.out.kept.get S.out (by simp));have v4:wr.cell? ⟨f,4,none⟩=some (.slice z6 d.length H):=by rw[aa u.out];rfl
  have Q:=ae u.out
  by_cases t:k<d.length
  ·have ac:(k:Int)<(d.length:Int):=by omega
   obtain⟨g0,rfl,X,b⟩:=(cm.Vb HS.out l.out.kept) k _ (QP t);have N:=b 0 _ rfl;have Z:=b 1 _ rfl;have c2:=b 2 _ rfl;have U:=b 3 _ rfl;have W:=b 4 _ rfl;have c5:=b 5 _ rfl;rw[Tg]at N
   have a:Hid (uT (d.take (k+1))=L++(if(bne d[k].Vc 0)=true then [d[k]] else [])):=by
    show _=_
    rw[z.out];unfold uT;rw[Td,QP t,RV]
    congr 1
    cases h:(bne d[k].Vc 0) <;> simp[h]
   clear b;generalize d[k]=r at *;obtain⟨E,x,J,D,K,B⟩:=r;simp only at a N Z c2 U W c5
   cases P:(x != 0)
   ·have I:Hid (L=uT (d.take (k+1))):=by show _=_;rw[a.out,P,QT (by simp),Rl]
    go_wp2
    go_roundg (d.length-(k+1))
    case measure=>omega
    case rel=>exact⟨k+1,c,L,by omega,rfl,rfl,by go_num,by omega,I,l⟩
   ·have I:Hid (L++[⟨E,x,J,D,K,B⟩]=uT (d.take (k+1))):=by show _=_;rw[a.out,P,QW rfl]
    have A:=l.out.own;have C:Hid ((fM L).n<=900000000):=by show L.length<=_;omega
    have p:Hid ((fM L).n=L.length):=rfl;go_wp2_with (at_builtin;refine bN wr rfl (.tmp 28) (.tmp 36) 54 rfl iR (.agg #[.string ⟨#[]⟩,.int .i64 0,.int .i64 0,.string ⟨#[]⟩,.int .i64 0,.int .i64 0]) 64 c (fM L) (jJ ⟨E,x,J,D,K,B⟩) underlying54 F q m s rfl (show 0<6 by omega) (by rw[p.out];simp[Act.eval]) A C.out (by omega) (by simp[Act.eval]) rfl (Mq _) ?_;intro h5 w5 j v;rw[fM,gM]at j;have M:=hI (l.out.Vl v j);clear j v)
    go_roundg (d.length-(k+1))
    case measure=>omega
    case rel=>exact⟨k+1,h5,L++[(⟨E,x,J,D,K,B⟩:ik)],by omega,rfl,by rw[p.out,Q0];rfl,by go_num,by rw[Q0];show _+1<=_;omega,I,M⟩
  ·have e:k=d.length:=by omega
   subst e;have Y:¬(d.length:Int)<(d.length:Int):=by omega
   rw[RK]at z;go_wp2;go_ret;exact⟨c,by rw[<-z.out];rfl,by rw[<-z.out];exact l.out⟩
section
variable {T:List Tk}
theorem zS(h:dC T)(i:Nat):(tS T i).size<=1024:=by
 unfold tS;rw[QQ]
 cases e:T[i]? with
 | none=>show(0:Nat)<=_;omega
 | some t=>exact(h t (R4 e)).1
theorem KO{L:List Tk}(h:z3∈ke L):∃t∈L,t.s=z3:=by
 induction L with
 | nil=>cases h
 | cons t r c =>
  rw[ke]at h
  split at h
  ·cases h
  ·rcases Rj.1 h with e | e
   ·exact⟨t,Rn,e.symm⟩
   ·obtain⟨u,a,b⟩:=c e
    exact⟨u,Rm _ a,b⟩
theorem Bh(h:dC T)(i:Nat):∀x∈bu T i,x.size<=100000:=fun x c=>by
 obtain⟨t,a,b⟩:=KO c;have:=(h t (List.mem_of_mem_drop a)).1;rw[b]at this;omega
theorem yL(h:dC T)(s:Sm):(bG T s).size<=100000:=by
 unfold bG
 split
 ·have:=zS h s.a;omega
 ·show(0:Nat)<=_;omega
theorem ND(h:dC T)(j:Nat)(c:j<(aj T).length):(au (aj T) j).k.size<=100000:=by
 have b:=((fw T).s j c).1.k;have d:=zS h (au (aj T) j).a;have f:=zS h ((au (aj T) j).a+1);unfold ew at b
 split at b
 ·have e:=congrArg Prod.fst b
  replace e:(au (aj T) j).k=tS T (au (aj T) j).a:=e;rw[e];omega
 ·have e:=congrArg Prod.fst b
  replace e:(au (aj T) j).k=tS T ((au (aj T) j).a+1):=e;rw[e];omega
theorem rZ(h:aC z3=true):bS z3=false:=by
 unfold aC at h;rw[RB]at h
 rcases h with h | h <;> exact fX h (by decide)
theorem zE(h:aG z3=true):bS z3=false:=by
 unfold aG at h;rw[RB]at h
 rcases h with h | h <;> exact fX h (by decide)
theorem Cb(h:y∈bW T D b):y<b/\aG (au D y).k=true:=by
 unfold bW at h;obtain⟨c,a⟩:=RH.1 h;refine⟨Ra.1 c,?_⟩;unfold sJ at a;unfold aG
 cases d:((au D y).k.toList == [36,102])
 ·cases e:((au D y).k.toList == [36,101])
  ·rw[d,e]at a;simp at a
  ·simp
 ·simp
theorem IR(a:List Nat)(k:Nat):(fO T T a k).length<=a.length:=by
 unfold fO;rw[Ri];refine Q3 (Sc _ _) ?_;rw[RQ];omega
theorem yP(h:dC T)(S:List Sm)(a:List Nat)(k i:Nat):((fO T S a k).getD i ⟨#[]⟩).size<=100000:=by
 rw[QQ];unfold fO;rw[Rq]
 cases ((a.take k).filter (fun j=>((au S j).k.toList == [36,102])))[i]? with
 | none=>show(0:Nat)<=_;omega
 | some j=>have:=zS h ((au S j).h+1);show(tS T ((au S j).h+1)).size<=_;omega
theorem EO(h:dC T)(S:List Sm)(a:Nat):∀p∈fH T S a,p.1.size<=100000/\p.2.size<=100000:=by
 intro p b;unfold fH lg at b;obtain⟨i,-,c⟩:=TT.1 b;unfold jY at c;obtain⟨j,-,rfl⟩:=Si.1 c;exact⟨yP h S _ _ i,yP h S _ _ j⟩
theorem EP(c:H<=10000):(fH T T H).length<=100000000:=by
 unfold fH;have a:=IR (T:=T) T (bW T T H) (bW T T H).length;have b:=kj T T H;refine Q3 (yX T T H _ (by omega) _) ?_;omega
end
theorem Iq(u:w.heap[z2]?=some (.cells #[y7,.bool true,.pointer (some ⟨v,0,none⟩),y8,.slice z6 d.length H] 85 (0,0)))(D:cm w z6 6 jJ d)(y:fz w v l y6 zt (aj l) x7 f)(n:l.length<=10000)(p:dC l)(c:∀q,q<l.length->bh l (aj l) q=0)(s:Qp l (aj l) d)(i:uZ d z7=some x) :
  Calls prog 40 #[.pointer (some ⟨z2,0,none⟩),.string z7] w fun e C=>Km (pL l (aj l) x) w e C:=by
 have G:(aj l).length<=l.length:=oG l l.length
 have B:x<d.length:=by
  unfold uZ at i;exact Ra.1 (Rz i)
 have o:x<(aj l).length:=by rw[<-s.len];exact B
 have t:aC (au (aj l) x).k=true:=by
  cases e:aC (au (aj l) x).k
  ·unfold uZ at i
   have m:=Tm i;unfold Na at m;rw[s.no x o e]at m
   cases m
  ·rfl
 have b:∀j,j<(aj l).length->bS (au (aj l) j).k=false->cU l (au (aj l) j).h:=fun j g e=>qz (oQ (fw l) c j g e)
 have A:=J9 l n c x (by omega);have r:=(J9 l n c _ (QR _)).ok.a;have z:∀j (g:j<(aj l).length),au (aj l) j=(aj l)[j]:=fun j g=>by unfold au;rw[QQ,QP g];rfl
 refine Ee z2 v x z7 l y6 zt (aj l) x7 f d z6 H y7 y8 w u D (by rw[s.len];omega) y A o (b x o (rZ t)) i (fun F k j g=>?_) (EO p _ _) (Q3 (kj _ _ _) (by omega)) (EP _ _ (by omega))
 have a:j<(aj l).length/\bS (au (aj l) j).k=false:=by
  rcases g with g | rfl
  ·obtain⟨m,E⟩:=Cb g
   exact⟨by omega,zE E⟩
  ·exact⟨o,rZ t⟩
 exact IG z2 v j l y6 zt (aj l) x7 f y7 _ y8 _ F (k.get u (by simp)) (y.Vb k) a.1 n (by rw[<-z j a.1];exact b j a.1 a.2) (by rw[<-z j a.1];exact r j a.1) (yL p _) (ND p j a.1) (Bh p _) (Q3 (kg l _) n)
theorem yC(c:Int)(h:(c==0)=false)(w:World)(d:Calls prog 61 #[.pointer (some ⟨H,0,none⟩),.string I] w fun e b=>e=.returned (.tuple #[.int .i64 0,.int .i64 c])/\b=w) :
  Calls prog 40 #[.pointer (some ⟨H,0,none⟩),.string I] w fun e b=>e=.returned (.tuple #[.slice none 0 0,.int .i64 c])/\b=w:=by
 have f:=hI d;have g:(c != 0)=true:=by unfold bne;rw[h];rfl
 clear d;go_enter func40,ntmps40;go_wp2_with (go_at_call 61;refine QU f.out ?_;rintro e i ⟨rfl,a⟩;rw[a];clear a);exact QY (v:=.tuple #[.slice none 0 0,.int .i64 c]) (by simp[results,results40,go_sem]) rfl ⟨rfl,rfl⟩
def wD(bo:Option Nat):Option Addr:=bo.map (fun b=>⟨b,0,none⟩)
def ie(lo hi:Nat):List Nat:=List.range' lo (hi-lo)
theorem ng:L∈ie b y ↔ b<=L/\L<y:=by
 unfold ie;rw[List.mem_range'_1];omega
def PV(l:List St)(H:Nat->Hd)(q:Nat):Prop:=(H 6).blk=some q∨∃i s,l[i]?=some s/\((H (10+2*i)).blk=some q∨(H (11+2*i)).blk=some q)
theorem PV.inH(h:PV yy yv b):f9 yv b:=by
 rcases h with h | ⟨i,s,-,h | h⟩
 ·exact⟨6,h⟩
 ·exact⟨_,h⟩
 ·exact⟨_,h⟩
theorem gj.ltU(h:gj S yy yv)(u:PV yy yv b):b<S.heap.size:=by
 rcases u with u | ⟨i,s,a,u | u⟩
 ·exact h.own.lt u
 ·exact(h.syms i s a).lt u
 ·exact(h.prfs i s a).lt u
theorem gj.keptU(h:gj S yy yv)(k:ab ys S o)(c:∀x,PV yy yv x->x∉ys):gj o yy yv :=
 ⟨h.own.Vg (fun x a=>k.block x (h.own.lt a) (c x (Q1 a))),fun i s b=>(h.syms i s b).Vg (fun x a=>k.block x ((h.syms i s b).lt a) (c x (QV ⟨i,s,b,Q1 a⟩))),fun i s b=>(h.prfs i s b).Vg (fun x a=>k.block x ((h.prfs i s b).lt a) (c x (QV ⟨i,s,b,QV a⟩)))⟩
def Qt(w:World)(x:Nat)(fs:Fs)(lo hi:Nat):Option Nat->Prop
 | none=>jR w x fs
 | some k=>(k<fs.length/\((fE fs k).1==0)=true)/\∃H g,nI w x fs (bK fs k).2.2.Vn H g/\(lo<=g/\g<hi)/\∀q,PV (bK fs k).2.2.Vn H q->lo<=q/\q<hi
structure dE(w:World)(x:Nat)(fs:Fs)(lo hi:Nat)(st:Option Nat):Prop where
 z:hi<=w.heap.size
 s:Qt w x fs lo hi st
def Qr(w:World)(v:Nat)(fs:Fs)(h:Hd)(lo hi:Nat):Option Nat->Prop
 | none=>∃p2 p3 p4,fB w v fs h false p2 p3 p4
 | some k=>xF w v fs h (cC fs k).1 lo hi
structure dn(w:World)(v:Nat)(fs:Fs)(h:Hd)(lo hi:Nat)(st:Option Nat):Prop where
 z:hi<=w.heap.size
 s:Qr w v fs h lo hi st
theorem dE.anyS(c:dE S b a y L M):li S b a:=by
 have:=c.s
 cases M with
 | none=>exact jR.anyR this
 | some k=>obtain⟨-,H,g,h,-⟩:=this;exact h.anyR
theorem dn.anyS(d:dn S b a g y L M):∃e h c f,fB S b a g e h c f:=by
 have:=d.s
 cases M with
 | none=>exact⟨false,this⟩
 | some k=>exact⟨true,xF.rvAt this⟩
theorem dE.kept(d:dE S b a y L M)(k:ab ys S o)(m:∀q,q∈b :: ie y L->q∉ys):dE o b a y L M:=by
 refine⟨Q3 d.z k.size,?_⟩;have i:=m b Rn;have l:∀q,y<=q/\q<L->q∉ys:=fun q c=>m q (Rm _ (ng.2 c))
 have:=d.s
 cases M with
 | none=>exact jR.kept this k i
 | some j =>
  obtain⟨r,H,g,h,e,f⟩:=this;obtain⟨t,u,n,p⟩:=h.ver;exact⟨r,H,g,⟨⟨t,u,n,bi.kept p k i⟩,h.Vn.keptU k (fun q c=>l q (f q c)),k.get h.arr (l g e),h.far⟩,e,f⟩
theorem dn.kept(d:dn S b a g y L M)(k:ab ys S o)(c:∀q,q∈b :: (g.blk.toList++ie y L)->q∉ys):dn o b a g y L M:=by
 refine⟨Q3 d.z k.size,?_⟩;have e:=c b Rn;have f:∀q,g.blk=some q->q∉ys:=fun q m=>c q (Rm _ (RN _ (by rw[m];simp)))
 have t:∀q,y<=q->q<L->q∉ys:=fun q i l=>c q (Rm _ (Se _ (ng.2 ⟨i,l⟩)))
 have:=d.s
 cases M with
 | none=>obtain⟨p,h,n,r⟩:=this;exact⟨p,h,n,r.keptS k e f⟩
 | some j=>exact xF.kept this k e f t
theorem dn.Vb(c:dn S b a g y L M)(k:ab [] S o):dn o b a g y L M:=c.kept k (fun _ _ d=>by cases d)
theorem dE.Vb(c:dE S b a y L M)(k:ab [] S o):dE o b a y L M:=c.kept k (fun _ _ d=>by cases d)
theorem dE.lt(c:dE S b a y L M)(q:Nat)(d:q∈b :: ie y L):q<S.heap.size:=by
 rcases Rj.1 d with e | e
 ·rw[e];exact c.anyS.lt
 ·have:=ng.1 e;have:=c.z;omega
theorem dn.lt{h:Hd}(c:dn S b a h y L M)(q:Nat)(f:q∈b :: (h.blk.toList++ie y L)):q<S.heap.size:=by
 obtain⟨i,k,g,j,r⟩:=c.anyS
 rcases Rj.1 f with e | e
 ·rw[e];exact ae r.d
 ·rcases Rr.1 e with e | e
  ·exact r.own.lt (aN e)
  ·have:=ng.1 e;have:=c.z;omega
theorem dE.same(e:dE S b a y L M):∃d m n l,iI S b a d m n l/\∀c,iI c b a d m n l->ab [b] S c->dE c b a y L M:=by
 have h:=e.s
 cases M with
 | none=>exact⟨_,_,_,_,h,fun c f k=>⟨Q3 e.z k.size,f⟩⟩
 | some j =>
  obtain⟨x,H,g,r,w,p⟩:=h;obtain⟨v,t,o,f⟩:=r.ver;refine⟨_,_,_,_,f,fun c i k=>⟨Q3 e.z k.size,x,H,g,⟨⟨v,t,o,i⟩,r.Vn.keptU k (fun q u=>by simp;exact r.far.2 q u.inH),k.get r.arr (by simp;exact Ne.symm r.far.1),r.far⟩,w,p⟩⟩
def mb(c:Int)(st:Option Nat):Option Nat:=if c=0 then none else st
theorem qe(h:x5=0):mb x5 M=none:=QW h
theorem rX(h:x5≠0):mb x5 M=M:=QT h
theorem GD(h:(fc a z3 y9).1≠0):(fc a z3 y9).2=a:=by
 unfold fc at h ⊢
 split
 ·rfl
 ·next d =>
  rw[QT d]at h
  split
  ·next b=>rw[QW b]at h;exact absurd rfl h
  ·next b =>
   rw[QT b]at h
   split
   ·rfl
   ·next c=>rw[QT c]at h;exact absurd rfl h
theorem NW(h:dE w v n f H N)(i:y4.size<=1073741824)(g:y5.size<=4294967296) :
  Calls prog 14 #[.pointer (some ⟨v,0,none⟩),.string y4,.string y5] w fun e b=>e=.returned (.int .i64 (fc n y4 y5).1)/\dE b v (fc n y4 y5).2 f H (mb (fc n y4 y5).1 N)/\ab [v] w b:=by
 by_cases a:(fc n y4 y5).1=0
 ·refine(MS v y4 y5 n w h.anyS i g).mono (fun e b q=>⟨q.1,?_,q.2.2.2⟩)
  rw[qe a];exact⟨Q3 h.z q.2.2.2.size,q.2.2.1 a⟩
 ·obtain⟨c,l,o,m,j,k⟩:=h.same
  refine(Oi v y4 y5 n c l o m w j i g a).mono (fun e b q=>⟨q.1,?_,q.2.2⟩);have d:=q.2.1;rw[GD a]at d ⊢;rw[rX a];exact k b d q.2.2
theorem CL(h:dE w v x6 f H N)(p:kR w y6 n)(d:ld n) :
  Calls prog 30 #[.pointer (some ⟨v,0,none⟩),.slice y6 n.length zt] w fun e b=>e=.returned (.int .i64 (dy n))/\dE b v (jt x6 n) f H (mb (dy n) N)/\ab [v] w b:=by
 obtain⟨c,k,o,m,j,l⟩:=h.same;refine(J8 v x6 n c k o m y6 zt w j p d).mono (fun e b q=>⟨q.1,?_,q.2.2⟩);obtain⟨g,i⟩:=q.2.1
 by_cases a:dy n=0
 ·rw[qe a]
  exact⟨Q3 h.z q.2.2.size,g a⟩
 ·have:=i a
  rw[pM rfl a]at this ⊢;rw[rX a];exact l b this q.2.2
theorem Ni(a:dn w v n z4 f H N)(p:y4.size<=1073741824)(l:y5.size<=4294967296) :
  Calls prog 15 #[.pointer (some ⟨v,0,none⟩),.string y4,.string y5] w fun e d=>e=.returned (.int .i64 (fc n y4 y5).1)/\∃c,dn d v (fc n y4 y5).2 c f H (mb (fc n y4 y5).1 N)/\ab (v :: z4.blk.toList) w d/\∀q,c.blk=some q->z4.blk=some q∨w.heap.size<=q:=by
 obtain⟨i,m,o,j,r⟩:=a.anyS;refine(Jm v n z4 i m o j y4 y5 w r p l).mono (fun e d q=>⟨q.1,?_⟩)
 by_cases b:(fc n y4 y5).1=0
 ·obtain⟨c,t,g⟩:=q.2.1 b
  rw[qe b];refine⟨c,⟨Q3 a.z g.kept.size,_,_,_,t⟩,g.kept,fun q h=>?_⟩
  rcases g.blk with e | ⟨u,e,s⟩
  ·exact Q1 (by rw[<-e];exact h)
  ·rw[e]at h;cases h;exact QV s
 ·have k:=q.2.2 b
  rw[rX b,GD b];exact⟨z4,a.Vb k,k.mono (by simp),fun _ e=>Q1 e⟩
theorem Bs(d:Option Addr)(b:Nat)(w:World)(a:dn w v x6 z4 f H N)(s:mV w d b n)(y:d=none->n.length=0/\b=0)(A:∀m,d=some m->∃g,m=⟨g,0,none⟩)(i:∀j,j<n.length->(aE n j).size<=1073741824/\(ak n j).size<=1073741824) :
  Calls prog 31 #[.pointer (some ⟨v,0,none⟩),.slice d n.length b] w fun e l=>e=.returned (.int .i64 (dy n))/\∃h,dn l v (jt x6 n) h f H (mb (dy n) N)/\ab (v :: z4.blk.toList) w l/\∀q,h.blk=some q->z4.blk=some q∨w.heap.size<=q:=by
 obtain⟨o,u,x,p,r⟩:=a.anyS;refine(Ev v x6 n z4 o u x p d b w r s y A i).mono (fun e l q=>⟨q.1,?_⟩)
 by_cases c:dy n=0
 ·obtain⟨h,B,g,t⟩:=q.2.1 c
  rw[qe c];exact⟨h,⟨Q3 a.z g.size,_,_,_,B⟩,g,t⟩
 ·have k:=q.2.2 c
  rw[rX c,pM rfl c];exact⟨z4,a.Vb k,k.mono (by simp),fun _ e=>Q1 e⟩
theorem Bz(c:n.length<=4)(b:∀j,j<n.length->(ak n j).size<=1024)(d:H<n.length)(h:((fE n H).1==0)=true):fE n H=cY:=by
 have f:=h;unfold fE at h
 split at h
 ·next a =>
  have e:(Lj (yp (cC n H).1 (aj (cC n H).1))).1=(yp (cC n H).1 (aj (cC n H).1)).rule:=rfl;rw[e,a]at h
  cases h
 ·next a =>
  exact(v8 n H c b d (by cases q:((yp (cC n H).1 (aj (cC n H).1)).rule==0);exact absurd q a;rfl) h).1
def nH(z lo hi lo1 hi1:Nat):Prop:=(lo1=lo/\hi1=hi)∨z<=lo1
theorem nH.mem{z lo hi:Nat}(h:nH z lo hi b y)(a:L∈ie b y):L∈ie lo hi∨z<=L:=by
 rcases h with ⟨rfl,rfl⟩ | h
 ·exact Q1 a
 ·exact QV (Q3 h (ng.1 a).1)
def QH(w:World)(x:Nat)(fs:Fs)(lo hi:Nat)(f:pA)(q:Int)(st:Option Nat)(e:Ending)(w':World):Prop :=
 e=.returned (.tuple #[gU f,.int .i64 q])/\(∃lo1 hi1,dE w' x fs lo1 hi1 st/\nH w.heap.size lo hi lo1 hi1)/\ab [x] w w'
def QG(w:World)(m:Nat)(fs:Fs)(h:Hd)(lo hi:Nat)(f:pA)(q:Int)(st:Option Nat)(e:Ending)(w':World):Prop :=
 e=.returned (.tuple #[gU f,.int .i64 q])/\(∃lo1 hi1,dn w' m fs h lo1 hi1 st/\nH w.heap.size lo hi lo1 hi1)/\ab [m] w w'
theorem KP(K:dE w z2 n x zt N)(o:n.length<=4)(h:∀j,j<n.length->(ak n j).size<=1024) :
  ∃(M:pA) (q:Int) (p:Option Nat),Calls prog 36 #[.pointer (some ⟨z2,0,none⟩),.string I] w (fun e c=>QH w z2 n x zt M q p e c) /\
   ∀a,dn a v n z4 f H N->Calls prog 37 #[.pointer (some ⟨v,0,none⟩),.string I] a (fun e c=>QG a v n z4 f H M q p e c):=by
 rcases pI I n with t | ⟨k,s,t⟩
 ·obtain⟨D,U,Z,S,T,V⟩:=K.same
  refine⟨cY,5,N,(Dn z2 n I D U Z S w T (by rw[t];decide)).mono (fun e c q=>⟨q.1,⟨x,zt,V c q.2.1 q.2.2,Q1 ⟨rfl,rfl⟩⟩,q.2.2⟩),fun a d=>?_⟩;obtain⟨B,F,G,C,r⟩:=d.anyS;exact(xZ v n z4 B F G C I a r (by rw[t];decide)).mono (fun e c q=>⟨q.1,⟨f,H,d.Vb q.2,Q1 ⟨rfl,rfl⟩⟩,q.2.mono (by simp)⟩)
 ·obtain⟨O,-⟩:=v7 n k o h s
  have y:=FD z2 k n I w K.anyS t s h
  have u:∀a,dn a v n z4 f H N->Calls prog 37 #[.pointer (some ⟨v,0,none⟩),.string I] a fun e c=>Qu n k v z4 (fE n k) (if((fE n k).1==0)=true then 0 else 6) a e c:=fun a d=>by
   obtain⟨B,F,G,C,r⟩:=d.anyS;exact AQ v k n z4 B F G C I a r t s h
  cases m:((fE n k).1==0)
  ·refine⟨fE n k,6,none,y.mono (fun e c q=>?_),fun a d=>(u a d).mono (fun e c q=>?_)⟩
   ·obtain⟨i,d⟩:=q
    rw[O,m,QT (by simp)]at i;exact⟨i.1,⟨x,zt,⟨Q3 K.z d.size,i.2⟩,Q1 ⟨rfl,rfl⟩⟩,d⟩
   ·rw[m,QT (by simp)]at q
    obtain⟨E,⟨-,W⟩,A⟩:=q;exact⟨E,⟨f,H,⟨Q3 d.z A.size,W (by decide)⟩,Q1 ⟨rfl,rfl⟩⟩,A⟩
  ·refine⟨fE n k,0,some k,y.mono (fun e c q=>?_),fun a d=>(u a d).mono (fun e c q=>?_)⟩
   ·obtain⟨i,d⟩:=q
    rw[O,m,QW rfl]at i;obtain⟨i,R,g,J,X,Y⟩:=i;exact⟨by rw[i,Bz n k o h s m],⟨w.heap.size,c.heap.size,⟨QR _,⟨s,m⟩,R,g,J,⟨X,ae J.arr⟩,fun b L=>⟨Y b L.inH,J.Vn.ltU L⟩⟩,QV (QR _)⟩,d⟩
   ·rw[m,QW rfl]at q
    obtain⟨E,⟨Q,-⟩,A⟩:=q;obtain⟨l,P,r⟩:=Q rfl;exact⟨E,⟨l,c.heap.size,⟨QR _,r⟩,QV P⟩,A⟩
def vG(fs:Fs)(st:Option Nat)(lab:ByteArray):List ByteArray×Int :=
 match st with
 | none=>([],7)
 | some k=>match gC (bK fs k).2.2.Vn lab with
  | none=>([],8)
  | some n=>(cW (bK fs k).2.2.Vn n,0)
structure vF(w:World)(bo:Option Nat)(L:List ByteArray):Prop where
 nil:bo=none ↔ L=[]
 blk:∀b,bo=some b->w.heap[b]?=some (.cells (cN L).toArray 9 (0,0))
theorem Do(h:jR w v n) :
  Calls prog 39 #[.pointer (some ⟨v,0,none⟩),.string I] w fun e a=>e=.returned (.tuple #[.slice none 0 0,.int .i64 7])/\ab [] w a:=by
 have b:Hid (Calls prog 59 #[.pointer (some ⟨v,0,none⟩),.string I] w fun e a=>e=.returned (.tuple #[.int .i64 0,.int .i64 7])/\ab [] w a):=by
  show Calls _ _ _ _ _
  obtain⟨g,-⟩:=iI.cells h;have c:=bi.lt h;clear h;go_enter func59,ntmps59;go_wp2;go_ret2;exact⟨rfl,ab.refl _ _⟩
 clear h;go_enter func39,ntmps39;go_wp2_with (go_at_call 59;refine QU b.out ?_;rintro e f ⟨rfl,d⟩);go_ret2;exact⟨rfl,d⟩
theorem oj.szs(G:oj i ya)(b:dC i):A7 ya.Vn:=fun s c _=>by
 obtain⟨n,a,rfl⟩:=R0 c;obtain⟨g,e,-,d,f⟩:=G.r.get a;rw[QP a]at e
 cases e
 exact⟨by rw[d];exact yL b _,by rw[f];exact Bh b _⟩
theorem LE(l:List St)(n:Nat):cW l n≠[]:=fun e=>by have:=t8 l n;rw[e]at this;simp at this
def QC(L:List ByteArray)(c:Int)(w:World)(e:Ending)(w':World):Prop:=∃bo,e=.returned (.tuple #[.slice (wD bo) L.length L.length,.int .i64 c])/\vF w' bo L/\(∀b,bo=some b->w.heap.size<=b)/\ab [] w w'
def Qy(L:List ByteArray)(c:Int)(w:World)(e:Ending)(w':World):Prop:=∃h',e=.returned (.tuple #[.slice h'.ao L.length h'.cap,.int .i64 c])/\gw w w' h' (aB L)
theorem zX(d:a.length<=4)(c:∀j,j<a.length->(ak a j).size<=1024)(i:b<a.length)(k:((fE a b).1==0)=true):oj (cC a b).1 (bK a b).2.2/\(cC a b).1.length<=10000/\dC (cC a b).1:=by
 obtain⟨f,e⟩:=v7 a b d c i;obtain⟨h,g⟩:=e (by rw[f];exact k);exact⟨h,g,BG a b (sD c)⟩
theorem Jk(D:dE w v n f H N)(i:n.length<=4)(a:∀j,j<n.length->(ak n j).size<=1024) :
  Calls prog 39 #[.pointer (some ⟨v,0,none⟩),.string I] w fun e h=>QC (vG n N I).1 (vG n N I).2 w e h:=by
 have o:=D.s
 cases N with
 | none=>exact(Do v n I w o).mono (fun e h q=>⟨none,q.1,⟨⟨fun _=>rfl,fun _=>rfl⟩,fun b e=>by cases e⟩,(fun b e=>by cases e),q.2⟩)
 | some k =>
  obtain⟨⟨z,C⟩,u,g,r,-⟩:=o;obtain⟨G,-,A⟩:=zX i a z C;refine(FE v n _ u g I w r (wT n a k).ok (G.szs A)).mono (fun e h q=>?_);obtain⟨m,d⟩:=q;unfold vG;simp only
  cases p:gC (bK n k).2.2.Vn I with
  | none =>
   rw[p]at d;exact⟨none,d,⟨⟨fun _=>rfl,fun _=>rfl⟩,fun b e=>by cases e⟩,(fun b e=>by cases e),m⟩
  | some l =>
   rw[p]at d;obtain⟨t,x,y,B⟩:=d;have c:h.heap[t]?=some (.cells (cN (pk (cW (bK n k).2.2.Vn l) (cW (bK n k).2.2.Vn l).length)).toArray 9 (0,0)):=y;rw[Je]at c;exact⟨some t,x,⟨⟨(fun e=>by cases e),fun e=>absurd e (LE _ _)⟩,fun b e=>by cases e;exact c⟩,(fun b e=>by cases e;exact B),m⟩
theorem Gy(L:List ByteArray)(a:L=[]):gw w w ⟨none,0⟩ (aB L):=by subst a;exact⟨QZ _ _ _ _,(by intro k b;cases b),ab.refl _ _⟩
theorem Ia(B:dn w v n z4 f H N)(m:∀k,N=some k->k<n.length/\((fE n k).1==0)=true)(i:n.length<=4)(h:∀j,j<n.length->(ak n j).size<=1024) :
  Calls prog 40 #[.pointer (some ⟨v,0,none⟩),.string I] w fun e c=>Qy (vG n N I).1 (vG n N I).2 w e c:=by
 have t:=B.s
 cases N with
 | none =>
  obtain⟨F,J,D,r⟩:=t;refine(yC v I 7 (by decide) w (Ky v I _ F J D w r.d)).mono (fun e c q=>⟨⟨none,0⟩,q.1,?_⟩);rw[q.2];exact Gy w _ rfl
 | some k =>
  obtain⟨M,S⟩:=m k rfl;obtain⟨G,L,O⟩:=zX i h M S;obtain⟨b,K,Q,R,E,V,W,y,g,r⟩:=t;have l:=r.fin.tell;have a:=aw.srcG (f:=jJ) r.s2 (fun _=>rfl);have U:(aj (cC n k).1).length<=(cC n k).1.length:=oG _ _;obtain⟨P,T⟩:=Ef G l I;unfold vG;simp only
  cases x:gC (bK n k).2.2.Vn I with
  | none =>
   have o:=P x;refine(yC v I 8 (by decide) w ((Bb v I y g.ao g.cap _ _ _ w r.rv.d a (by rw[l.len];omega)).mono (fun e c q=>?_))).mono (fun e c q=>⟨⟨none,0⟩,q.1,?_⟩)
   ·obtain⟨p,A⟩:=q
    rw[o]at p;exact⟨p,A⟩
   ·rw[q.2];exact Gy w _ rfl
  | some C =>
   obtain⟨o,z⟩:=T C x;simp only;rw[z];exact Iq v b _ I _ K Q R E y g.ao g.cap _ _ w r.rv.d a r.db L O G.u l o
def QD(w:World)(e:Ending)(w':World):Prop:=∃(L:List ik) (h':Hd),e=.returned (.slice h'.ao L.length h'.cap)/\gw w w' h' (fM L)/\L.length<=100000
theorem K0(u:dn w v n z4 f H N)(l:∀k,N=some k->k<n.length/\((fE n k).1==0)=true)(h:n.length<=4)(c:∀j,j<n.length->(ak n j).size<=1024) :
  Calls prog 22 #[.pointer (some ⟨v,0,none⟩)] w fun e g=>QD w e g:=by
 have o:=u.s
 cases N with
 | none =>
  obtain⟨z,A,x,r⟩:=o;refine(JH v _ z A x w r.d).mono (fun e g q=>⟨[],⟨none,0⟩,q.1,?_,by simp⟩);rw[q.2];exact⟨QZ _ _ _ _,(by intro k i;cases i),ab.refl _ _⟩
 | some k =>
  obtain⟨i,C⟩:=l k rfl;obtain⟨G,L,M⟩:=zX h c i C;obtain⟨b,K,O,P,J,F,I,p,m,r⟩:=o;have B:=r.fin.tell;have E:(aj (cC n k).1).length<=(cC n k).1.length:=oG _ _;have a:p.length<=100000:=by rw[B.len];omega
  refine(JG v p m.ao m.cap _ _ _ w r.rv.d (aw.srcG (f:=jJ) r.s2 (fun _=>rfl)) a).mono (fun e g q=>?_);obtain⟨D,y,t⟩:=q;exact⟨_,D,y,t,Q3 (Sc _ _) a⟩
def rB(b t:Nat)(c:List Value):It where
 B:=[b]
 P w:=w.heap[b]?=some (.cells c.toArray t (0,0))
 lt w h q hq:=by rw[Q9.1 hq];exact ae h
 ok S w w' h k hb:=k.get h (hb b (by simp))
def ce(h:Hd)(r:dN):It where
 B:=h.blk.toList
 P w:=aw w h r
 lt w o q hq:=o.lt (aN hq)
 ok S w w' o k hb:=o.Vg (fun q hq=>k.block q (o.lt hq) (hb q (by rw[hq];simp)))
def O6(x:Nat)(fs:Fs)(lo hi:Nat)(st:Option Nat):It where
 B:=x :: ie lo hi
 P w:=dE w x fs lo hi st
 lt _ a q hq:=a.lt q hq
 ok _ _ _ a k hb:=a.kept k hb
def O4(v:Nat)(h:Hd)(fs:Fs)(lo hi:Nat)(st:Option Nat):It where
 B:=v :: (h.blk.toList++ie lo hi)
 P w:=dn w v fs h lo hi st
 lt _ a q hq:=a.lt q hq
 ok _ _ _ a k hb:=a.kept k hb
def zw(fs:Fs):Prop:=∀j,j<fs.length->(ak fs j).size<=1024
structure iG(w:World)(bo:Option Nat)(fs:Fs):Prop where
 nil:bo=none->fs=[]
 blk:∀b,bo=some b->w.heap[b]?=some (.cells (qK fs).toArray 68 (0,0))
def uI(bo:Option Nat)(fs:Fs):It where
 B:=bo.toList
 P w:=iG w bo fs
 lt w a q hq:=by
  cases bo with
  | none=>cases hq
  | some b=>rw[UI,Q9]at hq;rw[hq];exact ae (a.blk b rfl)
 ok S w w' a k hb:=⟨a.nil,fun b e=>k.get (a.blk b e) (hb b (by rw[e];simp))⟩
def Aj(x:Option Nat×Fs):Value:=.slice (wD x.1) x.2.length x.2.length
def ig(l:List (Option Nat×Fs)):dN:=⟨33,1,l.length,l.map Aj⟩
def NY(x:Nat):Value:=.pointer (some ⟨x,0,none⟩)
def lB(t:Nat)(l:List Nat):dN:=⟨t,1,l.length,l.map NY⟩
structure Mc where
 hx:Hd
 hm:Hd
 hr:Hd
 hl:Hd
 hc:Hd
 V:List (Nat×Nat×Fs)
 reg:Fs
 L:List (Option Nat×Option Nat×Fs)
 a:Int
 n:Int
 e:Int
 u:Int
 s:ByteArray
 p:Int
 q:Int
 f:ByteArray
 i:Int
 j:Int
 qv:Value
 tv:Value
def Mc.cells(M:Mc):List Value:=[.slice M.hx.ao M.V.length M.hx.cap,.slice M.hm.ao M.V.length M.hm.cap,.slice M.hr.ao M.reg.length M.hr.cap,.slice M.hl.ao M.L.length M.hl.cap,.slice M.hc.ao M.L.length M.hc.cap,.int .i64 M.a,.int .i64 M.n,.int .i64 M.e,.int .i64 M.u,.string M.s,.int .i64 M.p,.int .i64 M.q,.string M.f,.int .i64 M.i,.int .i64 M.j,M.qv,M.tv]
structure bZ(w:World)(b:Nat)(I:Nat×Nat->It)(M:Mc)(N:Nat):Prop where
 sep:nJ w I
 w0:I (0,0)=rB b 42 M.cells
 x:I (1,0)=ce M.hx (lB 46 (M.V.map (·.1)))
 m:I (2,0)=ce M.hm (lB 47 (M.V.map (·.2.1)))
 r:I (3,0)=ce M.hr (cr M.reg)
 ls:I (4,0)=ce M.hl (ig (M.L.map (fun l=>(l.1,l.2.2))))
 lw:I (5,0)=ce M.hc (ig (M.L.map (fun l=>(l.2.1,l.2.2))))
 v:∀i x m fs,M.V[i]?=some (x,m,fs)->(∃st h lo hi lo2 hi2,I (6,i)=O6 x fs lo hi st/\I (7,i)=O4 m h fs lo2 hi2 st)/\zw fs
 l:∀k a c fs,M.L[k]?=some (a,c,fs)->I (8,k)=uI a fs/\I (9,k)=uI c fs/\ld fs/\fs.length<=N
 fit:ld M.reg
 len:M.V.length<=N/\M.reg.length<=N/\M.L.length<=N
 rng:qB M.a/\qB M.n/\qB M.e
structure rh(I:Nat×Nat->It)(M:Mc)(I':Nat×Nat->It)(M':Mc):Prop where
 k:∀j i,10<=j->I' (j,i)=I (j,i)
 q:M'.qv=M.qv
 t:M'.tv=M.tv
theorem rh.refl(M:Mc):rh zb M zb M:=⟨fun _ _ _=>rfl,rfl,rfl⟩
theorem oY{i:Nat}{a:It}(d:b<10)(c:10<=L):fk k (b,y) a (L,i)=k (L,i):=aq _ _ (bn (by omega))
theorem bZ.Vb{M:Mc}(h:bZ S b k M y)(c:ab [] S o):bZ o b k M y:={ h with sep:=h.sep.Vb c }
theorem bZ.more{M:Mc}(h:bZ S b k M y):bZ S b k M (y+1) :=
 { h with l:=fun j a c i e=>by obtain⟨d,f,g,m⟩:=h.l j a c i e;exact⟨d,f,g,by omega⟩,len:=by obtain⟨d,f,g⟩:=h.len;exact⟨by omega,by omega,by omega⟩ }
theorem bZ.blk{M:Mc}(h:bZ S b k M y):S.heap[b]?=some (.cells M.cells.toArray 42 (0,0)):=by
 have:=h.sep.all (0,0);rw[h.w0]at this;exact this
theorem bZ.ownX{M:Mc}(h:bZ S b k M y):aw S M.hx (lB 46 (M.V.map (·.1))):=by have:=h.sep.all (1,0);rw[h.x]at this;exact this
theorem bZ.ownM{M:Mc}(h:bZ S b k M y):aw S M.hm (lB 47 (M.V.map (·.2.1))):=by have:=h.sep.all (2,0);rw[h.m]at this;exact this
theorem bZ.ownR{M:Mc}(h:bZ S b k M y):aw S M.hr (cr M.reg):=by have:=h.sep.all (3,0);rw[h.r]at this;exact this
theorem bZ.ownL{M:Mc}(h:bZ S b k M y):aw S M.hl (ig (M.L.map (fun l=>(l.1,l.2.2)))):=by have:=h.sep.all (4,0);rw[h.ls]at this;exact this
theorem bZ.ownC{M:Mc}(h:bZ S b k M y):aw S M.hc (ig (M.L.map (fun l=>(l.2.1,l.2.2)))):=by have:=h.sep.all (5,0);rw[h.lw]at this;exact this
theorem nJ.grow(s:nJ S k)(e:k yg=ce g vb)(c:bt S o g yz)(f:aw o yz xz):nJ o (fk k yg (ce yz xz)):=by
 refine s.put yg _ (by rw[e];exact c.kept) f (fun q a=>?_);have a:=aN a
 rcases c.blk with b | ⟨h,b,d⟩
 ·left;rw[e];show q∈g.blk.toList;rw[<-b,a];simp
 ·right;rw[b]at a;cases a;exact d
theorem nJ.turn{a:List Value}(s:nJ S k)(e:k yg=rB b y v0)(g:ab [b] S o)(c:o.heap[b]?=some (.cells a.toArray y (0,0))):nJ o (fk k yg (rB b y a)) :=
 s.put yg _ (by rw[e];exact g) c (fun q d=>by rw[e];exact Q1 d)
def iB(b:Nat)(I:Nat×Nat->It)(M:Mc)(N:Nat)(r:Bool)(e:Ending)(w':World):Prop:=e=.returned (.bool r)/\∃I' M',bZ w' b I' M' (N+1)/\rh I M I' M'
theorem bZ.turn0{M M':Mc}(h:bZ S b k M y)(e:(M'.hx=M.hx/\M'.hm=M.hm/\M'.hr=M.hr/\M'.hl=M.hl/\M'.hc=M.hc)/\M'.V=M.V/\M'.reg=M.reg/\M'.L=M.L)(u:ab [b] S o)(z:o.heap[b]?=some (.cells M'.cells.toArray 42 (0,0)))(B:qB M'.a/\qB M'.n/\qB M'.e):bZ o b (fk k (0,0) (rB b 42 M'.cells)) M' y:=by
 obtain⟨⟨C,w,s,p,t⟩,d,g,f⟩:=e;have q:∀a i,a≠0->fk k (0,0) (rB b 42 M'.cells) (a,i)=k (a,i):=fun a i A=>aq _ _ (bn A)
 exact {
  sep:=h.sep.turn h.w0 u z
  w0:=bJ _ _ _
  x:=by rw[q 1 0 (by decide),C,d];exact h.x
  m:=by rw[q 2 0 (by decide),w,d];exact h.m
  r:=by rw[q 3 0 (by decide),s,g];exact h.r
  ls:=by rw[q 4 0 (by decide),p,f];exact h.ls
  lw:=by rw[q 5 0 (by decide),t,f];exact h.lw
  v:=fun i x m j c=>by rw[q 6 i (by decide),q 7 i (by decide)];rw[d]at c;exact h.v i x m j c
  l:=fun i x m j c=>by rw[q 8 i (by decide),q 9 i (by decide)];rw[f]at c;exact h.l i x m j c
  fit:=by rw[g];exact h.fit
  len:=by rw[d,g,f];exact h.len
  rng:=B }
theorem bZ.boxed{M:Mc}(h:bZ S b k M y)(f a c d:Int)(s t:ByteArray)(W:World)(g:S.alloc (.cells #[.int .i64 f,.int .i64 a,.int .i64 c,.int .i64 d,.string s,.string t] 28)=W) :
  bZ W b k M y/\W.heap[S.heap.size]?=some (.cells #[.int .i64 f,.int .i64 a,.int .i64 c,.int .i64 d,.string s,.string t] 28 (0,0))/\b<S.heap.size/\ab [] S W:=by
 have e:ab [] S W:=by rw[<-g];exact(ab.refl [] _).alloc _
 exact⟨h.Vb e,by rw[<-g];exact QS _ _,ae h.blk,e⟩
theorem cQ{a c d:Int}(h:S.heap[b]?=some (.cells #[.int .i64 x5,.int .i64 a,.int .i64 c,.int .i64 d,.string z3,.string y9] 28 (0,0))) :
  S.cell? ⟨b,0,none⟩=some (.int .i64 x5)/\S.cell? ⟨b,1,none⟩=some (.int .i64 a)/\S.cell? ⟨b,2,none⟩=some (.int .i64 c)/\S.cell? ⟨b,3,none⟩=some (.int .i64 d)/\S.cell? ⟨b,4,none⟩=some (.string z3)/\S.cell? ⟨b,5,none⟩=some (.string y9)/\b<S.heap.size:=by
 refine⟨?_,?_,?_,?_,?_,?_,ae h⟩ <;> (rw[aa h];rfl)
theorem Pg(M:Mc)(A C D:Int)(s t:ByteArray)(w:World)(h:bZ w f zb M H)(k:qB A)(u:qB C)(o:qB D) :
  Calls prog 11 #[.pointer (some ⟨f,0,none⟩),.agg #[.int .i64 7,.int .i64 A,.int .i64 C,.int .i64 D,.string s,.string t]] w fun e l=>iB f zb M H true e l:=by
 obtain⟨W,g⟩:∃W,Hid (w.alloc (.cells #[.int .i64 7,.int .i64 A,.int .i64 C,.int .i64 D,.string s,.string t] 28)=W):=⟨_,rfl⟩
 obtain⟨b,d,m,-⟩:=h.boxed 7 A C D s t W g.out;obtain⟨I,J,x,G,E,K,F⟩:=cQ d;have L:W.cell? ⟨f,5,none⟩=some (.int .i64 M.a):=by rw[aa b.blk];rfl
 have y:W.cell? ⟨f,6,none⟩=some (.int .i64 M.n):=by rw[aa b.blk];rfl
 have v:W.cell? ⟨f,7,none⟩=some (.int .i64 M.e):=by rw[aa b.blk];rfl
 have z:=am b.blk;have B:=ae b.blk;have q:f≠w.heap.size:=by omega
 have c:w.heap.size≠f:=by omega
 have r:Hid (bZ (((W.setCell ⟨f,5,none⟩ (.int .i64 A)).setCell ⟨f,6,none⟩ (.int .i64 C)).setCell ⟨f,7,none⟩ (.int .i64 D)) f _ { M with a:=A,n:=C,e:=D } H) :=
  b.turn0 (M':={ M with a:=A,n:=C,e:=D }) ⟨⟨rfl,rfl,rfl,rfl,rfl⟩,rfl,rfl,rfl⟩ ((((ab.refl [f] _).setCell (Q1 (by simp)) _).setCell (Q1 (by simp)) _).setCell (Q1 (by simp)) _) (by rw[ah (ah (ah b.blk 5 _) 6 _) 7 _];rfl) ⟨k,u,o⟩
 clear h b d;go_enter func11,ntmps11
 go_upto_region 1 with fail
 rw[g.out];go_wp2;go_ret;exact⟨rfl,_,_,r.out.more,⟨fun j i p=>oY (by decide) p,rfl,rfl⟩⟩
theorem NI(M:Mc)(A C D:Int)(s t:ByteArray)(w:World)(h:bZ w f zb M H) :
  Calls prog 11 #[.pointer (some ⟨f,0,none⟩),.agg #[.int .i64 16,.int .i64 A,.int .i64 C,.int .i64 D,.string s,.string t]] w fun e g=>iB f zb M H true e g:=by
 obtain⟨W,d⟩:∃W,Hid (w.alloc (.cells #[.int .i64 16,.int .i64 A,.int .i64 C,.int .i64 D,.string s,.string t] 28)=W):=⟨_,rfl⟩
 obtain⟨a,c,k,-⟩:=h.boxed 16 A C D s t W d.out;obtain⟨z,B,o,y,v,E,x⟩:=cQ c;have p:=am a.blk;have r:=ae a.blk;have m:f≠w.heap.size:=by omega
 have b:w.heap.size≠f:=by omega
 have q:W.cell? ⟨f,8,none⟩=some (.int .i64 M.u):=by rw[aa a.blk];rfl
 have n:Hid (bZ (W.setCell ⟨f,8,none⟩ (.int .i64 A)) f _ { M with u:=A } H) :=
  a.turn0 (M':={ M with u:=A }) ⟨⟨rfl,rfl,rfl,rfl,rfl⟩,rfl,rfl,rfl⟩ ((ab.refl [f] _).setCell (Q1 (by simp)) _) (by rw[ah a.blk 8 _];rfl) a.rng
 clear h a c;go_enter func11,ntmps11
 go_upto_region 1 with fail
 rw[d.out];go_wp2;go_ret;exact⟨rfl,_,_,n.out.more,⟨fun j i l=>oY (by decide) l,rfl,rfl⟩⟩
theorem NJ(M:Mc)(A C D:Int)(s t:ByteArray)(w:World)(h:bZ w f zb M H)(k:M.qv=.slice none 0 0) :
  Calls prog 11 #[.pointer (some ⟨f,0,none⟩),.agg #[.int .i64 17,.int .i64 A,.int .i64 C,.int .i64 D,.string s,.string t]] w fun e i=>iB f zb M H true e i:=by
 obtain⟨W,d⟩:∃W,Hid (w.alloc (.cells #[.int .i64 17,.int .i64 A,.int .i64 C,.int .i64 D,.string s,.string t] 28)=W):=⟨_,rfl⟩
 obtain⟨a,c,j,-⟩:=h.boxed 17 A C D s t W d.out;obtain⟨v,x,n,u,q,y,r⟩:=cQ c;have o:=am a.blk;have p:=ae a.blk;have l:f≠w.heap.size:=by omega
 have b:w.heap.size≠f:=by omega
 have g:W.cell? ⟨f,15,none⟩=some (.slice none 0 0):=by rw[aa a.blk,<-k];rfl
 have m:Hid (bZ W f zb M H):=a;clear h a c;go_enter func11,ntmps11
 go_upto_region 1 with fail
 rw[d.out];go_wp2;go_ret;exact⟨rfl,_,_,m.out.more,rh.refl _ _⟩
theorem lq(M:Mc)(k A C D:Int)(s t:ByteArray)(w:World)(h:bZ w f zb M H)(p:(8<=k/\k<=14)∨19<=k) :
  Calls prog 11 #[.pointer (some ⟨f,0,none⟩),.agg #[.int .i64 k,.int .i64 A,.int .i64 C,.int .i64 D,.string s,.string t]] w fun e i=>e=.returned (.bool false)/\ab [] w i:=by
 obtain⟨W,d⟩:∃W,Hid (w.alloc (.cells #[.int .i64 k,.int .i64 A,.int .i64 C,.int .i64 D,.string s,.string t] 28)=W):=⟨_,rfl⟩
 obtain⟨r,c,l,b⟩:=h.boxed k A C D s t W d.out;obtain⟨G,-⟩:=cQ c;have o:Hid (ab [] w W):=b;have B:=ae c;have a:∀m:Int,(k=m->False)->(k==m)=false:=fun m g=>Rh.2 g
 have y:=a 1 (by omega);have I:=a 2 (by omega);have E:=a 3 (by omega);have v:=a 4 (by omega);have F:=a 5 (by omega);have z:=a 6 (by omega);have x:=a 7 (by omega);have j:=a 15 (by omega);have n:=a 16 (by omega);have q:=a 17 (by omega);have u:=a 18 (by omega);clear h r c a p b;go_enter func11,ntmps11
 go_upto_region 1 with fail
 rw[d.out];go_wp2;go_ret;exact⟨rfl,o.out⟩
theorem NH(M:Mc)(A C D:Int)(s t:ByteArray)(w:World)(h:bZ w f zb M H) :
  Calls prog 11 #[.pointer (some ⟨f,0,none⟩),.agg #[.int .i64 15,.int .i64 A,.int .i64 C,.int .i64 D,.string s,.string t]] w fun e l=>iB f zb M H true e l:=by
 obtain⟨W,d⟩:∃W,Hid (w.alloc (.cells #[.int .i64 15,.int .i64 A,.int .i64 C,.int .i64 D,.string s,.string t] 28)=W):=⟨_,rfl⟩
 obtain⟨a,c,m,-⟩:=h.boxed 15 A C D s t W d.out;obtain⟨L,N,z,K,I,O,J⟩:=cQ c;have E:=am a.blk;have G:=ae a.blk;have o:f≠w.heap.size:=by omega
 have b:w.heap.size≠f:=by omega
 have F:W.cell? ⟨f,8,none⟩=some (.int .i64 M.u):=by rw[aa a.blk];rfl
 have B:W.cell? ⟨f,9,none⟩=some (.string M.s):=by rw[aa a.blk];rfl
 have r:W.cell? ⟨f,10,none⟩=some (.int .i64 M.p):=by rw[aa a.blk];rfl
 have g:W.cell? ⟨f,11,none⟩=some (.int .i64 M.q):=by rw[aa a.blk];rfl
 have k:W.cell? ⟨f,12,none⟩=some (.string M.f):=by rw[aa a.blk];rfl
 have y:W.cell? ⟨f,13,none⟩=some (.int .i64 M.i):=by rw[aa a.blk];rfl
 have x:W.cell? ⟨f,14,none⟩=some (.int .i64 M.j):=by rw[aa a.blk];rfl
 have v:Hid (bZ (((((((W.setCell ⟨f,9,none⟩ (.string s)).setCell ⟨f,10,none⟩ (.int .i64 A)).setCell ⟨f,11,none⟩ (.int .i64 C)).setCell ⟨f,12,none⟩ (.string t)).setCell ⟨f,13,none⟩ (.int .i64 D)).setCell ⟨f,14,none⟩ (.int .i64 M.u)).drew) f _ { M with s:=s,p:=A,q:=C,f:=t,i:=D,j:=M.u } H) :=
  (a.turn0 (M':={ M with s:=s,p:=A,q:=C,f:=t,i:=D,j:=M.u }) ⟨⟨rfl,rfl,rfl,rfl,rfl⟩,rfl,rfl,rfl⟩ ((((((((ab.refl [f] _).setCell (Q1 (by simp)) _).setCell (Q1 (by simp)) _).setCell (Q1 (by simp)) _).setCell (Q1 (by simp)) _).setCell (Q1 (by simp)) _).setCell (Q1 (by simp)) _)) (by rw[ah (ah (ah (ah (ah (ah a.blk 9 _) 10 _) 11 _) 12 _) 13 _) 14 _];rfl) a.rng).Vb (ab.refl [] _).drew
 clear h a c;go_enter func11,ntmps11
 go_upto_region 1 with fail
 rw[d.out]
 go_upto_region 38 with fail
 go_region
 all_goals go_wp2
 all_goals go_ret
 all_goals exact⟨rfl,_,_,v.out.more,⟨fun j i n=>oY (by decide) n,rfl,rfl⟩⟩
theorem bZ.clear{M:Mc}(h:bZ S b k M y)(n:ab [b] S o)(t:o.heap[b]?=some (.cells ({ M with hr:=⟨none,0⟩,reg:=[] }:Mc).cells.toArray 42 (0,0))):∃f,bZ o b f { M with hr:=⟨none,0⟩,reg:=[] } y/\rh k M f { M with hr:=⟨none,0⟩,reg:=[] }:=by
 have s:=h.sep.turn h.w0 n t;have g:=s.put (3,0) (ce ⟨none,0⟩ (cr [])) ((ab.refl _ o).mono (fun _ A _=>A)) (QZ _ _ _ _) (fun q p=>by cases p);refine⟨fk (fk k (0,0) (rB b 42 ({ M with hr:=⟨none,0⟩,reg:=[] }:Mc).cells)) (3,0) (ce ⟨none,0⟩ (cr [])),?_,?_⟩
 rotate_left
 ·exact⟨fun j i u=>by(repeat rw[oY (by decide) u]),rfl,rfl⟩
 have q:∀a i,a≠0->a≠3->(fk (fk k (0,0) (rB b 42 ({ M with hr:=⟨none,0⟩,reg:=[] }:Mc).cells)) (3,0) (ce ⟨none,0⟩ (cr []))) (a,i)=k (a,i):=fun a i z w=>by rw[aq _ _ (bn w),aq _ _ (bn z)]
 exact {
  sep:=g
  w0:=by rw[aq _ _ (bn (by decide))];exact bJ _ _ _
  x:=by rw[q 1 0 (by decide) (by decide)];exact h.x
  m:=by rw[q 2 0 (by decide) (by decide)];exact h.m
  r:=bJ _ _ _
  ls:=by rw[q 4 0 (by decide) (by decide)];exact h.ls
  lw:=by rw[q 5 0 (by decide) (by decide)];exact h.lw
  v:=fun i x m e d=>by rw[q 6 i (by decide) (by decide),q 7 i (by decide) (by decide)];exact h.v i x m e d
  l:=fun i x m e d=>by rw[q 8 i (by decide) (by decide),q 9 i (by decide) (by decide)];exact h.l i x m e d
  fit:=fun j=>⟨by show(0:Nat)<=_;omega,by show(0:Nat)<=_;omega⟩
  len:=⟨h.len.1,Ro _,h.len.2.2⟩
  rng:=h.rng }
theorem Pc(b N:Nat)(I:Nat×Nat->It)(M:Mc)(A C D:Int)(s t:ByteArray)(w:World)(h:bZ w b I M N) :
  Calls prog 11 #[.pointer (some ⟨b,0,none⟩),.agg #[.int .i64 3,.int .i64 A,.int .i64 C,.int .i64 D,.string s,.string t]] w fun e k=>iB b I M N true e k:=by
 obtain⟨W,j⟩:∃W,Hid (w.alloc (.cells #[.int .i64 3,.int .i64 A,.int .i64 C,.int .i64 D,.string s,.string t] 28)=W):=⟨_,rfl⟩
 obtain⟨a,i,l,-⟩:=h.boxed 3 A C D s t W j.out;obtain⟨z,B,p,y,u,E,v⟩:=cQ i;have q:=am a.blk;have r:=ae a.blk;have n:b≠w.heap.size:=by omega
 have g:w.heap.size≠b:=by omega
 have x:W.cell? ⟨b,2,none⟩=some (.slice M.hr.ao M.reg.length M.hr.cap):=by rw[aa a.blk];rfl
 have o:Hid (∃c,bZ (W.setCell ⟨b,2,none⟩ (.slice none 0 0)) b c { M with hr:=⟨none,0⟩,reg:=[] } N/\rh I M c { M with hr:=⟨none,0⟩,reg:=[] }) :=
  a.clear ((ab.refl [b] _).setCell (Q1 (by simp)) _) (by rw[ah a.blk 2 _];rfl)
 clear h a i;go_enter func11,ntmps11
 go_upto_region 1 with fail
 rw[j.out];go_wp2;go_ret;obtain⟨c,d,f⟩:=o.out;exact⟨rfl,c,_,d.more,f⟩
theorem cZ{c:List Oper}(I:yf.guard=none)(s x:Operand)(t:TypeId)(o:yf.op=Op.call { callee:=Callee.builtin Builtin.append,args:=#[s,x],argTypes:=#[t,t] })(i:TypeInfo)(z:Value)(b:Nat)(h:Hd)(r:dN)(a:List Value)(y:yr.underlying t=some (.slice r.e))(A:yr.info? r.e=some i)(L:i.zero=some z)(J:i.size=r.size)(M:i.bytes=b)(v:z.cells.size=r.size)(H:0<r.size)(D:yt.eval s=.slice h.ao r.n h.cap)(g:aw w h r)(P:r.n<=4294967296)(C:b<=1000)(O:yt.eval x=.slice (some ⟨w.heap.size,0,none⟩) 1 1)(R:a.length=r.size)(m:∀u∈a,u.oneCell'=true)(N:∀k d,aw d k ⟨r.e,r.size,r.n+1,r.xs++a⟩->bt w d h k->wpList yr v5 va c (yt.put yf.dst (.slice k.ao (r.n+1) k.cap)) d) :
  wpList yr v5 va (yf :: c) yt (w.alloc (.cells a.toArray r.e)):=by
 have q:ab [] w (w.alloc (.cells a.toArray r.e)):=(ab.refl [] _).alloc _;have E:(w.alloc (.cells a.toArray r.e)).heap[w.heap.size]?=some (.cells a.toArray r.e (0,0)):=QS _ _;obtain⟨l,d,f,B,F⟩:=pE (P:=yr) (w.alloc (.cells a.toArray r.e)) t yf.type i z b h r y A L J M v H (g.Vb q) (some ⟨w.heap.size,0,none⟩) 1 1 a (by omega) (fun e=>by cases e) (fun Q e j u G=>by cases e;rw[bL,aa E];simpa using G) m (by unfold maxLen;omega) (Q3 (SL (show r.n+1<=4294967297 by omega) C) (by omega));refine wpList_plain I fun K p=>?_
 unfold Oper.wp;simp[execOp,o,resolve,invoke,builtin,D,O,f,Result.andThen];exact p _ _ (N l d B ((bt.Vb q).trans F))
theorem uo{K:Act->World->Prop}{E:Prop}(L:yf.guard=none)(s x:Operand)(t:TypeId)(o:yf.op=Op.call { callee:=Callee.builtin Builtin.append,args:=#[s,x],argTypes:=#[t,t] })(i:TypeInfo)(z:Value)(b:Nat)(h:Hd)(r:dN)(a:List Value)(v:yr.underlying t=some (.slice r.e))(y:yr.info? r.e=some i)(M:i.zero=some z)(J:i.size=r.size)(N:i.bytes=b)(q:z.cells.size=r.size)(H:0<r.size)(C:yt.eval s=.slice h.ao r.n h.cap)(l:aw w h r)(Q:r.n<=4294967296)(B:b<=1000)(P:yt.eval x=.slice (some ⟨w.heap.size,0,none⟩) 1 1)(S:a.length=r.size)(m:∀u∈a,u.oneCell'=true)(O:∀d c g,aw g ⟨d,c⟩ ⟨r.e,r.size,r.n+1,r.xs++a⟩->bt w g h ⟨d,c⟩->K (yt.put yf.dst (.slice d (r.n+1) c)) g) :
  if Region.wanted yf (yielded v5 yt.tmps)=true then Oper.wp yr yf yt (w.alloc (.cells a.toArray r.e)).drew K va else E:=by
 have p:ab [] w (w.alloc (.cells a.toArray r.e)).drew:=((ab.refl [] _).alloc _).drew;have D:(w.alloc (.cells a.toArray r.e)).drew.heap[w.heap.size]?=some (.cells a.toArray r.e (0,0)):=QS _ _;obtain⟨f,g,k,A,F⟩:=pE (P:=yr) (w.alloc (.cells a.toArray r.e)).drew t yf.type i z b h r v y M J N q H (l.Vb p) (some ⟨w.heap.size,0,none⟩) 1 1 a (by omega) (fun e=>by cases e) (fun R e j u G=>by cases e;rw[bL,aa D];simpa using G) m (by unfold maxLen;omega) (Q3 (SL (show r.n+1<=4294967297 by omega) B) (by omega));have I:Region.wanted yf (yielded v5 yt.tmps)=true:=by simp[Region.wanted,L]
 rw[QW I];unfold Oper.wp;simp[execOp,o,resolve,invoke,builtin,C,P,k,Result.andThen];exact O f.ao f.cap g A ((bt.Vb p).trans F)
theorem nJ.grown(s:nJ S k)(f:k (0,0)=rB b y v0)(l:yg≠(0,0))(e:k yg=ce g vb)(h:bt S o g yz)(i:aw o yz xz)(j:Nat)(v:Value) :
  nJ (o.setCell ⟨b,j,none⟩ v) (fk (fk k yg (ce yz xz)) (0,0) (rB b y (v0.set j v))):=by
 have d:=s.grow e h i;have a:fk k yg (ce yz xz) (0,0)=rB b y v0:=by rw[aq _ _ (Ne.symm l)];exact f
 refine d.turn a ((ab.refl [b] _).setCell (Q1 (by simp)) _) ?_;have c:=d.all (0,0);rw[a]at c;rw[ah (show o.heap[b]?=some (.cells v0.toArray y (0,0)) from c) j v,Ru]
theorem JC(f:ByteArray×ByteArray):∀u∈Ou f,u.oneCell'=true:=by
 intro u a;simp only[Ou,List.mem_cons,List.not_mem_nil,or_false]at a
 rcases a with rfl | rfl <;> rfl
theorem zR(h:ld a)(c:z3.size<=1073741824)(b:y9.size<=1073741824):ld (a++[(z3,y9)]):=by
 intro j;have:=h j;unfold aE ak at *;rw[QQ]at *
 by_cases e:j<a.length
 ·rw[Q7 e];exact this
 ·rw[Q5 (by omega)]
  cases d:j-a.length with
  | zero=>exact⟨c,b⟩
  | succ q=>exact⟨by show(0:Nat)<=_;omega,by show(0:Nat)<=_;omega⟩
theorem bZ.addR{M:Mc}(h:bZ S b k M y)(z:bt S o M.hr g)(t:aw o g (cr (M.reg++[(z3,y9)])))(u:z3.size<=1073741824)(p:y9.size<=1073741824):∃n f,bZ (o.setCell ⟨b,2,none⟩ (.slice g.ao (M.reg.length+1) g.cap)) b n f (y+1)/\rh k M n f:=by
 have s:=h.sep.grown h.w0 (bn (by decide)) h.r z t 2 (.slice g.ao (M.reg.length+1) g.cap);refine⟨fk (fk k (3,0) (ce g (cr (M.reg++[(z3,y9)])))) (0,0) (rB b 42 (M.cells.set 2 (.slice g.ao (M.reg.length+1) g.cap))),{ M with hr:=g,reg:=M.reg++[(z3,y9)] },?_,?_⟩
 rotate_left
 ·exact⟨fun j i w=>by(repeat rw[oY (by decide) w]),rfl,rfl⟩
 have q:∀a i,a≠0->a≠3->(fk (fk k (3,0) (ce g (cr (M.reg++[(z3,y9)])))) (0,0) (rB b 42 (M.cells.set 2 (.slice g.ao (M.reg.length+1) g.cap)))) (a,i)=k (a,i):=fun a i B A=>by rw[aq _ _ (bn B),aq _ _ (bn A)]
 have e:=h.more
 exact {
  sep:=s
  w0:=by rw[bJ];unfold Mc.cells;rw[Q0];rfl
  x:=by rw[q 1 0 (by decide) (by decide)];exact h.x
  m:=by rw[q 2 0 (by decide) (by decide)];exact h.m
  r:=by rw[aq _ _ (bn (by decide))];exact bJ _ _ _
  ls:=by rw[q 4 0 (by decide) (by decide)];exact h.ls
  lw:=by rw[q 5 0 (by decide) (by decide)];exact h.lw
  v:=fun i x m d c=>by rw[q 6 i (by decide) (by decide),q 7 i (by decide) (by decide)];exact h.v i x m d c
  l:=fun i x m d c=>by rw[q 8 i (by decide) (by decide),q 9 i (by decide) (by decide)];exact e.l i x m d c
  fit:=zR h.fit u p
  len:=⟨e.len.1,by have:=h.len.2.1;show(M.reg++[(z3,y9)]).length<=_;rw[Q0];show _+1<=_;omega,e.len.2.2⟩
  rng:=h.rng }
theorem Pb(M:Mc)(A C D:Int)(s t:ByteArray)(w:World)(h:bZ w f zb M H)(S:H<=1073741824)(L:s.size<=1073741824)(Q:t.size<=1073741824) :
  Calls prog 11 #[.pointer (some ⟨f,0,none⟩),.agg #[.int .i64 2,.int .i64 A,.int .i64 C,.int .i64 D,.string s,.string t]] w fun e B=>iB f zb M H true e B:=by
 obtain⟨W,v⟩:∃W,Hid (w.alloc (.cells #[.int .i64 2,.int .i64 A,.int .i64 C,.int .i64 D,.string s,.string t] 28)=W):=⟨_,rfl⟩
 obtain⟨a,u,F,-⟩:=h.boxed 2 A C D s t W v.out;obtain⟨o0,o1,U,o3,Y,o5,Z⟩:=cQ u;obtain⟨z,l,b,d,c⟩:=Re zZ;have V:=am a.blk;have X:=ae a.blk;have P:f≠w.heap.size:=by omega
 have q:w.heap.size≠f:=by omega
 have c2:W.cell? ⟨f,2,none⟩=some (.slice M.hr.ao M.reg.length M.hr.cap):=by rw[aa a.blk];rfl
 have y:Hid (bZ W f zb M H):=a;have m:=a.ownR;have p:Hid ((cr M.reg).n<=4294967296):=by show M.reg.length<=_;have:=h.len.2.1;omega
 have k:Hid ((cr M.reg).n=M.reg.length):=rfl;have i:Hid (f∉M.hr.blk.toList):=fun J=>a.sep.far (0,0) (3,0) (bn (by decide)) f (by rw[a.w0];exact Q9.2 rfl) (by rw[a.r];exact J)
 clear h a u;go_enter func11,ntmps11
 go_upto_region 1 with fail
 rw[v.out]
 go_upto_region 9 with fail
 go_region_law (refine uo W rfl (.tmp 51) (.tmp 57) 33 rfl z (.agg #[.string ⟨#[]⟩,.string ⟨#[]⟩]) 32 M.hr (cr M.reg) (Ou (s,t)) underlying33 l b d c rfl Uq (by rw[k.out];simp[Act.eval]) m p.out (by omega) (by simp[Act.eval]) rfl (JC (s,t)) ?_;intro K x E j g;have o:=g.kept.get y.out.blk i.out;have T:=am o 2;have c5:E.cell? ⟨f,2,none⟩=some (.slice M.hr.ao M.reg.length M.hr.cap):=(by rw[aa o];rfl);have z5:=ae o)
 all_goals
  rw[wX]at j;have R:=hI (y.out.addR g j L Q);rw[k.out];go_wp2;go_ret;obtain⟨O,N,I,G⟩:=R.out;exact⟨rfl,O,N,I,G⟩
end Go.Proofs.YtpddjjabfbfifaaGreat
