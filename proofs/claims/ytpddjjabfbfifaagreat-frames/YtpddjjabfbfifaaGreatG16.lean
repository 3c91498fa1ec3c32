import Derived.Deep.RegionHeld3
import Derived.Deep.RegionLaw
import Derived.Deep.CutRange
import Derived.Test.YtpddjjabfbfifaaGreatG07
import Derived.Test.YtpddjjabfbfifaaGreatG15
namespace Go.Proofs.YtpddjjabfbfifaaGreat
open Go.RowKit Tryz
set_option maxHeartbeats 0
variable{z4:List Tk}{zb:List Sm}{l S N vs:Nat}{ws:Nat->Bool}{yy:Db}{yz:List ik}{y9 yd:ByteArray}{wc:List St}{vb:Nat->Hd}{n g:World}{yu:List Nat}{v v3:Fs}{z6 x7:Option Nat}{I yf:Hd}{wd:Int}{i wz:Nat×Nat->It}{yg:Nat×Nat}{wu wv:dN}{vc:List Value}{x8:Program}{u3:Array Oper}{x5:Oper}{v5:Act}{u4:Exit->Act->World->Prop}(y6 zt x:Nat)(y4:ByteArray)(y:List Tk)(x6:Option Addr)(z3:Nat)(d:List Sm)(wq:Option Addr)(k:Nat)(D:List ik)(yv:Option Addr)(f:Nat)(ww va:Value)(ya:Fs)(yr:ByteArray)(H:Fs)(o:Hd)(y8:Nat)(v0:Option Addr)(y7 M w:Nat)(L:Option Nat)(ys yt:Value)(y5:ByteArray)(vd:List Nat)(a:Nat)(b:World)(m:Nat×Nat->It)
def jO(T:List Tk)(S:List Sm)(j k:Nat):ByteArray:=((bu T (au S j).h).take k).foldl (fun s x=>s++⟨#[32]⟩++x) (bG T (au S j)++⟨#[32]⟩++(au S j).k)
theorem sS(h:a<(bu y (au d w).h).length):jO y d w (a+1)=jO y d w a++⟨#[32]⟩++(bu y (au d w).h)[a]:=by
 unfold jO;rw[Td,QP h,Sw];rfl
theorem Ah(c:(bG z4 (au zb l)).size<=100000)(d:(au zb l).k.size<=100000)(a:∀x∈bu z4 (au zb l).h,x.size<=100000)(k:Nat)(e:k<=(bu z4 (au zb l).h).length):(jO z4 zb l k).size<=200001+k*100001:=by
 induction k with
 | zero =>
  unfold jO;simp only[List.take_zero,List.foldl_nil,ByteArray.size_append,mG];omega
 | succ k b =>
  have f:=a _ (Rb (show k<(bu z4 (au zb l).h).length by omega));rw[sS z4 zb l k (by omega)];simp only[ByteArray.size_append,mG];have:=b (by omega);omega
set_option maxRecDepth 100000
theorem IG(z:b.heap[y6]?=some (.cells #[ww,va,.pointer (some ⟨zt,0,none⟩),ys,yt] 85 (0,0)))(v:fz b zt y x6 z3 d yv f)(A:x<d.length)(hT:y.length<=10000)(Y:cU y d[x].h)(ha:d[x].a<y.length)(W:(bG y (au d x)).size<=100000)(X:(au d x).k.size<=100000)(O:∀x∈bu y (au d x).h,x.size<=100000)(hl:(bu y (au d x).h).length<=10000) :
  Calls prog 63 #[.pointer (some ⟨y6,0,none⟩),.int .i64 x] b fun e T=>e=.returned (.string (kn y d x))/\ab [] b T:=by
 have N:au d x=d[x]:=by unfold au;rw[QQ,QP A];rfl
 have J:Hid _:=nQ zt x y x6 z3 d yv f b v A ha;have E:Hid (∀c,ab [] b c->Calls prog 72 #[.pointer (some ⟨zt,0,none⟩),.int .i64 x] c fun e T=>∃u,e=.returned (.slice u.ao (bu y d[x].h).length u.cap)/\vj c T u (bu y d[x].h)):=fun c k=>kD zt x y x6 z3 d yv f c (v.Vb k) A (by omega) Y
 have p:Hid (kn y d x=jO y d x (bu y (au d x).h).length):=by show _=_;unfold kn jO;rw[RK]
 have n:Hid _:=Ah W X O;have q:Hid _:=sS y d x;have I:Hid (jO y d x 0=bG y d[x]++⟨#[32]⟩++d[x].k):=by show _=_;unfold jO;rw[N];rfl
 have G:Hid (fz b zt y x6 z3 d yv f):=v;have K:Hid _:=z;have V:Hid _:=O;rw[N]at W X hl p n q V;obtain⟨t,rfl,w,q0,q1,q2,D⟩:=v.s.2 x d[x] (QP A);have R:b.cell? ⟨y6,2,none⟩=some (.pointer (some ⟨zt,0,none⟩)):=by rw[aa z];rfl
 have S:=ae z;have ad:(x:Int)<(d.length:Int):=by omega
 have m:Hid (b.cell? ⟨t,x*4+3,none⟩=some (.string d[x].k)/\t<b.heap.size):=⟨D,w⟩;generalize d[x].k=kk at *;generalize bG y d[x]=Q at *;generalize bu y d[x].h=B at *;clear v z O N q0 q1 q2 D w Y;go_enter func63,ntmps63
 go_upto_region 2 with (go_at_call 87;refine QU J.out ?_;rintro e c ⟨rfl,C⟩)
 have j:Hid _:=C;have r:Hid _:=(C.get K.out (by simp));have F:Hid _:=G.out.Vb C;clear R S C;have R:c.cell? ⟨y6,2,none⟩=some (.pointer (some ⟨zt,0,none⟩)):=by rw[aa r.out];rfl
 have S:=ae r.out;obtain⟨-,d1,bz⟩:=F.out.cells;have D:c.cell? ⟨t,x*4+3,none⟩=some (.string kk):=by rw[Q6 (j.out.block t m.out.2 (by simp))];exact m.out.1
 have gz:t<c.heap.size:=QX m.out.2 j.out.size;have o:Hid _:=E.out c j.out;have z1:(Q++⟨#[32]⟩:ByteArray).size<=100001:=by simp only[ByteArray.size_append,mG];omega
 go_upto_region 3 with fail
 go_upto_region 4 with (go_at_call 72;refine QU o.out ?_;rintro e w2 ⟨u,rfl,U⟩)
 have L:Hid _:=U.own.srcX;have H:Hid _:=j.out.trans U.kept;rw[<-I.out];clear R S d1 bz D gz U z1;obtain⟨P,Z⟩:=u;go_wp2
 go_loopg [5,7] B.length (fun g tv i wr=>∃k:Nat,k<=B.length/\g=B.length-k/\i=.int .i64 k/\tv=.string (jO y d x k)/\w2=wr)
 case atStart=>exact⟨0,by omega,by omega,rfl,rfl,rfl⟩
 case round =>
  obtain⟨k,hk,hg,rfl,rfl,rfl⟩:=hrel
  by_cases l:k<B.length
  ·have al:=n.out k hk
   have ai:=n.out (k+1) l;have hx:=V.out _ (Rb l);have HT:Hid _:=(q.out k l).symm;have af:(k:Int)<(B.length:Int):=by omega
   obtain⟨gB,M,ac,cB⟩:=L.out k _ (QP l);replace M:P=some ⟨gB,0,none⟩:=M;subst M;generalize B[k]=ap at *;have an:(jO y d x k++⟨#[32]⟩:ByteArray).size<=200002+k*100001:=by simp only[ByteArray.size_append,mG];omega
   generalize jO y d x k=tx at *;go_wp2
   go_roundg (B.length-(k+1))
   case measure=>omega
   case rel=>exact⟨k+1,by omega,rfl,by go_num,congrArg Value.string HT.out,rfl⟩
  ·have e:k=B.length:=by omega
   subst e;have ag:¬(B.length:Int)<(B.length:Int):=by omega
   go_wp2;go_ret;exact⟨congrArg (fun s=>Ending.returned (Value.string s)) p.out.symm,H.out⟩
def Na(RS:List ik)(lab:ByteArray)(a:Nat):Bool:=(bne (ff RS a).Vc 0)&&((ff RS a).label.toList==lab.toList)
def uZ(RS:List ik)(lab:ByteArray):Option Nat:=(List.range RS.length).find? (Na RS lab)
theorem D0(c:S<l)(a:∀i,i<S->ws i=false)(h:ws S=true):(List.range l).find? ws=some S:=by
 rw[Up];refine⟨h,S,by rw[Tf];exact c,by rw[Ub],fun j b=>?_⟩;rw[Ub,a j b];rfl
theorem Lk(a:∀i,i<l->ws i=false):(List.range l).find? ws=none:=by
 rw[Sk];intro i b;rw[a i (Ra.1 b)];simp
set_option maxRecDepth 512
theorem Ky(a:b.heap[x]?=some (.cells #[ww,.bool false,va,ys,yt] 85 (0,0))) :
  Calls prog 61 #[.pointer (some ⟨x,0,none⟩),.string y4] b fun e c=>e=.returned (.tuple #[.int .i64 0,.int .i64 7])/\c=b:=by
 have d:b.cell? ⟨x,1,none⟩=some (.bool false):=by rw[aa a];rfl
 have f:=ae a;clear a;go_enter func61,ntmps61;go_wp2;exact QY (v:=.tuple #[.int .i64 0,.int .i64 7]) (by simp[results,results61,go_sem]) rfl ⟨rfl,rfl⟩
def MY(RS:List ik)(lab:ByteArray)(w:World)(e:Ending)(w':World):Prop:=e=.returned (.tuple #[.int .i64 ((uZ RS lab).getD 0:Nat),.int .i64 (if(uZ RS lab).isSome=true then 0 else 8)])/\w'=w
set_option maxRecDepth 100000
theorem Bb(j:b.heap[x]?=some (.cells #[va,.bool true,ys,yt,.slice yv D.length f] 85 (0,0)))(s:cm b yv 6 jJ D)(I:D.length<=100000) :
  Calls prog 61 #[.pointer (some ⟨x,0,none⟩),.string y4] b fun e E=>MY D y4 b e E:=by
 have N:b.cell? ⟨x,1,none⟩=some (.bool true):=by rw[aa j];rfl
 have O:b.cell? ⟨x,4,none⟩=some (.slice yv D.length f):=by rw[aa j];rfl
 have P:=ae j;have u:=(show Hid (cm b yv 6 jJ D) from s);clear j s;go_enter func61,ntmps61;go_wp2
 go_loopg [6] D.length (fun g i wr=>∃k:Nat,k<=D.length/\g=D.length-k/\i=.int .i64 k/\Hid (∀i,i<k->Na D y4 i=false)/\b=wr)
 case atStart=>exact⟨0,by omega,by omega,rfl,(fun i h=>by omega),rfl⟩
 case round =>
  obtain⟨k,H,G,rfl,d,rfl⟩:=hrel
  by_cases a:k<D.length
  ·have z:(k:Int)<(D.length:Int):=by omega
   have q:D[k]?=some (ff D k):=by unfold ff;rw[QQ,QP a];rfl
   obtain⟨F,rfl,w,n⟩:=u.out k _ q;have p:=n 0 _ rfl;have v:=n 1 _ rfl;rw[Tg]at p;have c:Hid (Na D y4 k=((bne (ff D k).Vc 0)&&((ff D k).label.toList==y4.toList))):=rfl;clear n q;generalize ff D k=r at *;obtain⟨B,C,M,K,L,J⟩:=r;simp only at c p v
   cases o:(C != 0)
   ·have l:Hid (∀i,i<k+1->Na D y4 i=false):=fun i y=>by
     by_cases e:i=k
     ·rw[e,c.out,o];rfl
     ·exact d.out i (by omega)
    go_wp2
    go_roundg (D.length-(k+1))
    case measure=>omega
    case rel=>exact⟨k+1,by omega,rfl,by go_num,l,rfl⟩
   ·cases t:(B.toList==y4.toList)
    ·have l:Hid (∀i,i<k+1->Na D y4 i=false):=fun i y=>by
      by_cases e:i=k
      ·rw[e,c.out,o,t];rfl
      ·exact d.out i (by omega)
     go_wp2
     go_roundg (D.length-(k+1))
     case measure=>omega
     case rel=>exact⟨k+1,by omega,rfl,by go_num,l,rfl⟩
    ·have m:Hid (uZ D y4=some k):=D0 a d.out (by rw[c.out,o,t];rfl)
     go_wp2;exact QY (v:=.tuple #[.int .i64 k,.int .i64 0]) (by simp[results,results61,go_sem]) rfl ⟨by rw[m.out];rfl,rfl⟩
  ·have e:k=D.length:=by omega
   subst e;have A:¬(D.length:Int)<(D.length:Int):=by omega
   have m:Hid (uZ D y4=none):=Lk d.out;go_wp2;exact QY (v:=.tuple #[.int .i64 0,.int .i64 8]) (by simp[results,results61,go_sem]) rfl ⟨by rw[m.out];rfl,rfl⟩
def Km(L:List ByteArray)(w:World)(e:Ending)(w':World):Prop:=∃h',e=.returned (.tuple #[.slice h'.ao L.length h'.cap,.int .i64 0])/\gw w w' h' (aB L)
theorem Ee(hd:b.heap[y6]?=some (.cells #[ys,.bool true,.pointer (some ⟨zt,0,none⟩),yt,.slice v0 D.length w] 85 (0,0)))(hS:cm b v0 6 jJ D)(hl:D.length<=100000)(hD:fz b zt y x6 z3 d wq k)(ok:nK y d x)(hn:x<d.length)(hE:cU y (au d x).h)(ha:uZ D y4=some x)(ap:∀L,ab [] b L->∀j,(j∈bW y d x∨j=x)->Calls prog 63 #[.pointer (some ⟨y6,0,none⟩),.int .i64 j] L fun e H=>e=.returned (.string (kn y d j))/\ab [] L H)(hp:∀p∈fH y d x,p.1.size<=100000/\p.2.size<=100000)(hh:(bW y d x).length<=10000)(hq:(fH y d x).length<=100000000) :
  Calls prog 40 #[.pointer (some ⟨y6,0,none⟩),.string y4] b fun e H=>Km (pL y d x) b e H:=by
 have ax:Hid (Calls prog 61 #[.pointer (some ⟨y6,0,none⟩),.string y4] b fun e H=>e=.returned (.tuple #[.int .i64 x,.int .i64 0])/\H=b):=(Bb y6 y4 D v0 w ys _ yt b hd hS hl).mono (fun e H h=>by
  obtain⟨h1,A⟩:=h;rw[ha]at h1;exact⟨h1,A⟩)
 have a0:Hid _:=nP zt x y x6 z3 d wq k b hD ok hn hE;have be:Hid (∀L,ab [] b L->Calls prog 64 #[.pointer (some ⟨zt,0,none⟩),.int .i64 x] L fun e H=>∃u,e=.returned (.slice u.ao (fH y d x).length u.cap)/\gw L H u (lz (fH y d x))):=fun L a=>wI zt x y x6 z3 d wq k L (hD.Vb a) ok hn hE
 have ac:Hid _:=ap;have bf:Hid _:=hp;have HV:Hid _:=hd;have v2:b.cell? ⟨y6,2,none⟩=some (.pointer (some ⟨zt,0,none⟩)):=by rw[aa hd];rfl
 have vz:=ae hd;have Z:Hid (pL y d x=(bW y d x).map (kn y d)++(fH y d x).map fh++[kn y d x]):=rfl;obtain⟨iS,U,E,F,G⟩:=Re js;generalize pL y d x=LL at *;generalize bW y d x=c at *;generalize fH y d x=l at *;clear hd hS hD ok hE ap hp ha;go_enter func40,ntmps40
 go_upto_region 5 with (go_at_call 61;refine QU ax.out ?_;rintro e w9 ⟨rfl,ar⟩;rw[ar];clear ar)
 go_upto_region 6 with (go_at_call 62;refine QU a0.out ?_;rintro e w1 ⟨h1,rfl,x1⟩)
 have P:Hid _:=x1.kept;have a5:Hid _:=x1.own.srcN;obtain⟨bj,bv⟩:=h1;have a7:Hid (gw w1 w1 ⟨none,0⟩ (aB [])):=⟨QZ _ _ _ _,(by intro a hk;cases hk),ab.refl _ _⟩;clear x1 v2 vz;go_wp2
 go_loopg [8,10] c.length (fun g o i wr=>∃(a:Nat) (u:Hd),a<=c.length/\g=c.length-a/\o=.slice u.ao a u.cap/\i=.int .i64 a/\Hid (gw w1 wr u (aB ((c.take a).map (kn y d)))))
 case atStart=>exact⟨0,⟨none,0⟩,by omega,rfl,rfl,rfl,a7⟩
 case round =>
  obtain⟨a,u,hk,hg,rfl,rfl,X⟩:=hrel;have Q:Hid _:=P.out.trans X.out.kept
  by_cases t:a<c.length
  ·have bp:(a:Int)<(c.length:Int):=by omega
   obtain⟨gH,eH,bl,cH⟩:=(qD.Vb a5.out X.out.kept) a _ (QP t);replace eH:bj=some ⟨gH,0,none⟩:=eH;subst eH;have a4:Hid _:=ac.out wr Q.out c[a] (Q1 (Rb t));have S:Hid ((c.take a).map (kn y d)++[kn y d c[a]]=(c.take (a+1)).map (kn y d)):=by show _=_;rw[Td,QP t,Ry];rfl
   have r:Hid (((c.take a).map (kn y d)).length=a):=by show _=_;rw[Ri,RQ];omega
   generalize (c.take a).map (kn y d)=O at *;generalize kn y d c[a]=ln at *;generalize c[a]=j at *
   go_upto_region 10 with (go_at_call 63;refine QU a4.out ?_;rintro e w2 ⟨rfl,k2⟩)
   have J:Hid _:=X.out.Vb k2;have B:=J.out.own;have C:Hid ((aB O).n<=900000000):=by show O.length<=_;rw[r.out];omega
   have s:Hid ((aB O).n=a):=r.out;clear cH bl k2;go_wp2_with (at_builtin;refine bN w2 rfl (.tmp 42) (.tmp 44) 61 rfl iS (.string ⟨#[]⟩) 16 u (aB O) [.string ln] underlying61 U E F G rfl Rc (by rw[s.out];simp[Act.eval]) B C.out (by omega) (by simp[Act.eval]) rfl (by simp[Value.oneCell']) ?_;intro h5 w5 q m;rw[dr]at q;have R:Hid _:=J.out.Vl m q;clear q m)
   go_roundg (c.length-(a+1))
   case measure=>omega
   case rel=>exact⟨a+1,h5,by omega,rfl,by rw[s.out],by go_num,by rw[<-S.out];exact R⟩
  ·have e:a=c.length:=by omega
   subst e;have bx:¬(c.length:Int)<(c.length:Int):=by omega
   rw[RK]at X;have ag:Hid _:=(Q.out.get HV.out (by simp));have v2:wr.cell? ⟨y6,2,none⟩=some (.pointer (some ⟨zt,0,none⟩)):=by rw[aa ag.out];rfl
   have vz:=ae ag.out;have bg:Hid _:=be.out wr Q.out
   go_upto_region 12 with (go_at_call 64;refine QU bg.out ?_;rintro e w2 ⟨hP,rfl,x2⟩)
   have bc:Hid (cm w2 hP.ao 2 CJ l):=aw.srcG (f:=CJ) x2.own (fun _=>rfl);have J:Hid _:=X.out.Vb x2.kept
   have az:Hid (∀g,hP.ao=some ⟨g,0,none⟩->u.blk≠some g):=fun g I hb=>by
    have h1:=x2.far g (tK I);have A:=X.out.own.lt hb;omega
   have aT:Hid (∀g,hP.ao=some ⟨g,0,none⟩->g<w2.heap.size):=fun g I=>x2.own.lt (tK I)
   obtain⟨T,bs⟩:=hP;clear v2 vz x2;have ba:Hid ((c.map (kn y d)).length=c.length):=Ri _;generalize c.map (kn y d)=O at *;have ai:Hid (gw w1 w2 u (aB (O++(l.take 0).map fh))):=by show gw _ _ _ _;rw[Tq,UA,Rl];exact J.out
   go_wp2
   go_loopg [8,13] l.length (fun g o i W=>∃(a:Nat) (A:Hd),a<=l.length/\g=l.length-a/\o=.slice A.ao (c.length+a) A.cap/\i=.int .i64 a/\Hid (gw w1 W A (aB (O++(l.take a).map fh)))/\Hid (cm W T 2 CJ l)/\Hid (∀g,T=some ⟨g,0,none⟩->A.blk≠some g/\g<W.heap.size))
   case atStart=>exact⟨0,u,by omega,rfl,rfl,rfl,ai,bc,fun g I=>⟨az.out g I,aT.out g I⟩⟩
   case round =>
    obtain⟨a,A,bw,bk,rfl,rfl,v,af,N⟩:=hrel;have a1:Hid _:=P.out.trans v.out.kept;have r:Hid ((O++(l.take a).map fh).length=c.length+a):=by show _=_;rw[Q0,ba.out,Ri,RQ];omega
    by_cases t:a<l.length
    ·have bp:(a:Int)<(l.length:Int):=by omega
     obtain⟨K,eP,bo,hc⟩:=af.out a _ (QP t);replace eP:T=some ⟨K,0,none⟩:=eP;subst eP;have c0:=hc 0 _ rfl;have c1:=hc 1 _ rfl;rw[Tg]at c0;obtain⟨z0,z1⟩:=bf.out _ (Rb t);have S:Hid (O++(l.take a).map fh++[fh l[a]]=O++(l.take (a+1)).map fh):=by show _=_;rw[Td,QP t,Ry,Sy];rfl
     have ad:Hid (fh l[a]=⟨#[36,100,32]⟩++l[a].1++⟨#[32]⟩++l[a].2):=rfl;clear hc;generalize l[a]=pp at *;obtain⟨V,py⟩:=pp;simp only at ad z0 z1 c0 c1;generalize O++(l.take a).map fh=z at *;have s3:(⟨#[36,100,32]⟩:ByteArray).size=3:=rfl;have y1:(⟨#[36,100,32]⟩++V:ByteArray).size<=100003:=by simp only[ByteArray.size_append,s3];omega
     have y2:(⟨#[36,100,32]⟩++V++⟨#[32]⟩:ByteArray).size<=100004:=by simp only[ByteArray.size_append,s3,mG];omega
     have n1:¬9223372036854775807<3+V.size:=by omega
     have n2:¬9223372036854775807<3+V.size+1:=by omega
     have n3:¬9223372036854775807<3+V.size+1+py.size:=by omega
     have B:=v.out.own;have C:Hid ((aB z).n<=900000000):=by show z.length<=_;rw[r.out];omega
     have s:Hid ((aB z).n=c.length+a):=r.out
     have HS:Hid (∀(Y:World) (h6:Hd),bt wr Y A h6->Y.cell? ⟨K,a*2,none⟩=some (.string V)/\Y.cell? ⟨K,a*2+1,none⟩=some (.string py)):=fun Y h6 gr=>by
      have hb:=gr.kept.block K bo (fun hm=>(N.out K rfl).1 (aN hm));exact⟨by rw[Q6 hb];exact c0,by rw[Q6 hb];exact c1⟩
     go_upto_region 15 with fail
     go_region_held3 (fun H=>H.cell? ⟨K,a*2,none⟩=some (.string V)/\H.cell? ⟨K,a*2+1,none⟩=some (.string py)) (go_keep) ((refine bH wr (by rfl) (.tmp 58) (.tmp 72) 61 (by rfl) iS (.string ⟨#[]⟩) 16 A (aB z) [.string _] underlying61 U E F G rfl Rc (by rw[s.out];simp[Act.eval]) B C.out (by omega) (by simp[Act.eval]) rfl (by simp[Value.oneCell']) ?_;intro an M w5 q m;obtain⟨y0,y3⟩:=HS.out w5 _ m))
     all_goals
      rw[dr,<-ad.out,S.out]at q;have a6:Hid _:=v.out.Vl m q;have bd:Hid (cm w5 (some ⟨K,0,none⟩) 2 CJ l):=af.out.keptS m.kept (fun g I hm=>(N.out g I).1 (aN hm))
      have aS:Hid (∀g,(some ⟨K,0,none⟩:Option Addr)=some ⟨g,0,none⟩->(⟨an,M⟩:Hd).blk≠some g/\g<w5.heap.size):=fun g I=>by
       obtain⟨f1,f2⟩:=N.out g I;have hs:=m.kept.size;refine⟨fun e=>?_,by omega⟩
       rcases m.blk with e2 | ⟨g2,e2,bk⟩
       ·rw[e2]at e;exact f1 e
       ·rw[e2]at e;cases e;omega
      clear q m;go_wp2
      go_roundg (l.length-(a+1))
      case measure=>omega
      case rel=>exact⟨a+1,⟨an,M⟩,by omega,rfl,by rw[s.out];rfl,by go_num,a6,bd,aS⟩
    ·have e:a=l.length:=by omega
     subst e;have br:¬(l.length:Int)<(l.length:Int):=by omega
     rw[RK]at v r;have a2:Hid _:=ac.out wr a1.out x (QV rfl);generalize O++l.map fh=z at *;generalize kn y d x=la at *
     go_upto_region 17 with (go_at_call 63;refine QU a2.out ?_;rintro e Y ⟨rfl,k6⟩)
     have al:Hid _:=v.out.Vb k6;have B:=al.out.own;have C:Hid ((aB z).n<=900000000):=by show z.length<=_;rw[r.out];omega
     have s:Hid ((aB z).n=c.length+l.length):=r.out;clear k6;go_wp2_with (at_builtin;refine bN Y rfl (.tmp 77) (.tmp 79) 61 rfl iS (.string ⟨#[]⟩) 16 A (aB z) [.string la] underlying61 U E F G rfl Rc (by rw[s.out];simp[Act.eval]) B C.out (by omega) (by simp[Act.eval]) rfl (by simp[Value.oneCell']) ?_;intro h5 w5 q m;rw[dr]at q;have R:Hid _:=al.out.Vl m q;clear q m);have a3:Hid (LL.length=(aB z).n+1):=by show _=_;rw[Z.out,Q0];rfl
     exact QY (v:=.tuple #[.slice h5.ao ((aB z).n+1) h5.cap,.int .i64 0]) (by simp[results,results40,go_sem]) rfl ⟨h5,by rw[a3.out],by rw[Z.out];exact R.out.base P.out⟩
structure Qp(T:List Tk)(S:List Sm)(RS:List ik):Prop where
 len:RS.length=S.length
 yes:∀a,a<S.length->aC (au S a).k=true->(bne (ff RS a).Vc 0)=true/\(ff RS a).label=bG T (au S a)
 no:∀a,a<S.length->aC (au S a).k=false->(bne (ff RS a).Vc 0)=false
theorem kP.find(R:kP z4 yy)(E:Qp z4 (aj z4) yz)(b:ByteArray):uZ yz b=(gC yy.Vn b).map (bR (aj z4)):=by
 have c:((List.range yy.Vn.length).filter (mD yy.Vn b)).map (bR (aj z4))=(List.range (aj z4).length).filter (Na yz b):=by
  refine ub R.hel.len (fun j m h=>?_) (fun n e=>?_)
  ·unfold Na at h
   simp only[Bool.and_eq_true]at h
   cases a:aC (au (aj z4) j).k
   ·rw[E.no j m a]at h;cases h.1
   ·unfold aC at a
    simp only[Bool.or_eq_true]at a;unfold nu
    rcases a with a | a <;> rw[a] <;> simp
  ·obtain⟨s,p,l,o,-⟩:=R.get e
   have d:=R.hel.at_ e;unfold mD Na;rw[p];simp only;have f:=(fS l).2.2.2
   cases a:aC (au (aj z4) (bR (aj z4) n)).k
   ·rw[E.no _ d a]
    unfold aC at a;rw[f,a];simp
   ·obtain⟨g,i⟩:=E.yes _ d a
    rw[g,i];unfold aC at a;rw[f,a,o];simp
 unfold uZ gC;rw[E.len,<-List.head?_filter,<-c,List.head?_map,List.head?_filter]
theorem Ef(G:oj z4 yy)(E:Qp z4 (aj z4) yz)(a:ByteArray):(gC yy.Vn a=none->uZ yz a=none)/\∀n,gC yy.Vn a=some n->uZ yz a=some (bR (aj z4) n)/\cW yy.Vn n=pL z4 (aj z4) (bR (aj z4) n):=by
 have h:=G.r.find E a;refine⟨fun e=>by rw[h,e];rfl,fun n e=>⟨by rw[h,e];rfl,?_⟩⟩
 have b:n<yy.Vn.length:=by
  unfold gC at e;exact Ra.1 (Rz e)
 refine G.r.frame G.f b (fun s c=>?_);unfold gC at e;have:=Tm e;unfold mD at this;rw[c]at this;simp only[Bool.and_eq_true]at this;exact this.2
theorem FC(P:List dj)(b:ByteArray)(t:Tk):∀(f k:Nat) (M:List (List ByteArray)),(bne (po y d a P b t f k M).Vc 0)=true/\(po y d a P b t f k M).label=b:=by
 intro f
 induction f with
 | zero =>
  intro k M;unfold po xt
  repeat' split
  all_goals exact⟨rfl,rfl⟩
 | succ f c =>
  intro k M;unfold po
  repeat' split
  all_goals first
   | exact⟨rfl,rfl⟩
   | exact c _ _
theorem AM(p:jS)(t:Tk):(bne (mR y d a p t).Vc 0)=true/\(mR y d a p t).label=bG y (au d a):=by
 unfold mR
 split
 ·exact⟨rfl,rfl⟩
 ·split
  ·exact⟨rfl,rfl⟩
  ·exact FC y d a _ _ t _ _ _
theorem zf:(aC (au d a).k=true->(bne (oO y d (JJ y d) a).Vc 0)=true/\(oO y d (JJ y d) a).label=bG y (au d a))/\(aC (au d a).k=false->(bne (oO y d (JJ y d) a).Vc 0)=false):=by
 unfold oO aC
 cases b:NB d a
 ·cases c:tY d a
  ·unfold NB at b
   unfold tY at c;rw[b,c];exact⟨(fun h=>by cases h),fun _=>rfl⟩
  ·unfold tY at c
   rw[c,Bool.or_true];refine⟨fun _=>?_,fun h=>by cases h⟩;exact AM y d a _ _
 ·unfold NB at b
  rw[b,Ts];exact⟨fun _=>⟨rfl,rfl⟩,fun h=>by cases h⟩
theorem pv.tell{i:List (jS×Hd)}(h:pv zb i ((List.range zb.length).map (oO z4 zb (JJ z4 zb))) yz zb.length):Qp z4 zb yz:=by
 have o:yz.length=zb.length:=by rw[h.len,Ri,Tf]
 have d:∀a,a<zb.length->ff ((List.range zb.length).map (oO z4 zb (JJ z4 zb))) a=oO z4 zb (JJ z4 zb) a:=fun a b=>by
  unfold ff;rw[QQ,Rq,Uy b];rfl
 have f:∀a,a<zb.length->(ff yz a).label=(oO z4 zb (JJ z4 zb) a).label/\(bne (ff yz a).Vc 0)=(bne (oO z4 zb (JJ z4 zb) a).Vc 0):=fun a b=>by
  by_cases c:(ff ((List.range zb.length).map (oO z4 zb (JJ z4 zb))) a).Vc=4/\vB zb i ((List.range zb.length).map (oO z4 zb (JJ z4 zb))) a
  ·have e:=h.yes a b c.1 c.2
   have j:=c.1;rw[d a b]at e j;rw[e];exact⟨rfl,by simp only;rw[j];rfl⟩
  ·rw[h.no a b c,d a b]
   exact⟨rfl,rfl⟩
 refine⟨o,fun a b g=>?_,fun a b g=>?_⟩
 ·obtain⟨k,l⟩:=f a b
  obtain⟨m,n⟩:=(zf z4 zb a).1 g;exact⟨by rw[l];exact m,by rw[k];exact n⟩
 ·rw[(f a b).2];exact(zf z4 zb a).2 g
def uT(RS:List ik):List ik:=RS.filter (fun r=>bne r.Vc 0)
theorem Mq(r:ik):∀u∈jJ r,u.oneCell'=true:=by
 intro u a;simp only[jJ,List.mem_cons,List.not_mem_nil,or_false]at a
 rcases a with rfl | rfl | rfl | rfl | rfl | rfl <;> rfl
set_option maxRecDepth 512
theorem JH(a:b.heap[f]?=some (.cells #[ww,.bool false,va,ys,yt] 85 (0,0))) :
  Calls prog 22 #[.pointer (some ⟨f,0,none⟩)] b fun e c=>e=.returned (.slice none 0 0)/\c=b:=by
 have d:b.cell? ⟨f,1,none⟩=some (.bool false):=by rw[aa a];rfl
 have g:=ae a;clear a;go_enter func22,ntmps22;go_wp2;go_ret;exact⟨rfl,rfl⟩
def M4(RS:List ik)(w:World)(e:Ending)(w':World):Prop:=∃h',e=.returned (.slice h'.ao (uT RS).length h'.cap)/\gw w w' h' (fM (uT RS))
set_option maxRecDepth 100000
theorem JG(y:b.heap[k]?=some (.cells #[va,.bool true,ys,yt,.slice yv D.length f] 85 (0,0)))(O:cm b yv 6 jJ D)(hl:D.length<=100000) :
  Calls prog 22 #[.pointer (some ⟨k,0,none⟩)] b fun e w'=>M4 D b e w':=by
 have v1:b.cell? ⟨k,1,none⟩=some (.bool true):=by rw[aa y];rfl
 have R:=ae y;have T:Hid _:=y;have S:=(show Hid (cm b yv 6 jJ D) from O);have C:Hid (gw b b ⟨none,0⟩ (fM (uT (D.take 0)))):=⟨QZ _ _ _ _,(by intro a P;cases P),ab.refl _ _⟩;obtain⟨iR,G,u,v,w⟩:=Re Gp;clear y O;go_enter func22,ntmps22;go_wp2;clear v1 R
 go_loopg [3,4] D.length (fun g o i wr=>∃(a:Nat) (d:Hd) (L:List ik),a<=D.length/\g=D.length-a/\o=.slice d.ao L.length d.cap/\i=.int .i64 a/\L.length<=a/\Hid (L=uT (D.take a))/\Hid (gw b wr d (fM L)))
 case atStart=>exact⟨0,⟨none,0⟩,[],by omega,rfl,rfl,rfl,QR _,rfl,C⟩
 case round =>
  obtain⟨a,d,L,P,hg,rfl,rfl,ac,x,m⟩:=hrel;have q:Hid _:=(m.out.kept.get T.out (by simp));have v4:wr.cell? ⟨k,4,none⟩=some (.slice yv D.length f):=by rw[aa q.out];rfl
  have R:=ae q.out
  by_cases t:a<D.length
  ·have af:(a:Int)<(D.length:Int):=by omega
   obtain⟨g0,rfl,ad,j⟩:=(cm.Vb S.out m.out.kept) a _ (QP t);have N:=j 0 _ rfl;have U:=j 1 _ rfl;have V:=j 2 _ rfl;have W:=j 3 _ rfl;have X:=j 4 _ rfl;have Y:=j 5 _ rfl;rw[Tg]at N
   have c:Hid (uT (D.take (a+1))=L++(if(bne D[a].Vc 0)=true then [D[a]] else [])):=by
    show _=_
    rw[x.out];unfold uT;rw[Td,QP t,RV]
    congr 1
    cases h:(bne D[a].Vc 0) <;> simp[h]
   clear j;generalize D[a]=r at *;obtain⟨J,z,M,I,K,H⟩:=r;simp only at c N U V W X Y
   cases Q:(z != 0)
   ·have A:Hid (L=uT (D.take (a+1))):=by show _=_;rw[c.out,Q,QT (by simp),Rl]
    go_wp2
    go_roundg (D.length-(a+1))
    case measure=>omega
    case rel=>exact⟨a+1,d,L,by omega,rfl,rfl,by go_num,by omega,A,m⟩
   ·have A:Hid (L++[⟨J,z,M,I,K,H⟩]=uT (D.take (a+1))):=by show _=_;rw[c.out,Q,QW rfl]
    have E:=m.out.own;have F:Hid ((fM L).n<=900000000):=by show L.length<=_;omega
    have p:Hid ((fM L).n=L.length):=rfl;go_wp2_with (at_builtin;refine bN wr rfl (.tmp 28) (.tmp 36) 54 rfl iR (.agg #[.string ⟨#[]⟩,.int .i64 0,.int .i64 0,.string ⟨#[]⟩,.int .i64 0,.int .i64 0]) 64 d (fM L) (jJ ⟨J,z,M,I,K,H⟩) underlying54 G u v w rfl (show 0<6 by omega) (by rw[p.out];simp[Act.eval]) E F.out (by omega) (by simp[Act.eval]) rfl (Mq _) ?_;intro Z w5 l s;rw[fM,gM]at l;have B:Hid _:=m.out.Vl s l;clear l s)
    go_roundg (D.length-(a+1))
    case measure=>omega
    case rel=>exact⟨a+1,Z,L++[(⟨J,z,M,I,K,H⟩:ik)],by omega,rfl,by rw[p.out,Q0];rfl,by go_num,by rw[Q0];show _+1<=_;omega,A,B⟩
  ·have e:a=D.length:=by omega
   subst e;have ag:¬(D.length:Int)<(D.length:Int):=by omega
   rw[RK]at x;go_wp2;go_ret;exact⟨d,by rw[<-x.out];rfl,by rw[<-x.out];exact m.out⟩
section
variable {T:List Tk}
theorem zS(h:dC T)(i:Nat):(tS T i).size<=1024:=by
 unfold tS;rw[QQ]
 cases e:T[i]? with
 | none=>show(0:Nat)<=_;omega
 | some t=>exact(h t (R4 e)).1
theorem KO{L:List Tk}(h:y9∈ke L):∃t∈L,t.s=y9:=by
 induction L with
 | nil=>cases h
 | cons t r c =>
  rw[ke]at h
  split at h
  ·cases h
  ·rcases Rj.1 h with e | e
   ·exact⟨t,Rn,e.symm⟩
   ·obtain⟨u,a,b⟩:=c e
    exact⟨u,Rm _ a,b⟩
theorem Bh(h:dC T)(i:Nat):∀x∈bu T i,x.size<=100000:=fun x c=>by
 obtain⟨t,a,b⟩:=KO c;have:=(h t (List.mem_of_mem_drop a)).1;rw[b]at this;omega
theorem yL(h:dC T)(s:Sm):(bG T s).size<=100000:=by
 unfold bG
 split
 ·have:=zS h s.a;omega
 ·show(0:Nat)<=_;omega
theorem ND(h:dC T)(j:Nat)(c:j<(aj T).length):(au (aj T) j).k.size<=100000:=by
 have b:=((fw T).s j c).1.k;have d:=zS h (au (aj T) j).a;have f:=zS h ((au (aj T) j).a+1);unfold ew at b
 split at b
 ·have e:=congrArg Prod.fst b
  replace e:(au (aj T) j).k=tS T (au (aj T) j).a:=e;rw[e];omega
 ·have e:=congrArg Prod.fst b
  replace e:(au (aj T) j).k=tS T ((au (aj T) j).a+1):=e;rw[e];omega
theorem rZ(h:aC y9=true):bS y9=false:=by
 unfold aC at h;rw[RB]at h
 rcases h with h | h <;> exact fX h (by decide)
theorem zE(h:aG y9=true):bS y9=false:=by
 unfold aG at h;rw[RB]at h
 rcases h with h | h <;> exact fX h (by decide)
theorem Cb(h:S∈bW T zb l):S<l/\aG (au zb S).k=true:=by
 unfold bW at h;obtain⟨d,a⟩:=RH.1 h;refine⟨Ra.1 d,?_⟩;unfold sJ at a;unfold aG
 cases b:((au zb S).k.toList == [36,102])
 ·cases c:((au zb S).k.toList == [36,101])
  ·rw[b,c]at a;simp at a
  ·simp
 ·simp
theorem IR:(fO T d vd a).length<=vd.length:=by
 unfold fO;rw[Ri];refine Q3 (Sc _ _) ?_;rw[RQ];omega
theorem yP(h:dC T)(S:List Sm)(a:List Nat)(k i:Nat):((fO T S a k).getD i ⟨#[]⟩).size<=100000:=by
 rw[QQ];unfold fO;rw[Rq]
 cases ((a.take k).filter (fun j=>((au S j).k.toList == [36,102])))[i]? with
 | none=>show(0:Nat)<=_;omega
 | some j=>have:=zS h ((au S j).h+1);show(tS T ((au S j).h+1)).size<=_;omega
theorem EO(h:dC T)(S:List Sm)(a:Nat):∀p∈fH T S a,p.1.size<=100000/\p.2.size<=100000:=by
 intro p c;unfold fH lg at c;obtain⟨i,-,b⟩:=TT.1 c;unfold jY at b;obtain⟨j,-,rfl⟩:=Si.1 b;exact⟨yP h S _ _ i,yP h S _ _ j⟩
theorem EP(e:a<=10000):(fH T d a).length<=100000000:=by
 unfold fH;have b:=IR (T:=T) d (bW T d a) (bW T d a).length;have c:=kj T d a;refine Q3 (yX T d a _ (by omega) _) ?_;omega
end
theorem Iq(t:b.heap[y6]?=some (.cells #[ys,.bool true,.pointer (some ⟨zt,0,none⟩),yt,.slice v0 D.length w] 85 (0,0)))(A:cm b v0 6 jJ D)(s:fz b zt y x6 z3 (aj y) wq k)(m:y.length<=10000)(l:dC y)(c:∀q,q<y.length->bh y (aj y) q=0)(o:Qp y (aj y) D)(g:uZ D y4=some x) :
  Calls prog 40 #[.pointer (some ⟨y6,0,none⟩),.string y4] b fun e E=>Km (pL y (aj y) x) b e E:=by
 have G:(aj y).length<=y.length:=oG y y.length
 have B:x<D.length:=by
  unfold uZ at g;exact Ra.1 (Rz g)
 have n:x<(aj y).length:=by rw[<-o.len];exact B
 have r:aC (au (aj y) x).k=true:=by
  cases e:aC (au (aj y) x).k
  ·unfold uZ at g
   have i:=Tm g;unfold Na at i;rw[o.no x n e]at i
   cases i
  ·rfl
 have d:∀j,j<(aj y).length->bS (au (aj y) j).k=false->cU y (au (aj y) j).h:=fun j f e=>qz (oQ (fw y) c j f e)
 have C:=J9 y m c x (by omega);have p:=(J9 y m c _ (QR _)).ok.a;have v:∀j (f:j<(aj y).length),au (aj y) j=(aj y)[j]:=fun j f=>by unfold au;rw[QQ,QP f];rfl
 refine Ee y6 zt x y4 y x6 z3 (aj y) wq k D v0 w ys yt b t A (by rw[o.len];omega) s C n (d x n (rZ r)) g (fun F u j f=>?_) (EO l _ _) (Q3 (kj _ _ _) (by omega)) (EP _ _ (by omega))
 have a:j<(aj y).length/\bS (au (aj y) j).k=false:=by
  rcases f with f | rfl
  ·obtain⟨i,z⟩:=Cb f
   exact⟨by omega,zE z⟩
  ·exact⟨n,rZ r⟩
 exact IG y6 zt j y x6 z3 (aj y) wq k ys _ yt _ F (u.get t (by simp)) (s.Vb u) a.1 m (by rw[<-v j a.1];exact d j a.1 a.2) (by rw[<-v j a.1];exact p j a.1) (yL l _) (ND l j a.1) (Bh l _) (Q3 (kg y _) m)
theorem yC(c:Int)(h:(c==0)=false)(b:World)(f:Calls prog 61 #[.pointer (some ⟨w,0,none⟩),.string y5] b fun e d=>e=.returned (.tuple #[.int .i64 0,.int .i64 c])/\d=b) :
  Calls prog 40 #[.pointer (some ⟨w,0,none⟩),.string y5] b fun e d=>e=.returned (.tuple #[.slice none 0 0,.int .i64 c])/\d=b:=by
 have g:Hid _:=f;have i:(c != 0)=true:=by unfold bne;rw[h];rfl
 clear f;go_enter func40,ntmps40;go_wp2_with (go_at_call 61;refine QU g.out ?_;rintro e j ⟨rfl,a⟩;rw[a];clear a);exact QY (v:=.tuple #[.slice none 0 0,.int .i64 c]) (by simp[results,results40,go_sem]) rfl ⟨rfl,rfl⟩
def wD(bo:Option Nat):Option Addr:=bo.map (fun b=>⟨b,0,none⟩)
def ie(lo hi:Nat):List Nat:=List.range' lo (hi-lo)
theorem ng:N∈ie l S ↔ l<=N/\N<S:=by
 unfold ie;rw[List.mem_range'_1];omega
def PV(l:List St)(H:Nat->Hd)(q:Nat):Prop:=(H 6).blk=some q∨∃i s,l[i]?=some s/\((H (10+2*i)).blk=some q∨(H (11+2*i)).blk=some q)
theorem PV.inH(h:PV wc vb l):f9 vb l:=by
 rcases h with h | ⟨i,s,-,h | h⟩
 ·exact⟨6,h⟩
 ·exact⟨_,h⟩
 ·exact⟨_,h⟩
theorem gj.ltU(h:gj n wc vb)(u:PV wc vb l):l<n.heap.size:=by
 rcases u with u | ⟨i,s,a,u | u⟩
 ·exact h.own.lt u
 ·exact(h.syms i s a).lt u
 ·exact(h.prfs i s a).lt u
theorem gj.keptU(h:gj n wc vb)(k:ab yu n g)(c:∀x,PV wc vb x->x∉yu):gj g wc vb :=
 ⟨h.own.Vg (fun x a=>k.block x (h.own.lt a) (c x (Q1 a))),fun i s b=>(h.syms i s b).Vg (fun x a=>k.block x ((h.syms i s b).lt a) (c x (QV ⟨i,s,b,Q1 a⟩))),fun i s b=>(h.prfs i s b).Vg (fun x a=>k.block x ((h.prfs i s b).lt a) (c x (QV ⟨i,s,b,QV a⟩)))⟩
def Qt(w:World)(x:Nat)(fs:Fs)(lo hi:Nat):Option Nat->Prop
 | none=>jR w x fs
 | some k=>(k<fs.length/\((fE fs k).1==0)=true)/\∃H g,nI w x fs (bK fs k).2.2.Vn H g/\(lo<=g/\g<hi)/\∀q,PV (bK fs k).2.2.Vn H q->lo<=q/\q<hi
structure dE(w:World)(x:Nat)(fs:Fs)(lo hi:Nat)(st:Option Nat):Prop where
 z:hi<=w.heap.size
 s:Qt w x fs lo hi st
def Qr(w:World)(v:Nat)(fs:Fs)(h:Hd)(lo hi:Nat):Option Nat->Prop
 | none=>∃p2 p3 p4,fB w v fs h false p2 p3 p4
 | some k=>xF w v fs h (cC fs k).1 lo hi
structure dn(w:World)(v:Nat)(fs:Fs)(h:Hd)(lo hi:Nat)(st:Option Nat):Prop where
 z:hi<=w.heap.size
 s:Qr w v fs h lo hi st
theorem dE.anyS(a:dE n l v S N z6):li n l v:=by
 have:=a.s
 cases z6 with
 | none=>exact jR.anyR this
 | some k=>obtain⟨-,H,g,h,-⟩:=this;exact h.anyR
theorem dn.anyS(a:dn n l v I S N z6):∃b c d e,fB n l v I b c d e:=by
 have:=a.s
 cases z6 with
 | none=>exact⟨false,this⟩
 | some k=>exact⟨true,xF.rvAt this⟩
theorem dE.kept(a:dE n l v S N z6)(k:ab yu n g)(d:∀q,q∈l :: ie S N->q∉yu):dE g l v S N z6:=by
 refine⟨Q3 a.z k.size,?_⟩;have m:=d l Rn;have f:∀q,S<=q/\q<N->q∉yu:=fun q b=>d q (Rm _ (ng.2 b))
 have:=a.s
 cases z6 with
 | none=>exact jR.kept this k m
 | some j =>
  obtain⟨r,H,c,h,e,i⟩:=this;obtain⟨o,u,p,t⟩:=h.ver;exact⟨r,H,c,⟨⟨o,u,p,bi.kept t k m⟩,h.Vn.keptU k (fun q b=>f q (i q b)),k.get h.arr (f c e),h.far⟩,e,i⟩
theorem dn.kept(a:dn n l v I S N z6)(k:ab yu n g)(b:∀q,q∈l :: (I.blk.toList++ie S N)->q∉yu):dn g l v I S N z6:=by
 refine⟨Q3 a.z k.size,?_⟩;have d:=b l Rn;have c:∀q,I.blk=some q->q∉yu:=fun q h=>b q (Rm _ (RN _ (by rw[h];simp)))
 have i:∀q,S<=q->q<N->q∉yu:=fun q e f=>b q (Rm _ (Se _ (ng.2 ⟨e,f⟩)))
 have:=a.s
 cases z6 with
 | none=>obtain⟨m,o,p,r⟩:=this;exact⟨m,o,p,r.keptS k d c⟩
 | some j=>exact xF.kept this k d c i
theorem dn.Vb(a:dn n l v I S N z6)(k:ab [] n g):dn g l v I S N z6:=a.kept k (fun _ _ b=>by cases b)
theorem dE.Vb(a:dE n l v S N z6)(k:ab [] n g):dE g l v S N z6:=a.kept k (fun _ _ b=>by cases b)
theorem dE.lt(a:dE n l v S N z6)(q:Nat)(b:q∈l :: ie S N):q<n.heap.size:=by
 rcases Rj.1 b with e | e
 ·rw[e];exact a.anyS.lt
 ·have:=ng.1 e;have:=a.z;omega
theorem dn.lt{h:Hd}(a:dn n l v h S N z6)(q:Nat)(b:q∈l :: (h.blk.toList++ie S N)):q<n.heap.size:=by
 obtain⟨c,f,g,i,r⟩:=a.anyS
 rcases Rj.1 b with e | e
 ·rw[e];exact ae r.d
 ·rcases Rr.1 e with e | e
  ·exact r.own.lt (aN e)
  ·have:=ng.1 e;have:=a.z;omega
theorem dE.same(a:dE n l v S N z6):∃b f i m,iI n l v b f i m/\∀c,iI c l v b f i m->ab [l] n c->dE c l v S N z6:=by
 have h:=a.s
 cases z6 with
 | none=>exact⟨_,_,_,_,h,fun c d k=>⟨Q3 a.z k.size,d⟩⟩
 | some j =>
  obtain⟨t,H,g,r,u,x⟩:=h;obtain⟨o,y,p,d⟩:=r.ver;refine⟨_,_,_,_,d,fun c e k=>⟨Q3 a.z k.size,t,H,g,⟨⟨o,y,p,e⟩,r.Vn.keptU k (fun q w=>by simp;exact r.far.2 q w.inH),k.get r.arr (by simp;exact Ne.symm r.far.1),r.far⟩,u,x⟩⟩
def mb(c:Int)(st:Option Nat):Option Nat:=if c=0 then none else st
theorem qe(h:wd=0):mb wd z6=none:=QW h
theorem rX(h:wd≠0):mb wd z6=z6:=QT h
theorem GD(h:(fc v y9 yd).1≠0):(fc v y9 yd).2=v:=by
 unfold fc at h ⊢
 split
 ·rfl
 ·next c =>
  rw[QT c]at h
  split
  ·next a=>rw[QW a]at h;exact absurd rfl h
  ·next a =>
   rw[QT a]at h
   split
   ·rfl
   ·next b=>rw[QT b]at h;exact absurd rfl h
theorem NW(h:dE b x H M w L)(g:y4.size<=1073741824)(f:yr.size<=4294967296) :
  Calls prog 14 #[.pointer (some ⟨x,0,none⟩),.string y4,.string yr] b fun e c=>e=.returned (.int .i64 (fc H y4 yr).1)/\dE c x (fc H y4 yr).2 M w (mb (fc H y4 yr).1 L)/\ab [x] b c:=by
 by_cases a:(fc H y4 yr).1=0
 ·refine(MS x y4 yr H b h.anyS g f).mono (fun e c q=>⟨q.1,?_,q.2.2.2⟩)
  rw[qe a];exact⟨Q3 h.z q.2.2.2.size,q.2.2.1 a⟩
 ·obtain⟨d,l,m,n,k,j⟩:=h.same
  refine(Oi x y4 yr H d l m n b k g f a).mono (fun e c q=>⟨q.1,?_,q.2.2⟩);have i:=q.2.1;rw[GD a]at i ⊢;rw[rX a];exact j c i q.2.2
theorem CL(h:dE b f ya M w L)(i:kR b v0 H)(d:ld H) :
  Calls prog 30 #[.pointer (some ⟨f,0,none⟩),.slice v0 H.length y7] b fun e c=>e=.returned (.int .i64 (dy H))/\dE c f (jt ya H) M w (mb (dy H) L)/\ab [f] b c:=by
 obtain⟨g,n,o,p,k,j⟩:=h.same;refine(J8 f ya H g n o p v0 y7 b k i d).mono (fun e c q=>⟨q.1,?_,q.2.2⟩);obtain⟨l,m⟩:=q.2.1
 by_cases a:dy H=0
 ·rw[qe a]
  exact⟨Q3 h.z q.2.2.size,l a⟩
 ·have:=m a
  rw[pM rfl a]at this ⊢;rw[rX a];exact j c this q.2.2
theorem Ni(a:dn b x H o M w L)(l:y4.size<=1073741824)(i:yr.size<=4294967296) :
  Calls prog 15 #[.pointer (some ⟨x,0,none⟩),.string y4,.string yr] b fun e h=>e=.returned (.int .i64 (fc H y4 yr).1)/\∃d,dn h x (fc H y4 yr).2 d M w (mb (fc H y4 yr).1 L)/\ab (x :: o.blk.toList) b h/\∀q,d.blk=some q->o.blk=some q∨b.heap.size<=q:=by
 obtain⟨m,n,p,s,r⟩:=a.anyS;refine(Jm x H o m n p s y4 yr b r l i).mono (fun e h q=>⟨q.1,?_⟩)
 by_cases c:(fc H y4 yr).1=0
 ·obtain⟨d,t,g⟩:=q.2.1 c
  rw[qe c];refine⟨d,⟨Q3 a.z g.kept.size,_,_,_,t⟩,g.kept,fun q f=>?_⟩
  rcases g.blk with e | ⟨u,e,j⟩
  ·exact Q1 (by rw[<-e];exact f)
  ·rw[e]at f;cases f;exact QV j
 ·have k:=q.2.2 c
  rw[rX c,GD c];exact⟨o,a.Vb k,k.mono (by simp),fun _ e=>Q1 e⟩
theorem Bs(d:Option Addr)(b:Nat)(c:World)(a:dn c f ya o M w L)(p:mV c d b H)(t:d=none->H.length=0/\b=0)(s:∀n,d=some n->∃g,n=⟨g,0,none⟩)(l:∀j,j<H.length->(aE H j).size<=1073741824/\(ak H j).size<=1073741824) :
  Calls prog 31 #[.pointer (some ⟨f,0,none⟩),.slice d H.length b] c fun e m=>e=.returned (.int .i64 (dy H))/\∃i,dn m f (jt ya H) i M w (mb (dy H) L)/\ab (f :: o.blk.toList) c m/\∀q,i.blk=some q->o.blk=some q∨c.heap.size<=q:=by
 obtain⟨v,x,y,A,r⟩:=a.anyS;refine(Ev f ya H o v x y A d b c r p t s l).mono (fun e m q=>⟨q.1,?_⟩)
 by_cases h:dy H=0
 ·obtain⟨i,B,g,u⟩:=q.2.1 h
  rw[qe h];exact⟨i,⟨Q3 a.z g.size,_,_,_,B⟩,g,u⟩
 ·have k:=q.2.2 h
  rw[rX h,pM rfl h];exact⟨o,a.Vb k,k.mono (by simp),fun _ e=>Q1 e⟩
theorem Bz(b:H.length<=4)(c:∀j,j<H.length->(ak H j).size<=1024)(f:a<H.length)(h:((fE H a).1==0)=true):fE H a=cY:=by
 have g:=h;unfold fE at h
 split at h
 ·next d =>
  have e:(Lj (yp (cC H a).1 (aj (cC H a).1))).1=(yp (cC H a).1 (aj (cC H a).1)).rule:=rfl;rw[e,d]at h
  cases h
 ·next d =>
  exact(v8 H a b c f (by cases q:((yp (cC H a).1 (aj (cC H a).1)).rule==0);exact absurd q d;rfl) h).1
def nH(z lo hi lo1 hi1:Nat):Prop:=(lo1=lo/\hi1=hi)∨z<=lo1
theorem nH.mem{z lo hi:Nat}(h:nH z lo hi l S)(a:N∈ie l S):N∈ie lo hi∨z<=N:=by
 rcases h with ⟨rfl,rfl⟩ | h
 ·exact Q1 a
 ·exact QV (Q3 h (ng.1 a).1)
def QH(w:World)(x:Nat)(fs:Fs)(lo hi:Nat)(f:pA)(q:Int)(st:Option Nat)(e:Ending)(w':World):Prop :=
 e=.returned (.tuple #[gU f,.int .i64 q])/\(∃lo1 hi1,dE w' x fs lo1 hi1 st/\nH w.heap.size lo hi lo1 hi1)/\ab [x] w w'
def QG(w:World)(m:Nat)(fs:Fs)(h:Hd)(lo hi:Nat)(f:pA)(q:Int)(st:Option Nat)(e:Ending)(w':World):Prop :=
 e=.returned (.tuple #[gU f,.int .i64 q])/\(∃lo1 hi1,dn w' m fs h lo1 hi1 st/\nH w.heap.size lo hi lo1 hi1)/\ab [m] w w'
theorem KP(B:dE b k H y8 y7 L)(t:H.length<=4)(i:∀j,j<H.length->(ak H j).size<=1024) :
  ∃(K:pA) (q:Int) (x:Option Nat),Calls prog 36 #[.pointer (some ⟨k,0,none⟩),.string y5] b (fun e d=>QH b k H y8 y7 K q x e d) /\
   ∀a,dn a f H o M w L->Calls prog 37 #[.pointer (some ⟨f,0,none⟩),.string y5] a (fun e d=>QG a f H o M w K q x e d):=by
 rcases pI y5 H with p | ⟨h,s,p⟩
 ·obtain⟨I,X,Y,Z,U,T⟩:=B.same
  refine⟨cY,5,L,(Dn k H y5 I X Y Z b U (by rw[p];decide)).mono (fun e d q=>⟨q.1,⟨y8,y7,T d q.2.1 q.2.2,Q1 ⟨rfl,rfl⟩⟩,q.2.2⟩),fun a c=>?_⟩;obtain⟨C,D,E,F,r⟩:=c.anyS;exact(xZ f H o C D E F y5 a r (by rw[p];decide)).mono (fun e d q=>⟨q.1,⟨M,w,c.Vb q.2,Q1 ⟨rfl,rfl⟩⟩,q.2.mono (by simp)⟩)
 ·obtain⟨J,-⟩:=v7 H h t i s
  have v:=FD k h H y5 b B.anyS p s i
  have u:∀a,dn a f H o M w L->Calls prog 37 #[.pointer (some ⟨f,0,none⟩),.string y5] a fun e d=>Qu H h f o (fE H h) (if((fE H h).1==0)=true then 0 else 6) a e d:=fun a c=>by
   obtain⟨C,D,E,F,r⟩:=c.anyS;exact AQ f h H o C D E F y5 a r p s i
  cases n:((fE H h).1==0)
  ·refine⟨fE H h,6,none,v.mono (fun e d q=>?_),fun a c=>(u a c).mono (fun e d q=>?_)⟩
   ·obtain⟨m,c⟩:=q
    rw[J,n,QT (by simp)]at m;exact⟨m.1,⟨y8,y7,⟨Q3 B.z c.size,m.2⟩,Q1 ⟨rfl,rfl⟩⟩,c⟩
   ·rw[n,QT (by simp)]at q
    obtain⟨G,⟨-,W⟩,y⟩:=q;exact⟨G,⟨M,w,⟨Q3 c.z y.size,W (by decide)⟩,Q1 ⟨rfl,rfl⟩⟩,y⟩
  ·refine⟨fE H h,0,some h,v.mono (fun e d q=>?_),fun a c=>(u a c).mono (fun e d q=>?_)⟩
   ·obtain⟨m,c⟩:=q
    rw[J,n,QW rfl]at m;obtain⟨m,O,g,A,Q,R⟩:=m;exact⟨by rw[m,Bz H h t i s n],⟨b.heap.size,d.heap.size,⟨QR _,⟨s,n⟩,O,g,A,⟨Q,ae A.arr⟩,fun P N=>⟨R P N.inH,A.Vn.ltU N⟩⟩,QV (QR _)⟩,c⟩
   ·rw[n,QW rfl]at q
    obtain⟨G,⟨V,-⟩,y⟩:=q;obtain⟨l,S,r⟩:=V rfl;exact⟨G,⟨l,d.heap.size,⟨QR _,r⟩,QV S⟩,y⟩
def vG(fs:Fs)(st:Option Nat)(lab:ByteArray):List ByteArray×Int :=
 match st with
 | none=>([],7)
 | some k=>match gC (bK fs k).2.2.Vn lab with
  | none=>([],8)
  | some n=>(cW (bK fs k).2.2.Vn n,0)
structure vF(w:World)(bo:Option Nat)(L:List ByteArray):Prop where
 nil:bo=none ↔ L=[]
 blk:∀b,bo=some b->w.heap[b]?=some (.cells (cN L).toArray 9 (0,0))
set_option maxRecDepth 512
theorem Do(h:jR b f H) :
  Calls prog 39 #[.pointer (some ⟨f,0,none⟩),.string y5] b fun e a=>e=.returned (.tuple #[.slice none 0 0,.int .i64 7])/\ab [] b a:=by
 have c:Hid (Calls prog 59 #[.pointer (some ⟨f,0,none⟩),.string y5] b fun e a=>e=.returned (.tuple #[.int .i64 0,.int .i64 7])/\ab [] b a):=by
  show Calls _ _ _ _ _
  obtain⟨i,-⟩:=iI.cells h;have d:=bi.lt h;clear h;go_enter func59,ntmps59;go_wp2;go_ret2;exact⟨rfl,ab.refl _ _⟩
 clear h;go_enter func39,ntmps39;go_wp2_with (go_at_call 59;refine QU c.out ?_;rintro e j ⟨rfl,g⟩);go_ret2;exact⟨rfl,g⟩
theorem oj.szs(G:oj z4 yy)(a:dC z4):A7 yy.Vn:=fun s f _=>by
 obtain⟨n,b,rfl⟩:=R0 f;obtain⟨g,e,-,c,d⟩:=G.r.get b;rw[QP b]at e
 cases e
 exact⟨by rw[c];exact yL a _,by rw[d];exact Bh a _⟩
theorem LE(l:List St)(n:Nat):cW l n≠[]:=fun e=>by have:=t8 l n;rw[e]at this;simp at this
def QC(L:List ByteArray)(c:Int)(w:World)(e:Ending)(w':World):Prop:=∃bo,e=.returned (.tuple #[.slice (wD bo) L.length L.length,.int .i64 c])/\vF w' bo L/\(∀b,bo=some b->w.heap.size<=b)/\ab [] w w'
def Qy(L:List ByteArray)(c:Int)(w:World)(e:Ending)(w':World):Prop:=∃h',e=.returned (.tuple #[.slice h'.ao L.length h'.cap,.int .i64 c])/\gw w w' h' (aB L)
theorem zX(b:v.length<=4)(a:∀j,j<v.length->(ak v j).size<=1024)(h:l<v.length)(f:((fE v l).1==0)=true):oj (cC v l).1 (bK v l).2.2/\(cC v l).1.length<=10000/\dC (cC v l).1:=by
 obtain⟨c,g⟩:=v7 v l b a h;obtain⟨d,e⟩:=g (by rw[c];exact f);exact⟨d,e,BG v l (sD a)⟩
theorem Jk(C:dE b f H M w L)(l:H.length<=4)(d:∀j,j<H.length->(ak H j).size<=1024) :
  Calls prog 39 #[.pointer (some ⟨f,0,none⟩),.string y5] b fun e i=>QC (vG H L y5).1 (vG H L y5).2 b e i:=by
 have p:=C.s
 cases L with
 | none=>exact(Do f H y5 b p).mono (fun e i q=>⟨none,q.1,⟨⟨fun _=>rfl,fun _=>rfl⟩,fun a e=>by cases e⟩,(fun a e=>by cases e),q.2⟩)
 | some k =>
  obtain⟨⟨B,v⟩,u,g,r,-⟩:=p;obtain⟨G,-,A⟩:=zX l d B v;refine(FE f H _ u g y5 b r (wT H d k).ok (G.szs A)).mono (fun e i q=>?_);obtain⟨t,h⟩:=q;unfold vG;simp only
  cases o:gC (bK H k).2.2.Vn y5 with
  | none =>
   rw[o]at h;exact⟨none,h,⟨⟨fun _=>rfl,fun _=>rfl⟩,fun a e=>by cases e⟩,(fun a e=>by cases e),t⟩
  | some n =>
   rw[o]at h;obtain⟨m,x,y,z⟩:=h;have c:i.heap[m]?=some (.cells (cN (pk (cW (bK H k).2.2.Vn n) (cW (bK H k).2.2.Vn n).length)).toArray 9 (0,0)):=y;rw[Je]at c;exact⟨some m,x,⟨⟨(fun e=>by cases e),fun e=>absurd e (LE _ _)⟩,fun a e=>by cases e;exact c⟩,(fun a e=>by cases e;exact z),t⟩
theorem Gy(L:List ByteArray)(a:L=[]):gw b b ⟨none,0⟩ (aB L):=by subst a;exact⟨QZ _ _ _ _,(by intro k c;cases c),ab.refl _ _⟩
theorem Ia(P:dn b f H o M w L)(m:∀k,L=some k->k<H.length/\((fE H k).1==0)=true)(l:H.length<=4)(p:∀j,j<H.length->(ak H j).size<=1024) :
  Calls prog 40 #[.pointer (some ⟨f,0,none⟩),.string y5] b fun e g=>Qy (vG H L y5).1 (vG H L y5).2 b e g:=by
 have x:=P.s
 cases L with
 | none =>
  obtain⟨Q,R,S,r⟩:=x;refine(yC f y5 7 (by decide) b (Ky f y5 _ Q R S b r.d)).mono (fun e g q=>⟨⟨none,0⟩,q.1,?_⟩);rw[q.2];exact Gy b _ rfl
 | some k =>
  obtain⟨O,I⟩:=m k rfl;obtain⟨G,N,K⟩:=zX l p O I;obtain⟨B,A,D,z,C,U,V,t,c,r⟩:=x;have h:=r.fin.tell;have a:=aw.srcG (f:=jJ) r.s2 (fun _=>rfl);have W:(aj (cC H k).1).length<=(cC H k).1.length:=oG _ _;obtain⟨E,F⟩:=Ef G h y5;unfold vG;simp only
  cases v:gC (bK H k).2.2.Vn y5 with
  | none =>
   have i:=E v;refine(yC f y5 8 (by decide) b ((Bb f y5 t c.ao c.cap _ _ _ b r.rv.d a (by rw[h.len];omega)).mono (fun e g q=>?_))).mono (fun e g q=>⟨⟨none,0⟩,q.1,?_⟩)
   ·obtain⟨y,T⟩:=q
    rw[i]at y;exact⟨y,T⟩
   ·rw[q.2];exact Gy b _ rfl
  | some n =>
   obtain⟨i,J⟩:=F n v;simp only;rw[J];exact Iq f B _ y5 _ A D z C t c.ao c.cap _ _ b r.rv.d a r.db N K G.u h i
def QD(w:World)(e:Ending)(w':World):Prop:=∃(L:List ik) (h':Hd),e=.returned (.slice h'.ao L.length h'.cap)/\gw w w' h' (fM L)/\L.length<=100000
theorem K0(x:dn b f H o M w L)(h:∀k,L=some k->k<H.length/\((fE H k).1==0)=true)(g:H.length<=4)(i:∀j,j<H.length->(ak H j).size<=1024) :
  Calls prog 22 #[.pointer (some ⟨f,0,none⟩)] b fun e l=>QD b e l:=by
 have p:=x.s
 cases L with
 | none =>
  obtain⟨y,z,A,r⟩:=p;refine(JH f _ y z A b r.d).mono (fun e l q=>⟨[],⟨none,0⟩,q.1,?_,by simp⟩);rw[q.2];exact⟨QZ _ _ _ _,(by intro k c;cases c),ab.refl _ _⟩
 | some k =>
  obtain⟨c,u⟩:=h k rfl;obtain⟨G,P,O⟩:=zX g i c u;obtain⟨I,F,K,E,J,D,N,m,n,r⟩:=p;have v:=r.fin.tell;have Q:(aj (cC H k).1).length<=(cC H k).1.length:=oG _ _;have a:m.length<=100000:=by rw[v.len];omega
  refine(JG f m n.ao n.cap _ _ _ b r.rv.d (aw.srcG (f:=jJ) r.s2 (fun _=>rfl)) a).mono (fun e l q=>?_);obtain⟨t,B,C⟩:=q;exact⟨_,t,B,C,Q3 (Sc _ _) a⟩
def rB(b t:Nat)(c:List Value):It where
 B:=[b]
 P w:=w.heap[b]?=some (.cells c.toArray t (0,0))
 lt w h q hq:=by rw[Q9.1 hq];exact ae h
 ok S w w' h k hb:=k.get h (hb b (by simp))
def ce(h:Hd)(r:dN):It where
 B:=h.blk.toList
 P w:=aw w h r
 lt w o q hq:=o.lt (aN hq)
 ok S w w' o k hb:=o.Vg (fun q hq=>k.block q (o.lt hq) (hb q (by rw[hq];simp)))
def O6(x:Nat)(fs:Fs)(lo hi:Nat)(st:Option Nat):It where
 B:=x :: ie lo hi
 P w:=dE w x fs lo hi st
 lt _ a q hq:=a.lt q hq
 ok _ _ _ a k hb:=a.kept k hb
def O4(v:Nat)(h:Hd)(fs:Fs)(lo hi:Nat)(st:Option Nat):It where
 B:=v :: (h.blk.toList++ie lo hi)
 P w:=dn w v fs h lo hi st
 lt _ a q hq:=a.lt q hq
 ok _ _ _ a k hb:=a.kept k hb
def zw(fs:Fs):Prop:=∀j,j<fs.length->(ak fs j).size<=1024
structure iG(w:World)(bo:Option Nat)(fs:Fs):Prop where
 nil:bo=none->fs=[]
 blk:∀b,bo=some b->w.heap[b]?=some (.cells (qK fs).toArray 68 (0,0))
def uI(bo:Option Nat)(fs:Fs):It where
 B:=bo.toList
 P w:=iG w bo fs
 lt w a q hq:=by
  cases bo with
  | none=>cases hq
  | some b=>rw[UI,Q9]at hq;rw[hq];exact ae (a.blk b rfl)
 ok S w w' a k hb:=⟨a.nil,fun b e=>k.get (a.blk b e) (hb b (by rw[e];simp))⟩
def Aj(x:Option Nat×Fs):Value:=.slice (wD x.1) x.2.length x.2.length
def ig(l:List (Option Nat×Fs)):dN:=⟨33,1,l.length,l.map Aj⟩
def NY(x:Nat):Value:=.pointer (some ⟨x,0,none⟩)
def lB(t:Nat)(l:List Nat):dN:=⟨t,1,l.length,l.map NY⟩
structure Mc where
 hx:Hd
 hm:Hd
 hr:Hd
 hl:Hd
 hc:Hd
 V:List (Nat×Nat×Fs)
 reg:Fs
 L:List (Option Nat×Option Nat×Fs)
 a:Int
 n:Int
 e:Int
 u:Int
 s:ByteArray
 p:Int
 q:Int
 f:ByteArray
 i:Int
 j:Int
 qv:Value
 tv:Value
def Mc.cells(M:Mc):List Value:=[.slice M.hx.ao M.V.length M.hx.cap,.slice M.hm.ao M.V.length M.hm.cap,.slice M.hr.ao M.reg.length M.hr.cap,.slice M.hl.ao M.L.length M.hl.cap,.slice M.hc.ao M.L.length M.hc.cap,.int .i64 M.a,.int .i64 M.n,.int .i64 M.e,.int .i64 M.u,.string M.s,.int .i64 M.p,.int .i64 M.q,.string M.f,.int .i64 M.i,.int .i64 M.j,M.qv,M.tv]
structure bZ(w:World)(b:Nat)(I:Nat×Nat->It)(M:Mc)(N:Nat):Prop where
 sep:nJ w I
 w0:I (0,0)=rB b 42 M.cells
 x:I (1,0)=ce M.hx (lB 46 (M.V.map (·.1)))
 m:I (2,0)=ce M.hm (lB 47 (M.V.map (·.2.1)))
 r:I (3,0)=ce M.hr (cr M.reg)
 ls:I (4,0)=ce M.hl (ig (M.L.map (fun l=>(l.1,l.2.2))))
 lw:I (5,0)=ce M.hc (ig (M.L.map (fun l=>(l.2.1,l.2.2))))
 v:∀i x m fs,M.V[i]?=some (x,m,fs)->(∃st h lo hi lo2 hi2,I (6,i)=O6 x fs lo hi st/\I (7,i)=O4 m h fs lo2 hi2 st)/\zw fs
 l:∀k a c fs,M.L[k]?=some (a,c,fs)->I (8,k)=uI a fs/\I (9,k)=uI c fs/\ld fs/\fs.length<=N
 fit:ld M.reg
 len:M.V.length<=N/\M.reg.length<=N/\M.L.length<=N
 rng:qB M.a/\qB M.n/\qB M.e
structure rh(I:Nat×Nat->It)(M:Mc)(I':Nat×Nat->It)(M':Mc):Prop where
 k:∀j i,10<=j->I' (j,i)=I (j,i)
 q:M'.qv=M.qv
 t:M'.tv=M.tv
theorem rh.refl(M:Mc):rh m M m M:=⟨fun _ _ _=>rfl,rfl,rfl⟩
theorem oY{a:It}(b:l<10)(c:10<=N):fk i (l,S) a (N,vs)=i (N,vs):=aq _ _ (bn (by omega))
theorem bZ.Vb{M:Mc}(h:bZ n l i M S)(k:ab [] n g):bZ g l i M S:={ h with sep:=h.sep.Vb k }
theorem bZ.more{M:Mc}(h:bZ n l i M S):bZ n l i M (S+1) :=
 { h with l:=fun k a c g e=>by obtain⟨b,d,f,j⟩:=h.l k a c g e;exact⟨b,d,f,by omega⟩,len:=by obtain⟨b,d,f⟩:=h.len;exact⟨by omega,by omega,by omega⟩ }
theorem bZ.blk{M:Mc}(h:bZ n l i M S):n.heap[l]?=some (.cells M.cells.toArray 42 (0,0)):=by
 have:=h.sep.all (0,0);rw[h.w0]at this;exact this
theorem bZ.ownX{M:Mc}(h:bZ n l i M S):aw n M.hx (lB 46 (M.V.map (·.1))):=by have:=h.sep.all (1,0);rw[h.x]at this;exact this
theorem bZ.ownM{M:Mc}(h:bZ n l i M S):aw n M.hm (lB 47 (M.V.map (·.2.1))):=by have:=h.sep.all (2,0);rw[h.m]at this;exact this
theorem bZ.ownR{M:Mc}(h:bZ n l i M S):aw n M.hr (cr M.reg):=by have:=h.sep.all (3,0);rw[h.r]at this;exact this
theorem bZ.ownL{M:Mc}(h:bZ n l i M S):aw n M.hl (ig (M.L.map (fun a=>(a.1,a.2.2)))):=by have:=h.sep.all (4,0);rw[h.ls]at this;exact this
theorem bZ.ownC{M:Mc}(h:bZ n l i M S):aw n M.hc (ig (M.L.map (fun a=>(a.2.1,a.2.2)))):=by have:=h.sep.all (5,0);rw[h.lw]at this;exact this
theorem nJ.grow(s:nJ n i)(e:i yg=ce I wu)(c:bt n g I yf)(o:aw g yf wv):nJ g (fk i yg (ce yf wv)):=by
 refine s.put yg _ (by rw[e];exact c.kept) o (fun q a=>?_);have a:=aN a
 rcases c.blk with b | ⟨f,b,d⟩
 ·left;rw[e];show q∈I.blk.toList;rw[<-b,a];simp
 ·right;rw[b]at a;cases a;exact d
theorem nJ.turn{a:List Value}(s:nJ n i)(e:i yg=rB l S vc)(b:ab [l] n g)(o:g.heap[l]?=some (.cells a.toArray S (0,0))):nJ g (fk i yg (rB l S a)) :=
 s.put yg _ (by rw[e];exact b) o (fun q c=>by rw[e];exact Q1 c)
def iB(b:Nat)(I:Nat×Nat->It)(M:Mc)(N:Nat)(r:Bool)(e:Ending)(w':World):Prop:=e=.returned (.bool r)/\∃I' M',bZ w' b I' M' (N+1)/\rh I M I' M'
theorem bZ.turn0{M M':Mc}(h:bZ n l i M S)(e:(M'.hx=M.hx/\M'.hm=M.hm/\M'.hr=M.hr/\M'.hl=M.hl/\M'.hc=M.hc)/\M'.V=M.V/\M'.reg=M.reg/\M'.L=M.L)(k:ab [l] n g)(o:g.heap[l]?=some (.cells M'.cells.toArray 42 (0,0)))(A:qB M'.a/\qB M'.n/\qB M'.e):bZ g l (fk i (0,0) (rB l 42 M'.cells)) M' S:=by
 obtain⟨⟨s,t,u,w,y⟩,d,j,f⟩:=e;have q:∀a b,a≠0->fk i (0,0) (rB l 42 M'.cells) (a,b)=i (a,b):=fun a b z=>aq _ _ (bn z)
 exact {
  sep:=h.sep.turn h.w0 k o
  w0:=bJ _ _ _
  x:=by rw[q 1 0 (by decide),s,d];exact h.x
  m:=by rw[q 2 0 (by decide),t,d];exact h.m
  r:=by rw[q 3 0 (by decide),u,j];exact h.r
  ls:=by rw[q 4 0 (by decide),w,f];exact h.ls
  lw:=by rw[q 5 0 (by decide),y,f];exact h.lw
  v:=fun b x m p c=>by rw[q 6 b (by decide),q 7 b (by decide)];rw[d]at c;exact h.v b x m p c
  l:=fun b x m p c=>by rw[q 8 b (by decide),q 9 b (by decide)];rw[f]at c;exact h.l b x m p c
  fit:=by rw[j];exact h.fit
  len:=by rw[d,j,f];exact h.len
  rng:=A }
theorem bZ.boxed{M:Mc}(h:bZ n l i M S)(k a c d:Int)(s t:ByteArray)(W:World)(b:n.alloc (.cells #[.int .i64 k,.int .i64 a,.int .i64 c,.int .i64 d,.string s,.string t] 28)=W) :
  bZ W l i M S/\W.heap[n.heap.size]?=some (.cells #[.int .i64 k,.int .i64 a,.int .i64 c,.int .i64 d,.string s,.string t] 28 (0,0))/\l<n.heap.size/\ab [] n W:=by
 have e:ab [] n W:=by rw[<-b];exact(ab.refl [] _).alloc _
 exact⟨h.Vb e,by rw[<-b];exact QS _ _,ae h.blk,e⟩
theorem cQ{a c d:Int}(h:n.heap[l]?=some (.cells #[.int .i64 wd,.int .i64 a,.int .i64 c,.int .i64 d,.string y9,.string yd] 28 (0,0))) :
  n.cell? ⟨l,0,none⟩=some (.int .i64 wd)/\n.cell? ⟨l,1,none⟩=some (.int .i64 a)/\n.cell? ⟨l,2,none⟩=some (.int .i64 c)/\n.cell? ⟨l,3,none⟩=some (.int .i64 d)/\n.cell? ⟨l,4,none⟩=some (.string y9)/\n.cell? ⟨l,5,none⟩=some (.string yd)/\l<n.heap.size:=by
 refine⟨?_,?_,?_,?_,?_,?_,ae h⟩ <;> (rw[aa h];rfl)
set_option maxRecDepth 100000
theorem Pg(M:Mc)(A C D:Int)(s t:ByteArray)(c:World)(h:bZ c w m M a)(o:qB A)(p:qB C)(q:qB D) :
  Calls prog 11 #[.pointer (some ⟨w,0,none⟩),.agg #[.int .i64 7,.int .i64 A,.int .i64 C,.int .i64 D,.string s,.string t]] c fun e x=>iB w m M a true e x:=by
 obtain⟨W,d⟩:∃W,Hid (c.alloc (.cells #[.int .i64 7,.int .i64 A,.int .i64 C,.int .i64 D,.string s,.string t] 28)=W):=⟨_,rfl⟩
 obtain⟨b,f,r,-⟩:=h.boxed 7 A C D s t W d.out;obtain⟨G,H,I,J,K,L,N⟩:=cQ f;have z:W.cell? ⟨w,5,none⟩=some (.int .i64 M.a):=by rw[aa b.blk];rfl
 have B:W.cell? ⟨w,6,none⟩=some (.int .i64 M.n):=by rw[aa b.blk];rfl
 have E:W.cell? ⟨w,7,none⟩=some (.int .i64 M.e):=by rw[aa b.blk];rfl
 have F:=am b.blk;have y:=ae b.blk;have v:w≠c.heap.size:=by omega
 have g:c.heap.size≠w:=by omega
 have k:Hid (bZ (((W.setCell ⟨w,5,none⟩ (.int .i64 A)).setCell ⟨w,6,none⟩ (.int .i64 C)).setCell ⟨w,7,none⟩ (.int .i64 D)) w _ { M with a:=A,n:=C,e:=D } a) :=
  b.turn0 (M':={ M with a:=A,n:=C,e:=D }) ⟨⟨rfl,rfl,rfl,rfl,rfl⟩,rfl,rfl,rfl⟩ ((((ab.refl [w] _).setCell (Q1 (by simp)) _).setCell (Q1 (by simp)) _).setCell (Q1 (by simp)) _) (by rw[ah (ah (ah b.blk 5 _) 6 _) 7 _];rfl) ⟨o,p,q⟩
 clear h b f;go_enter func11,ntmps11
 go_upto_region 1 with fail
 rw[d.out];go_wp2;go_ret;exact⟨rfl,_,_,k.out.more,⟨fun j i u=>oY (by decide) u,rfl,rfl⟩⟩
theorem NI(M:Mc)(A C D:Int)(s t:ByteArray)(c:World)(h:bZ c w m M a) :
  Calls prog 11 #[.pointer (some ⟨w,0,none⟩),.agg #[.int .i64 16,.int .i64 A,.int .i64 C,.int .i64 D,.string s,.string t]] c fun e p=>iB w m M a true e p:=by
 obtain⟨W,d⟩:∃W,Hid (c.alloc (.cells #[.int .i64 16,.int .i64 A,.int .i64 C,.int .i64 D,.string s,.string t] 28)=W):=⟨_,rfl⟩
 obtain⟨b,f,l,-⟩:=h.boxed 16 A C D s t W d.out;obtain⟨x,y,z,B,E,F,G⟩:=cQ f;have v:=am b.blk;have q:=ae b.blk;have o:w≠c.heap.size:=by omega
 have g:c.heap.size≠w:=by omega
 have r:W.cell? ⟨w,8,none⟩=some (.int .i64 M.u):=by rw[aa b.blk];rfl
 have k:Hid (bZ (W.setCell ⟨w,8,none⟩ (.int .i64 A)) w _ { M with u:=A } a) :=
  b.turn0 (M':={ M with u:=A }) ⟨⟨rfl,rfl,rfl,rfl,rfl⟩,rfl,rfl,rfl⟩ ((ab.refl [w] _).setCell (Q1 (by simp)) _) (by rw[ah b.blk 8 _];rfl) b.rng
 clear h b f;go_enter func11,ntmps11
 go_upto_region 1 with fail
 rw[d.out];go_wp2;go_ret;exact⟨rfl,_,_,k.out.more,⟨fun j i n=>oY (by decide) n,rfl,rfl⟩⟩
theorem NJ(M:Mc)(A C D:Int)(s t:ByteArray)(c:World)(h:bZ c w m M a)(n:M.qv=.slice none 0 0) :
  Calls prog 11 #[.pointer (some ⟨w,0,none⟩),.agg #[.int .i64 17,.int .i64 A,.int .i64 C,.int .i64 D,.string s,.string t]] c fun e o=>iB w m M a true e o:=by
 obtain⟨W,d⟩:∃W,Hid (c.alloc (.cells #[.int .i64 17,.int .i64 A,.int .i64 C,.int .i64 D,.string s,.string t] 28)=W):=⟨_,rfl⟩
 obtain⟨b,f,k,-⟩:=h.boxed 17 A C D s t W d.out;obtain⟨r,u,v,x,y,z,B⟩:=cQ f;have q:=am b.blk;have p:=ae b.blk;have l:w≠c.heap.size:=by omega
 have g:c.heap.size≠w:=by omega
 have j:W.cell? ⟨w,15,none⟩=some (.slice none 0 0):=by rw[aa b.blk,<-n];rfl
 have i:Hid (bZ W w m M a):=b;clear h b f;go_enter func11,ntmps11
 go_upto_region 1 with fail
 rw[d.out];go_wp2;go_ret;exact⟨rfl,_,_,i.out.more,rh.refl _ _⟩
theorem lq(M:Mc)(k A C D:Int)(s t:ByteArray)(d:World)(h:bZ d w m M a)(o:(8<=k/\k<=14)∨19<=k) :
  Calls prog 11 #[.pointer (some ⟨w,0,none⟩),.agg #[.int .i64 k,.int .i64 A,.int .i64 C,.int .i64 D,.string s,.string t]] d fun e x=>e=.returned (.bool false)/\ab [] d x:=by
 obtain⟨W,i⟩:∃W,Hid (d.alloc (.cells #[.int .i64 k,.int .i64 A,.int .i64 C,.int .i64 D,.string s,.string t] 28)=W):=⟨_,rfl⟩
 obtain⟨l,f,n,c⟩:=h.boxed k A C D s t W i.out;obtain⟨I,-⟩:=cQ f;have j:Hid (ab [] d W):=c;have J:=ae f;have b:∀g:Int,(k=g->False)->(k==g)=false:=fun g p=>Rh.2 p
 have y:=b 1 (by omega);have z:=b 2 (by omega);have B:=b 3 (by omega);have E:=b 4 (by omega);have F:=b 5 (by omega);have G:=b 6 (by omega);have H:=b 7 (by omega);have q:=b 15 (by omega);have r:=b 16 (by omega);have u:=b 17 (by omega);have v:=b 18 (by omega);clear h l f b o c;go_enter func11,ntmps11
 go_upto_region 1 with fail
 rw[i.out];go_wp2;go_ret;exact⟨rfl,j.out⟩
theorem NH(M:Mc)(A C D:Int)(s t:ByteArray)(c:World)(h:bZ c w m M a) :
  Calls prog 11 #[.pointer (some ⟨w,0,none⟩),.agg #[.int .i64 15,.int .i64 A,.int .i64 C,.int .i64 D,.string s,.string t]] c fun e E=>iB w m M a true e E:=by
 obtain⟨W,d⟩:∃W,Hid (c.alloc (.cells #[.int .i64 15,.int .i64 A,.int .i64 C,.int .i64 D,.string s,.string t] 28)=W):=⟨_,rfl⟩
 obtain⟨b,g,y,-⟩:=h.boxed 15 A C D s t W d.out;obtain⟨J,K,L,N,O,P,Q⟩:=cQ g;have I:=am b.blk;have F:=ae b.blk;have B:w≠c.heap.size:=by omega
 have k:c.heap.size≠w:=by omega
 have G:W.cell? ⟨w,8,none⟩=some (.int .i64 M.u):=by rw[aa b.blk];rfl
 have H:W.cell? ⟨w,9,none⟩=some (.string M.s):=by rw[aa b.blk];rfl
 have n:W.cell? ⟨w,10,none⟩=some (.int .i64 M.p):=by rw[aa b.blk];rfl
 have o:W.cell? ⟨w,11,none⟩=some (.int .i64 M.q):=by rw[aa b.blk];rfl
 have r:W.cell? ⟨w,12,none⟩=some (.string M.f):=by rw[aa b.blk];rfl
 have v:W.cell? ⟨w,13,none⟩=some (.int .i64 M.i):=by rw[aa b.blk];rfl
 have x:W.cell? ⟨w,14,none⟩=some (.int .i64 M.j):=by rw[aa b.blk];rfl
 have l:Hid (bZ (((((((W.setCell ⟨w,9,none⟩ (.string s)).setCell ⟨w,10,none⟩ (.int .i64 A)).setCell ⟨w,11,none⟩ (.int .i64 C)).setCell ⟨w,12,none⟩ (.string t)).setCell ⟨w,13,none⟩ (.int .i64 D)).setCell ⟨w,14,none⟩ (.int .i64 M.u)).drew) w _ { M with s:=s,p:=A,q:=C,f:=t,i:=D,j:=M.u } a) :=
  (b.turn0 (M':={ M with s:=s,p:=A,q:=C,f:=t,i:=D,j:=M.u }) ⟨⟨rfl,rfl,rfl,rfl,rfl⟩,rfl,rfl,rfl⟩ ((((((((ab.refl [w] _).setCell (Q1 (by simp)) _).setCell (Q1 (by simp)) _).setCell (Q1 (by simp)) _).setCell (Q1 (by simp)) _).setCell (Q1 (by simp)) _).setCell (Q1 (by simp)) _)) (by rw[ah (ah (ah (ah (ah (ah b.blk 9 _) 10 _) 11 _) 12 _) 13 _) 14 _];rfl) b.rng).Vb (ab.refl [] _).drew
 clear h b g;go_enter func11,ntmps11
 go_upto_region 1 with fail
 rw[d.out]
 go_upto_region 38 with fail
 go_region
 all_goals go_wp2
 all_goals go_ret
 all_goals exact⟨rfl,_,_,l.out.more,⟨fun j i z=>oY (by decide) z,rfl,rfl⟩⟩
theorem bZ.clear{M:Mc}(h:bZ n l i M S)(k:ab [l] n g)(o:g.heap[l]?=some (.cells ({ M with hr:=⟨none,0⟩,reg:=[] }:Mc).cells.toArray 42 (0,0))):∃f,bZ g l f { M with hr:=⟨none,0⟩,reg:=[] } S/\rh i M f { M with hr:=⟨none,0⟩,reg:=[] }:=by
 have y:=h.sep.turn h.w0 k o;have z:=y.put (3,0) (ce ⟨none,0⟩ (cr [])) ((ab.refl _ g).mono (fun _ w _=>w)) (QZ _ _ _ _) (fun q u=>by cases u);refine⟨fk (fk i (0,0) (rB l 42 ({ M with hr:=⟨none,0⟩,reg:=[] }:Mc).cells)) (3,0) (ce ⟨none,0⟩ (cr [])),?_,?_⟩
 rotate_left
 ·exact⟨fun j b t=>by(repeat rw[oY (by decide) t]),rfl,rfl⟩
 have q:∀a b,a≠0->a≠3->(fk (fk i (0,0) (rB l 42 ({ M with hr:=⟨none,0⟩,reg:=[] }:Mc).cells)) (3,0) (ce ⟨none,0⟩ (cr []))) (a,b)=i (a,b):=fun a b p s=>by rw[aq _ _ (bn s),aq _ _ (bn p)]
 exact {
  sep:=z
  w0:=by rw[aq _ _ (bn (by decide))];exact bJ _ _ _
  x:=by rw[q 1 0 (by decide) (by decide)];exact h.x
  m:=by rw[q 2 0 (by decide) (by decide)];exact h.m
  r:=bJ _ _ _
  ls:=by rw[q 4 0 (by decide) (by decide)];exact h.ls
  lw:=by rw[q 5 0 (by decide) (by decide)];exact h.lw
  v:=fun b x m d e=>by rw[q 6 b (by decide) (by decide),q 7 b (by decide) (by decide)];exact h.v b x m d e
  l:=fun b x m d e=>by rw[q 8 b (by decide) (by decide),q 9 b (by decide) (by decide)];exact h.l b x m d e
  fit:=fun j=>⟨by show(0:Nat)<=_;omega,by show(0:Nat)<=_;omega⟩
  len:=⟨h.len.1,Ro _,h.len.2.2⟩
  rng:=h.rng }
theorem Pc(b N:Nat)(I:Nat×Nat->It)(M:Mc)(A C D:Int)(s t:ByteArray)(w:World)(h:bZ w b I M N) :
  Calls prog 11 #[.pointer (some ⟨b,0,none⟩),.agg #[.int .i64 3,.int .i64 A,.int .i64 C,.int .i64 D,.string s,.string t]] w fun e o=>iB b I M N true e o:=by
 obtain⟨W,f⟩:∃W,Hid (w.alloc (.cells #[.int .i64 3,.int .i64 A,.int .i64 C,.int .i64 D,.string s,.string t] 28)=W):=⟨_,rfl⟩
 obtain⟨a,g,l,-⟩:=h.boxed 3 A C D s t W f.out;obtain⟨u,v,x,y,z,B,E⟩:=cQ g;have r:=am a.blk;have p:=ae a.blk;have m:b≠w.heap.size:=by omega
 have i:w.heap.size≠b:=by omega
 have q:W.cell? ⟨b,2,none⟩=some (.slice M.hr.ao M.reg.length M.hr.cap):=by rw[aa a.blk];rfl
 have j:Hid (∃c,bZ (W.setCell ⟨b,2,none⟩ (.slice none 0 0)) b c { M with hr:=⟨none,0⟩,reg:=[] } N/\rh I M c { M with hr:=⟨none,0⟩,reg:=[] }) :=
  a.clear ((ab.refl [b] _).setCell (Q1 (by simp)) _) (by rw[ah a.blk 2 _];rfl)
 clear h a g;go_enter func11,ntmps11
 go_upto_region 1 with fail
 rw[f.out];go_wp2;go_ret;obtain⟨c,k,d⟩:=j.out;exact⟨rfl,c,_,k.more,d⟩
theorem cZ{d:List Oper}(H:x5.guard=none)(s x:Operand)(t:TypeId)(q:x5.op=Op.call { callee:=Callee.builtin Builtin.append,args:=#[s,x],argTypes:=#[t,t] })(i:TypeInfo)(z:Value)(c:Nat)(h:Hd)(r:dN)(a:List Value)(w:x8.underlying t=some (.slice r.e))(y:x8.info? r.e=some i)(A:i.zero=some z)(B:i.size=r.size)(C:i.bytes=c)(D:z.cells.size=r.size)(E:0<r.size)(L:v5.eval s=.slice h.ao r.n h.cap)(f:aw b h r)(Q:r.n<=4294967296)(G:c<=1000)(M:v5.eval x=.slice (some ⟨b.heap.size,0,none⟩) 1 1)(R:a.length=r.size)(m:∀u∈a,u.oneCell'=true)(F:∀l k,aw k l ⟨r.e,r.size,r.n+1,r.xs++a⟩->bt b k h l->wpList x8 u3 u4 d (v5.put x5.dst (.slice l.ao (r.n+1) l.cap)) k) :
  wpList x8 u3 u4 (x5 :: d) v5 (b.alloc (.cells a.toArray r.e)):=by
 have v:ab [] b (b.alloc (.cells a.toArray r.e)):=(ab.refl [] _).alloc _;have J:(b.alloc (.cells a.toArray r.e)).heap[b.heap.size]?=some (.cells a.toArray r.e (0,0)):=QS _ _;obtain⟨p,k,g,N,O⟩:=pE (P:=x8) (b.alloc (.cells a.toArray r.e)) t x5.type i z c h r w y A B C D E (f.Vb v) (some ⟨b.heap.size,0,none⟩) 1 1 a (by omega) (fun e=>by cases e) (fun P e j u I=>by cases e;rw[bL,aa J];simpa using I) m (by unfold maxLen;omega) (Q3 (SL (show r.n+1<=4294967297 by omega) G) (by omega));refine wpList_plain H fun K o=>?_
 unfold Oper.wp;simp[execOp,q,resolve,invoke,builtin,L,M,g,Result.andThen];exact o _ _ (F p k N ((bt.Vb v).trans O))
theorem uo{K:Act->World->Prop}{E:Prop}(H:x5.guard=none)(s x:Operand)(t:TypeId)(p:x5.op=Op.call { callee:=Callee.builtin Builtin.append,args:=#[s,x],argTypes:=#[t,t] })(i:TypeInfo)(z:Value)(c:Nat)(h:Hd)(r:dN)(a:List Value)(v:x8.underlying t=some (.slice r.e))(w:x8.info? r.e=some i)(y:i.zero=some z)(A:i.size=r.size)(B:i.bytes=c)(C:z.cells.size=r.size)(D:0<r.size)(L:v5.eval s=.slice h.ao r.n h.cap)(k:aw b h r)(R:r.n<=4294967296)(G:c<=1000)(N:v5.eval x=.slice (some ⟨b.heap.size,0,none⟩) 1 1)(S:a.length=r.size)(o:∀u∈a,u.oneCell'=true)(F:∀f d m,aw m ⟨f,d⟩ ⟨r.e,r.size,r.n+1,r.xs++a⟩->bt b m h ⟨f,d⟩->K (v5.put x5.dst (.slice f (r.n+1) d)) m) :
  if Region.wanted x5 (yielded u3 v5.tmps)=true then Oper.wp x8 x5 v5 (b.alloc (.cells a.toArray r.e)).drew K u4 else E:=by
 have q:ab [] b (b.alloc (.cells a.toArray r.e)).drew:=((ab.refl [] _).alloc _).drew;have J:(b.alloc (.cells a.toArray r.e)).drew.heap[b.heap.size]?=some (.cells a.toArray r.e (0,0)):=QS _ _;obtain⟨g,m,l,O,P⟩:=pE (P:=x8) (b.alloc (.cells a.toArray r.e)).drew t x5.type i z c h r v w y A B C D (k.Vb q) (some ⟨b.heap.size,0,none⟩) 1 1 a (by omega) (fun e=>by cases e) (fun Q e j u I=>by cases e;rw[bL,aa J];simpa using I) o (by unfold maxLen;omega) (Q3 (SL (show r.n+1<=4294967297 by omega) G) (by omega));have M:Region.wanted x5 (yielded u3 v5.tmps)=true:=by simp[Region.wanted,H]
 rw[QW M];unfold Oper.wp;simp[execOp,p,resolve,invoke,builtin,L,N,l,Result.andThen];exact F g.ao g.cap m O ((bt.Vb q).trans P)
theorem nJ.grown(s:nJ n i)(d:i (0,0)=rB l S vc)(h:yg≠(0,0))(e:i yg=ce I wu)(f:bt n g I yf)(o:aw g yf wv)(j:Nat)(v:Value) :
  nJ (g.setCell ⟨l,j,none⟩ v) (fk (fk i yg (ce yf wv)) (0,0) (rB l S (vc.set j v))):=by
 have c:=s.grow e f o;have a:fk i yg (ce yf wv) (0,0)=rB l S vc:=by rw[aq _ _ (Ne.symm h)];exact d
 refine c.turn a ((ab.refl [l] _).setCell (Q1 (by simp)) _) ?_;have b:=c.all (0,0);rw[a]at b;rw[ah (show g.heap[l]?=some (.cells vc.toArray S (0,0)) from b) j v,Ru]
theorem JC(f:ByteArray×ByteArray):∀u∈Ou f,u.oneCell'=true:=by
 intro u a;simp only[Ou,List.mem_cons,List.not_mem_nil,or_false]at a
 rcases a with rfl | rfl <;> rfl
theorem zR(h:ld v)(b:y9.size<=1073741824)(a:yd.size<=1073741824):ld (v++[(y9,yd)]):=by
 intro j;have:=h j;unfold aE ak at *;rw[QQ]at *
 by_cases e:j<v.length
 ·rw[Q7 e];exact this
 ·rw[Q5 (by omega)]
  cases c:j-v.length with
  | zero=>exact⟨b,a⟩
  | succ q=>exact⟨by show(0:Nat)<=_;omega,by show(0:Nat)<=_;omega⟩
theorem bZ.addR{M:Mc}(h:bZ n l i M S)(p:bt n g M.hr I)(o:aw g I (cr (M.reg++[(y9,yd)])))(y:y9.size<=1073741824)(u:yd.size<=1073741824):∃f k,bZ (g.setCell ⟨l,2,none⟩ (.slice I.ao (M.reg.length+1) I.cap)) l f k (S+1)/\rh i M f k:=by
 have z:=h.sep.grown h.w0 (bn (by decide)) h.r p o 2 (.slice I.ao (M.reg.length+1) I.cap);refine⟨fk (fk i (3,0) (ce I (cr (M.reg++[(y9,yd)])))) (0,0) (rB l 42 (M.cells.set 2 (.slice I.ao (M.reg.length+1) I.cap))),{ M with hr:=I,reg:=M.reg++[(y9,yd)] },?_,?_⟩
 rotate_left
 ·exact⟨fun j b w=>by(repeat rw[oY (by decide) w]),rfl,rfl⟩
 have q:∀a b,a≠0->a≠3->(fk (fk i (3,0) (ce I (cr (M.reg++[(y9,yd)])))) (0,0) (rB l 42 (M.cells.set 2 (.slice I.ao (M.reg.length+1) I.cap)))) (a,b)=i (a,b):=fun a b s t=>by rw[aq _ _ (bn s),aq _ _ (bn t)]
 have d:=h.more
 exact {
  sep:=z
  w0:=by rw[bJ];unfold Mc.cells;rw[Q0];rfl
  x:=by rw[q 1 0 (by decide) (by decide)];exact h.x
  m:=by rw[q 2 0 (by decide) (by decide)];exact h.m
  r:=by rw[aq _ _ (bn (by decide))];exact bJ _ _ _
  ls:=by rw[q 4 0 (by decide) (by decide)];exact h.ls
  lw:=by rw[q 5 0 (by decide) (by decide)];exact h.lw
  v:=fun b x m c e=>by rw[q 6 b (by decide) (by decide),q 7 b (by decide) (by decide)];exact h.v b x m c e
  l:=fun b x m c e=>by rw[q 8 b (by decide) (by decide),q 9 b (by decide) (by decide)];exact d.l b x m c e
  fit:=zR h.fit y u
  len:=⟨d.len.1,by have:=h.len.2.1;show(M.reg++[(y9,yd)]).length<=_;rw[Q0];show _+1<=_;omega,d.len.2.2⟩
  rng:=h.rng }
theorem Pb(M:Mc)(A C D:Int)(s t:ByteArray)(l:World)(h:bZ l w m M a)(Z:a<=1073741824)(O:s.size<=1073741824)(P:t.size<=1073741824) :
  Calls prog 11 #[.pointer (some ⟨w,0,none⟩),.agg #[.int .i64 2,.int .i64 A,.int .i64 C,.int .i64 D,.string s,.string t]] l fun e R=>iB w m M a true e R:=by
 obtain⟨W,x⟩:∃W,Hid (l.alloc (.cells #[.int .i64 2,.int .i64 A,.int .i64 C,.int .i64 D,.string s,.string t] 28)=W):=⟨_,rfl⟩
 obtain⟨b,z,K,-⟩:=h.boxed 2 A C D s t W x.out;obtain⟨o0,o1,o2,o3,o4,o5,oz⟩:=cQ z;obtain⟨Q,q,i,j,k⟩:=Re zZ;have Y:=am b.blk;have T:=ae b.blk;have L:w≠l.heap.size:=by omega
 have B:l.heap.size≠w:=by omega
 have U:W.cell? ⟨w,2,none⟩=some (.slice M.hr.ao M.reg.length M.hr.cap):=by rw[aa b.blk];rfl
 have v:Hid (bZ W w m M a):=b;have o:=b.ownR;have p:Hid ((cr M.reg).n<=4294967296):=by show M.reg.length<=_;have:=h.len.2.1;omega
 have d:Hid ((cr M.reg).n=M.reg.length):=rfl;have c:Hid (w∉M.hr.blk.toList):=fun N=>b.sep.far (0,0) (3,0) (bn (by decide)) w (by rw[b.w0];exact Q9.2 rfl) (by rw[b.r];exact N)
 clear h b z;go_enter func11,ntmps11
 go_upto_region 1 with fail
 rw[x.out]
 go_upto_region 9 with fail
 go_region_law (refine uo W rfl (.tmp 51) (.tmp 57) 33 rfl Q (.agg #[.string ⟨#[]⟩,.string ⟨#[]⟩]) 32 M.hr (cr M.reg) (Ou (s,t)) underlying33 q i j k rfl Uq (by rw[d.out];simp[Act.eval]) o p.out (by omega) (by simp[Act.eval]) rfl (JC (s,t)) ?_;intro H y S g f;have u:=f.kept.get v.out.blk c.out;have X:=am u 2;have V:S.cell? ⟨w,2,none⟩=some (.slice M.hr.ao M.reg.length M.hr.cap):=(by rw[aa u];rfl);have z5:=ae u)
 all_goals
  rw[wX]at g;have E:Hid _:=v.out.addR f g O P;rw[d.out];go_wp2;go_ret;obtain⟨F,G,I,J⟩:=E.out;exact⟨rfl,F,G,I,J⟩
theorem OZ:(prog.info? 46).map (fun i=>(i.zero,i.size,i.bytes))=some (some (.pointer none),1,8):=by kernel_rfl
theorem OX:(prog.info? 47).map (fun i=>(i.zero,i.size,i.bytes))=some (some (.pointer none),1,8):=by kernel_rfl
theorem zd:(⟨(lB w vd).e,(lB w vd).size,(lB w vd).n+1,(lB w vd).xs++[NY a]⟩:dN)=lB w (vd++[a]):=by
 simp[lB]
theorem bZ.addV{M:Mc}(h:bZ n l i M S)(c:wz=fk (fk i (6,M.V.length) (O6 N [] 0 0 none)) (7,M.V.length) (O4 vs ⟨none,0⟩ [] 0 0 none))(q:nJ g (fk (fk (fk (fk wz (1,0) (ce I (lB 46 (M.V.map (·.1)++[N])))) (0,0) (rB l 42 (M.cells.set 0 (.slice I.ao (M.V.length+1) I.cap)))) (2,0) (ce yf (lB 47 (M.V.map (·.2.1)++[vs])))) (0,0) (rB l 42 ((M.cells.set 0 (.slice I.ao (M.V.length+1) I.cap)).set 1 (.slice yf.ao (M.V.length+1) yf.cap))))) :
  ∃k o,bZ g l k o (S+1)/\rh i M k o:=by
 refine⟨_,{ M with hx:=I,hm:=yf,V:=M.V++[(N,vs,[])] },⟨q,?_,?_,?_,?_,?_,?_,?_,?_,?_,?_,?_⟩,?_⟩
 ·rw[bJ];unfold Mc.cells;rw[Q0];rfl
 ·rw[aq _ _ (bn (by decide)),aq _ _ (bn (by decide)),aq _ _ (bn (by decide)),bJ,Ry];rfl
 ·rw[aq _ _ (bn (by decide)),bJ,Ry];rfl
 ·subst c;simp only[fk];exact h.r
 ·subst c;simp only[fk];exact h.ls
 ·subst c;simp only[fk];exact h.lw
 ·intro b x m d a
  rw[aq _ _ (bn (by decide)),aq _ _ (bn (by decide)),aq _ _ (bn (by decide)),aq _ _ (bn (by decide)),aq _ _ (bn (by decide)),aq _ _ (bn (by decide)),aq _ _ (bn (by decide)),aq _ _ (bn (by decide))];replace a:(M.V++[(N,vs,[])])[b]?=some (x,m,d):=a;subst c
  by_cases e:b<M.V.length
  ·rw[Q7 e]at a
   rw[aq _ _ (bn (by decide)),aq _ _ (rC (by omega)),aq _ _ (rC (by omega)),aq _ _ (bn (by decide))];exact h.v b x m d a
  ·have p:b=M.V.length:=by
    have:=(Q8.1 a).1;rw[Q0]at this;have:b<M.V.length+1:=this;omega
   subst p;rw[Q5 (QR _),RY]at a
   cases a
   rw[aq _ _ (bn (by decide)),bJ,bJ];exact⟨⟨none,⟨none,0⟩,0,0,0,0,rfl,rfl⟩,fun j f=>by cases f⟩
 ·intro b x m d a
  subst c;simp only[fk];exact h.more.l b x m d a
 ·exact h.fit
 ·refine⟨?_,h.more.len.2.1,h.more.len.2.2⟩
  have:=h.len.1
  show(M.V++[(N,vs,[])]).length<=_
  rw[Q0];show _+1<=_;omega
 ·exact h.rng
 ·subst c;exact⟨fun j b f=>by(repeat rw[oY (by decide) f]),rfl,rfl⟩
theorem Pa(M:Mc)(A C D:Int)(s t:ByteArray)(ap:World)(h:bZ ap w m M a)(hN:a<=1073741824) :
  Calls prog 11 #[.pointer (some ⟨w,0,none⟩),.agg #[.int .i64 1,.int .i64 A,.int .i64 C,.int .i64 D,.string s,.string t]] ap fun e w'=>iB w m M a true e w':=by
 obtain⟨W,HW⟩:∃W,Hid (ap.alloc (.cells #[.int .i64 1,.int .i64 A,.int .i64 C,.int .i64 D,.string s,.string t] 28)=W):=⟨_,rfl⟩
 obtain⟨hM,hB,ar,-⟩:=h.boxed 1 A C D s t W HW.out;obtain⟨o0,-⟩:=cQ hB;have oz:=ae hB;obtain⟨iX,an,P,Q,R⟩:=Re OZ;obtain⟨iM,al,L,N,O⟩:=Re OX;have p:Hid (bZ W w m M a):=hM;have ai:Hid ((lB 46 (M.V.map (·.1))).n<=4294967296):=by show(M.V.map _).length<=_;rw[Ri];have:=h.len.1;omega
 have ag:Hid ((lB 47 (M.V.map (·.2.1))).n<=4294967296):=by show(M.V.map _).length<=_;rw[Ri];have:=h.len.1;omega
 have B:Hid ((lB 46 (M.V.map (·.1))).n=M.V.length):=Ri _;have y:Hid ((lB 47 (M.V.map (·.2.1))).n=M.V.length):=Ri _;clear h hM hB;go_enter func11,ntmps11
 go_upto_region 1 with fail
 rw[HW.out]
 go_upto_region 5 with (go_at_call 27;refine QU (NN W) ?_;rintro e T ⟨rfl,hX,k1⟩)
 have S1:Hid _:=p.out.sep.put (6,M.V.length) (O6 W.heap.size [] 0 0 none) (k1.mono (by simp)) ⟨Ro _,hX⟩ (fun q k=>QV (by rcases Rj.1 k with e | e;exact US e.symm;exact absurd (ng.1 e).2 (T0 _)))
 go_upto_region 6 with (go_at_call 28;refine QU (IX T) ?_;rintro e w2 ⟨rfl,hY,k2⟩)
 have S2:Hid _:=(S1.out.put (7,M.V.length) (O4 T.heap.size ⟨none,0⟩ [] 0 0 none) (k2.mono (by simp)) ⟨Ro _,_,_,_,hY⟩ (fun q k=>QV (by rcases Rj.1 k with e | e;exact US e.symm;exact absurd (ng.1 (show q∈ie 0 0 from e)).2 (T0 _))));have b:Hid _:=(p.out.Vb k1).Vb k2;clear hX hY k1 k2;have c0:w2.cell? ⟨w,0,none⟩=some (.slice M.hx.ao M.V.length M.hx.cap):=by rw[aa b.out.blk];rfl
 have fb:=am b.out.blk;have bz:=ae b.out.blk;have G:=b.out.ownX;have v:Hid (w∉M.hx.blk.toList):=fun k=>b.out.sep.far (0,0) (1,0) (bn (by decide)) w (by rw[b.out.w0];exact Q9.2 rfl) (by rw[b.out.x];exact k)
 obtain⟨J,o⟩:∃J,Hid (J=fk (fk m (6,M.V.length) (O6 W.heap.size [] 0 0 none)) (7,M.V.length) (O4 T.heap.size ⟨none,0⟩ [] 0 0 none)):=⟨_,rfl⟩
 rw[<-o.out]at S2;have ac:Hid (J (0,0)=rB w 42 M.cells):=by show _=_;rw[o.out,aq _ _ (bn (by decide)),aq _ _ (bn (by decide))];exact p.out.w0
 have ad:Hid (J (1,0)=ce M.hx (lB 46 (M.V.map (·.1)))):=by show _=_;rw[o.out,aq _ _ (bn (by decide)),aq _ _ (bn (by decide))];exact p.out.x
 have af:Hid (J (2,0)=ce M.hm (lB 47 (M.V.map (·.2.1)))):=by show _=_;rw[o.out,aq _ _ (bn (by decide)),aq _ _ (bn (by decide))];exact p.out.m
 obtain⟨X,z⟩:∃X,Hid (W.heap.size=X):=⟨_,rfl⟩
 obtain⟨Y,E⟩:∃Y,Hid (T.heap.size=Y):=⟨_,rfl⟩
 rw[z.out,E.out]at o;rw[z.out,E.out]
 go_upto_region 7 with (at_builtin;refine cZ w2 rfl (.tmp 29) (.tmp 31) 31 rfl iX (.pointer none) 8 M.hx (lB 46 (M.V.map (·.1))) [NY X] underlying31 an P Q R rfl Rc (by rw[B.out];simp[Act.eval]) G ai.out (by omega) (by simp[Act.eval]) rfl (by simp[NY,Value.oneCell']) ?_;intro c w5 l j;rw[zd]at l;have S:=j.kept.get b.out.blk v.out;have f5:=am S;have c5:w5.cell? ⟨w,0,none⟩=some (.slice M.hx.ao M.V.length M.hx.cap):=(by rw[aa S];rfl);have z5:=ae S)
 rw[B.out];have r:Hid _:=(S2.out.grown ac.out (bn (by decide)) ad.out j l 0 (.slice c.ao (M.V.length+1) c.cap));obtain⟨u,Z⟩:∃u,Hid (w5.setCell ⟨w,0,none⟩ (.slice c.ao (M.V.length+1) c.cap)=u):=⟨_,rfl⟩
 rw[Z.out]at r ⊢;have d:Hid _:=bJ (fk J (1,0) (ce c (lB 46 (M.V.map (·.1)++[X])))) (0,0) (rB w 42 (M.cells.set 0 (.slice c.ao (M.V.length+1) c.cap)));obtain⟨J6,g⟩:∃J6,Hid (fk (fk J (1,0) (ce c (lB 46 (M.V.map (·.1)++[X])))) (0,0) (rB w 42 (M.cells.set 0 (.slice c.ao (M.V.length+1) c.cap)))=J6):=⟨_,rfl⟩
 have i:Hid (J6 (2,0)=ce M.hm (lB 47 (M.V.map (·.2.1)))):=by show _=_;rw[<-g.out,aq _ _ (bn (by decide)),aq _ _ (bn (by decide))];exact af.out
 rw[g.out]at r d
 have F:u.heap[w]?=some (.cells (M.cells.set 0 (.slice c.ao (M.V.length+1) c.cap)).toArray 42 (0,0)):=by
  have:=r.out.all (0,0);rw[d.out]at this;exact this
 have U:Hid _:=F
 have H:aw u M.hm (lB 47 (M.V.map (·.2.1))):=by
  have:=r.out.all (2,0);rw[i.out]at this;exact this
 have f:Hid (w∉M.hm.blk.toList):=fun k=>r.out.far (0,0) (2,0) (bn (by decide)) w (by rw[d.out];exact Q9.2 rfl) (by rw[i.out];exact k)
 clear S f5 c5 z5 l j c0 fb bz G;have c1:u.cell? ⟨w,1,none⟩=some (.slice M.hm.ao M.V.length M.hm.cap):=by rw[aa F];rfl
 have fb:=am F;have bz:=ae F;clear F;go_wp2_with (at_builtin;refine cZ u rfl (.tmp 39) (.tmp 41) 32 rfl iM (.pointer none) 8 M.hm (lB 47 (M.V.map (·.2.1))) [NY Y] underlying32 al L N O rfl Rc (by rw[y.out];simp[Act.eval]) H ag.out (by omega) (by simp[Act.eval]) rfl (by simp[NY,Value.oneCell']) ?_;intro h7 w7 K I;rw[zd]at K;have p7:=I.kept.get U.out f.out;have f7:=am p7;have c7:w7.cell? ⟨w,1,none⟩=some (.slice M.hm.ao M.V.length M.hm.cap):=(by rw[aa p7];rfl);have z7:=ae p7;rw[y.out]);go_ret;have S7:=r.out.grown d.out (bn (by decide)) i.out I K 1 (.slice h7.ao (M.V.length+1) h7.cap);rw[<-g.out]at S7;exact⟨rfl,p.out.addV o.out S7⟩
theorem Lw:(prog.info? 33).map (fun i=>(i.zero,i.size,i.bytes))=some (some (.slice none 0 0),1,24):=by kernel_rfl
theorem qt(L:List (Option Nat×Fs))(x:Option Nat×Fs):(⟨(ig L).e,(ig L).size,(ig L).n+1,(ig L).xs++[Aj x]⟩:dN)=ig (L++[x]):=by
 simp[ig]
theorem aw.srcO(o:aw n I (cr v)):kR n I.ao v:=by
 intro k d;obtain⟨g,e,c,a,b⟩:=o.srcFi.2 k d;exact⟨g,0,e,c,by rw[SJ];exact a,by rw[SJ];exact b⟩
theorem bZ.addL{a c:Option Nat}{fs:Fs}{M:Mc}(h:bZ n l i M S)(u:ld fs)(s:fs.length<=S+1)(f:wz=fk (fk (fk i (8,M.L.length) (uI a fs)) (4,0) (ce I (ig (M.L.map (fun o=>(o.1,o.2.2))++[(a,fs)])))) (0,0) (rB l 42 (M.cells.set 3 (.slice I.ao (M.L.length+1) I.cap))))(y:nJ g (fk (fk (fk wz (9,M.L.length) (uI c fs)) (5,0) (ce yf (ig (M.L.map (fun o=>(o.2.1,o.2.2))++[(c,fs)])))) (0,0) (rB l 42 ((M.cells.set 3 (.slice I.ao (M.L.length+1) I.cap)).set 4 (.slice yf.ao (M.L.length+1) yf.cap))))) :
  ∃p q,bZ g l p q (S+1)/\rh i M p q:=by
 refine⟨_,{ M with hl:=I,hc:=yf,L:=M.L++[(a,c,fs)] },⟨y,?_,?_,?_,?_,?_,?_,?_,?_,?_,?_,?_⟩,?_⟩
 ·rw[bJ];unfold Mc.cells;rw[Q0];rfl
 ·subst f;simp only[fk];exact h.x
 ·subst f;simp only[fk];exact h.m
 ·subst f;simp only[fk];exact h.r
 ·subst f;rw[aq _ _ (bn (by decide)),aq _ _ (bn (by decide)),aq _ _ (bn (by decide)),aq _ _ (bn (by decide)),bJ,Ry];rfl
 ·rw[aq _ _ (bn (by decide)),bJ,Ry];rfl
 ·intro d x m fs b
  subst f;simp only[fk];exact h.v d x m fs b
 ·intro d x m k b
  rw[aq _ _ (bn (by decide)),aq _ _ (bn (by decide)),aq _ _ (bn (by decide)),aq _ _ (bn (by decide)),aq _ _ (bn (by decide))];replace b:(M.L++[(a,c,fs)])[d]?=some (x,m,k):=b;subst f;rw[aq _ _ (bn (by decide)),aq _ _ (bn (by decide))]
  by_cases e:d<M.L.length
  ·rw[Q7 e]at b
   rw[aq _ _ (rC (by omega)),aq _ _ (rC (by omega)),aq _ _ (bn (by decide)),aq _ _ (bn (by decide)),aq _ _ (bn (by decide))];exact h.more.l d x m k b
  ·have t:d=M.L.length:=by
    have:=(Q8.1 b).1;rw[Q0]at this;have:d<M.L.length+1:=this;omega
   subst t;rw[Q5 (QR _),RY]at b
   cases b
   rw[bJ,bJ];exact⟨rfl,rfl,u,s⟩
 ·exact h.fit
 ·refine⟨h.more.len.1,h.more.len.2.1,?_⟩
  have:=h.len.2.2
  show(M.L++[(a,c,fs)]).length<=_
  rw[Q0];show _+1<=_;omega
 ·exact h.rng
 ·subst f;exact⟨fun j d w=>by(repeat rw[oY (by decide) w]),rfl,rfl⟩
theorem nJ.rowAt(s:nJ n i)(a:i (0,0)=rB l S vc)(b:yg≠(0,0))(e:i yg=ce I wu):n.heap[l]?=some (.cells vc.toArray S (0,0))/\aw n I wu/\l∉I.blk.toList:=by
 refine⟨?_,?_,fun c=>s.far (0,0) yg (Ne.symm b) l (by rw[a];exact Q9.2 rfl) (by rw[e];exact c)⟩
 ·have:=s.all (0,0);rw[a]at this;exact this
 ·have:=s.all yg;rw[e]at this;exact this
theorem Pe(M:Mc)(A C D:Int)(s t:ByteArray)(ag:World)(h:bZ ag w m M a)(hN:a<=1073741824) :
  Calls prog 11 #[.pointer (some ⟨w,0,none⟩),.agg #[.int .i64 5,.int .i64 A,.int .i64 C,.int .i64 D,.string s,.string t]] ag fun e w'=>iB w m M a true e w':=by
 obtain⟨W,HW⟩:∃W,Hid (ag.alloc (.cells #[.int .i64 5,.int .i64 A,.int .i64 C,.int .i64 D,.string s,.string t] 28)=W):=⟨_,rfl⟩
 obtain⟨u,hB,ai,-⟩:=h.boxed 5 A C D s t W HW.out;obtain⟨o0,-⟩:=cQ hB;have oz:=ae hB;obtain⟨iX,S,i,k,o⟩:=Re Lw;have HM:Hid (bZ W w m M a):=u;have af:Hid ((ig (M.L.map (fun l=>(l.1,l.2.2)))).n<=4294967296):=by show(M.L.map _).length<=_;rw[Ri];have:=h.len.2.2;omega
 have ad:Hid ((ig (M.L.map (fun l=>(l.2.1,l.2.2)))).n<=4294967296):=by show(M.L.map _).length<=_;rw[Ri];have:=h.len.2.2;omega
 have E:Hid ((ig (M.L.map (fun l=>(l.1,l.2.2)))).n=M.L.length):=Ri _;have y:Hid ((ig (M.L.map (fun l=>(l.2.1,l.2.2)))).n=M.L.length):=Ri _;have Y:Hid (nJ W (fk m (8,M.L.length) (uI none []))):=u.sep.put _ _ (ab.refl _ _) ⟨fun _=>rfl,fun w e=>by cases e⟩ (fun q hq=>by cases hq);obtain⟨J,x⟩:∃J,Hid (J=fk m (8,M.L.length) (uI none [])):=⟨_,rfl⟩
 rw[<-x.out]at Y;have K:Hid (J (0,0)=rB w 42 M.cells):=by show _=_;rw[x.out,aq _ _ (bn (by decide))];exact u.w0
 have N:Hid (J (4,0)=ce M.hl (ig (M.L.map (fun l=>(l.1,l.2.2))))):=by show _=_;rw[x.out,aq _ _ (bn (by decide))];exact u.ls
 have ac:Hid (J (5,0)=ce M.hc (ig (M.L.map (fun l=>(l.2.1,l.2.2))))):=by show _=_;rw[x.out,aq _ _ (bn (by decide))];exact u.lw
 obtain⟨U,P,f⟩:=Y.out.rowAt K.out (bn (by decide)) N.out;have z:Hid (W.heap[w]?=some (.cells M.cells.toArray 42 (0,0))/\w∉M.hl.blk.toList):=⟨U,f⟩;have c0:W.cell? ⟨w,3,none⟩=some (.slice M.hl.ao M.L.length M.hl.cap):=by rw[aa U];rfl
 have fb:=am U;have bz:=ae U;clear h u hB U f;go_enter func11,ntmps11
 go_upto_region 1 with fail
 rw[HW.out]
 go_upto_region 22 with (at_builtin;refine cZ W rfl (.tmp 105) (.tmp 106) 34 rfl iX (.slice none 0 0) 24 M.hl (ig (M.L.map (fun l=>(l.1,l.2.2)))) [Aj (none,[])] underlying34 S i k o rfl Rc (by rw[E.out];simp[Act.eval]) P af.out (by omega) (by simp[Act.eval]) rfl (by simp[Aj,Value.oneCell']) ?_;intro b w5 r p;rw[qt]at r;have V:=p.kept.get z.out.1 z.out.2;have f5:=am V;have c5:w5.cell? ⟨w,3,none⟩=some (.slice M.hl.ao M.L.length M.hl.cap):=(by rw[aa V];rfl);have z5:=ae V)
 rw[E.out];have Z:Hid _:=(Y.out.grown K.out (bn (by decide)) N.out p r 3 (.slice b.ao (M.L.length+1) b.cap));obtain⟨v,X⟩:∃v,Hid (w5.setCell ⟨w,3,none⟩ (.slice b.ao (M.L.length+1) b.cap)=v):=⟨_,rfl⟩
 rw[X.out]at Z ⊢;obtain⟨F,O⟩:∃F,F=fk (fk J (4,0) (ce b (ig (M.L.map (fun l=>(l.1,l.2.2))++[(none,[])])))) (0,0) (rB w 42 (M.cells.set 3 (.slice b.ao (M.L.length+1) b.cap))):=⟨_,rfl⟩
 have d:Hid _:=O;clear O;rw[<-d.out]at Z;have S6:Hid (nJ v (fk F (9,M.L.length) (uI none []))):=Z.out.put _ _ (ab.refl _ _) ⟨fun _=>rfl,fun w e=>by cases e⟩ (fun q hq=>by cases hq);have H:Hid (fk F (9,M.L.length) (uI none []) (0,0)=rB w 42 (M.cells.set 3 (.slice b.ao (M.L.length+1) b.cap))):=by show _=_;rw[aq _ _ (bn (by decide)),d.out,bJ]
 have I:Hid (fk F (9,M.L.length) (uI none []) (5,0)=ce M.hc (ig (M.L.map (fun l=>(l.2.1,l.2.2))))):=by show _=_;rw[aq _ _ (bn (by decide)),d.out,aq _ _ (bn (by decide)),aq _ _ (bn (by decide))];exact ac.out
 obtain⟨G,Q,g⟩:=S6.out.rowAt H.out (bn (by decide)) I.out;have B:Hid (v.heap[w]?=some (.cells (M.cells.set 3 (.slice b.ao (M.L.length+1) b.cap)).toArray 42 (0,0))/\w∉M.hc.blk.toList):=⟨G,g⟩;clear V f5 c5 z5 r p c0 fb bz P;have c1:v.cell? ⟨w,4,none⟩=some (.slice M.hc.ao M.L.length M.hc.cap):=by rw[aa G];rfl
 have fb:=am G;have bz:=ae G;clear G g;go_wp2_with (at_builtin;refine cZ v rfl (.tmp 115) (.tmp 116) 34 rfl iX (.slice none 0 0) 24 M.hc (ig (M.L.map (fun l=>(l.2.1,l.2.2)))) [Aj (none,[])] underlying34 S i k o rfl Rc (by rw[y.out];simp[Act.eval]) Q ad.out (by omega) (by simp[Act.eval]) rfl (by simp[Aj,Value.oneCell']) ?_;intro h7 w7 T R;rw[qt]at T;have p7:=R.kept.get B.out.1 B.out.2;have f7:=am p7;have c7:w7.cell? ⟨w,4,none⟩=some (.slice M.hc.ao M.L.length M.hc.cap):=(by rw[aa p7];rfl);have z7:=ae p7;rw[y.out]);go_ret;have S7:=S6.out.grown H.out (bn (by decide)) I.out R T 4 (.slice h7.ao (M.L.length+1) h7.cap);exact⟨rfl,HM.out.addL (a:=none) (c:=none) (fs:=[]) (fun j=>⟨by show(0:Nat)<=_;omega,by show(0:Nat)<=_;omega⟩) (Ro _) (by rw[d.out,x.out]) S7⟩
theorem Pd(M:Mc)(A C D:Int)(s t:ByteArray)(a1:World)(h:bZ a1 w m M a)(hN:a<=1073741824) :
  Calls prog 11 #[.pointer (some ⟨w,0,none⟩),.agg #[.int .i64 4,.int .i64 A,.int .i64 C,.int .i64 D,.string s,.string t]] a1 fun e w'=>iB w m M a true e w':=by
 obtain⟨W,HW⟩:∃W,Hid (a1.alloc (.cells #[.int .i64 4,.int .i64 A,.int .i64 C,.int .i64 D,.string s,.string t] 28)=W):=⟨_,rfl⟩
 obtain⟨X,hB,a2,-⟩:=h.boxed 4 A C D s t W HW.out;obtain⟨o0,-⟩:=cQ hB;have oz:=ae hB;obtain⟨iX,ag,o,p,u⟩:=Re Lw;have v:Hid (bZ W w m M a):=X;have x:Hid (M.reg.length<=a):=h.len.2.1;have a0:Hid ((ig (M.L.map (fun l=>(l.1,l.2.2)))).n<=4294967296):=by show(M.L.map _).length<=_;rw[Ri];have:=h.len.2.2;omega
 have aT:Hid ((ig (M.L.map (fun l=>(l.2.1,l.2.2)))).n<=4294967296):=by show(M.L.map _).length<=_;rw[Ri];have:=h.len.2.2;omega
 have Q:Hid ((ig (M.L.map (fun l=>(l.1,l.2.2)))).n=M.L.length):=Ri _;have N:Hid ((ig (M.L.map (fun l=>(l.2.1,l.2.2)))).n=M.L.length):=Ri _;have ap:Hid (Calls prog 29 #[.slice M.hr.ao M.reg.length M.hr.cap] W _):=jE M.hr.ao M.hr.cap M.reg W X.ownR.srcO (by have:=x.out;omega);have c2:W.cell? ⟨w,2,none⟩=some (.slice M.hr.ao M.reg.length M.hr.cap):=by rw[aa X.blk];rfl
 have I:=ae X.blk;clear h X hB;go_enter func11,ntmps11
 go_upto_region 1 with fail
 rw[HW.out]
 go_upto_region 14 with (go_at_call 29;refine QU ap.out ?_;rintro e w1 ⟨rfl,ac,k1⟩)
 have S1:Hid (nJ w1 (fk m (8,M.L.length) (uI (some W.heap.size) M.reg))):=v.out.sep.put _ _ (k1.mono (by simp)) ⟨(fun e=>by cases e),(fun q e=>by cases e;exact ac)⟩ (fun q hq=>QV (by rw[Q9.1 hq];exact QR _));obtain⟨F,al⟩:∃F,Hid (W.heap.size=F):=⟨_,rfl⟩
 rw[al.out]at S1 ⊢;obtain⟨J,H⟩:∃J,Hid (J=fk m (8,M.L.length) (uI (some F) M.reg)):=⟨_,rfl⟩
 rw[<-H.out]at S1;have T:Hid (J (0,0)=rB w 42 M.cells):=by show _=_;rw[H.out,aq _ _ (bn (by decide))];exact v.out.w0
 have az:Hid (J (3,0)=ce M.hr (cr M.reg)):=by show _=_;rw[H.out,aq _ _ (bn (by decide))];exact v.out.r
 have U:Hid (J (4,0)=ce M.hl (ig (M.L.map (fun l=>(l.1,l.2.2))))):=by show _=_;rw[H.out,aq _ _ (bn (by decide))];exact v.out.ls
 have aS:Hid (J (5,0)=ce M.hc (ig (M.L.map (fun l=>(l.2.1,l.2.2))))):=by show _=_;rw[H.out,aq _ _ (bn (by decide))];exact v.out.lw
 obtain⟨p1,Y,i⟩:=S1.out.rowAt T.out (bn (by decide)) U.out;have O:Hid (w1.heap[w]?=some (.cells M.cells.toArray 42 (0,0))/\w∉M.hl.blk.toList):=⟨p1,i⟩;have c0:w1.cell? ⟨w,3,none⟩=some (.slice M.hl.ao M.L.length M.hl.cap):=by rw[aa p1];rfl
 have fb:=am p1;clear I;have I:=ae p1;clear p1 i c2 k1 ac
 go_upto_region 16 with (at_builtin;refine cZ w1 rfl (.tmp 76) (.tmp 78) 34 rfl iX (.slice none 0 0) 24 M.hl (ig (M.L.map (fun l=>(l.1,l.2.2)))) [Aj (some F,M.reg)] underlying34 ag o p u rfl Rc (by rw[Q.out];simp[Act.eval]) Y a0.out (by omega) (by simp[Act.eval]) rfl (by simp[Aj,Value.oneCell']) ?_;intro b w5 B z;rw[qt]at B;have p5:=z.kept.get O.out.1 O.out.2;have f5:=am p5;have c5:w5.cell? ⟨w,3,none⟩=some (.slice M.hl.ao M.L.length M.hl.cap):=(by rw[aa p5];rfl);have z5:=ae p5)
 rw[Q.out];have S5:Hid _:=(S1.out.grown T.out (bn (by decide)) U.out z B 3 (.slice b.ao (M.L.length+1) b.cap));obtain⟨E,ar⟩:∃E,Hid (w5.setCell ⟨w,3,none⟩ (.slice b.ao (M.L.length+1) b.cap)=E):=⟨_,rfl⟩
 rw[ar.out]at S5 ⊢;obtain⟨y,V⟩:∃y,y=fk (fk J (4,0) (ce b (ig (M.L.map (fun l=>(l.1,l.2.2))++[(some F,M.reg)])))) (0,0) (rB w 42 (M.cells.set 3 (.slice b.ao (M.L.length+1) b.cap))):=⟨_,rfl⟩
 have d:Hid _:=V;clear V;rw[<-d.out]at S5;have ax:Hid (y (3,0)=ce M.hr (cr M.reg)):=by show _=_;rw[d.out,aq _ _ (bn (by decide)),aq _ _ (bn (by decide))];exact az.out
 have g:Hid (y (0,0)=rB w 42 (M.cells.set 3 (.slice b.ao (M.L.length+1) b.cap))):=by show _=_;rw[d.out,bJ]
 obtain⟨f,k,-⟩:=S5.out.rowAt g.out (bn (by decide)) ax.out;have K:Hid (Calls prog 29 #[.slice M.hr.ao M.reg.length M.hr.cap] E _):=jE M.hr.ao M.hr.cap M.reg E k.srcO (by have:=x.out;omega);clear p5 f5 c5 z5 B z c0 fb I Y k;have c2:E.cell? ⟨w,2,none⟩=some (.slice M.hr.ao M.reg.length M.hr.cap):=by rw[aa f];rfl
 have I:=ae f;clear f
 go_upto_region 17 with (go_at_call 29;refine QU K.out ?_;rintro e w8 ⟨rfl,ad,k2⟩)
 have S6:Hid (nJ w8 (fk y (9,M.L.length) (uI (some E.heap.size) M.reg))):=S5.out.put _ _ (k2.mono (by simp)) ⟨(fun e=>by cases e),(fun q e=>by cases e;exact ad)⟩ (fun q hq=>QV (by rw[Q9.1 hq];exact QR _));obtain⟨G,an⟩:∃G,Hid (E.heap.size=G):=⟨_,rfl⟩
 rw[an.out]at S6 ⊢;clear c2 I k2 ad;have R:Hid (fk y (9,M.L.length) (uI (some G) M.reg) (0,0)=rB w 42 (M.cells.set 3 (.slice b.ao (M.L.length+1) b.cap))):=by show _=_;rw[aq _ _ (bn (by decide))];exact g.out
 have S:Hid (fk y (9,M.L.length) (uI (some G) M.reg) (5,0)=ce M.hc (ig (M.L.map (fun l=>(l.2.1,l.2.2))))):=by show _=_;rw[aq _ _ (bn (by decide)),d.out,aq _ _ (bn (by decide)),aq _ _ (bn (by decide))];exact aS.out
 obtain⟨f,Z,j⟩:=S6.out.rowAt R.out (bn (by decide)) S.out;have P:Hid (w8.heap[w]?=some (.cells (M.cells.set 3 (.slice b.ao (M.L.length+1) b.cap)).toArray 42 (0,0))/\w∉M.hc.blk.toList):=⟨f,j⟩;have c1:w8.cell? ⟨w,4,none⟩=some (.slice M.hc.ao M.L.length M.hc.cap):=by rw[aa f];rfl
 have fb:=am f;have I:=ae f;clear f j;go_wp2_with (at_builtin;refine cZ w8 rfl (.tmp 92) (.tmp 94) 34 rfl iX (.slice none 0 0) 24 M.hc (ig (M.L.map (fun l=>(l.2.1,l.2.2)))) [Aj (some G,M.reg)] underlying34 ag o p u rfl Rc (by rw[N.out];simp[Act.eval]) Z aT.out (by omega) (by simp[Act.eval]) rfl (by simp[Aj,Value.oneCell']) ?_;intro h7 w7 ai af;rw[qt]at ai;have p7:=af.kept.get P.out.1 P.out.2;have f7:=am p7;have c7:w7.cell? ⟨w,4,none⟩=some (.slice M.hc.ao M.L.length M.hc.cap):=(by rw[aa p7];rfl);have z7:=ae p7;rw[N.out]);go_ret;have S7:=S6.out.grown R.out (bn (by decide)) S.out af ai 4 (.slice h7.ao (M.L.length+1) h7.cap);exact⟨rfl,v.out.addL (a:=some F) (c:=some G) (fs:=M.reg) v.out.fit (by have:=x.out;omega) (by rw[d.out,H.out]) S7⟩
theorem Gv{L:List (Option Nat×Option Nat×Fs)}(b:L[l]?=some (z6,x7,v))(f:Option Nat×Option Nat×Fs->Option Nat×Fs)(c:Aj (f (z6,x7,v3))=Aj (f (z6,x7,v))):ig ((L.set l (z6,x7,v3)).map f)=ig (L.map f):=by
 unfold ig
 have e:((L.set l (z6,x7,v3)).map f).map Aj=(L.map f).map Aj:=by
  rw[Tn,Tn,c]
  apply Sq
  intro j;rw[RU]
  by_cases a:l=j
  ·subst a
   rw[QW rfl,Rq,Rq,b];have:=(Q8.1 b).1;simp[this]
  ·rw[QT a]
 rw[e,Ri,Rv,Ri]
theorem Ir(h:ld v)(i:Nat)(b:y9.size<=1073741824)(a:yd.size<=1073741824):ld (v.set i (y9,yd)):=by
 intro j;have:=h j;unfold aE ak at *;rw[QQ]at *;rw[RU]
 by_cases e:i=j
 ·subst e
  rw[QW rfl]
  split
  ·exact⟨b,a⟩
  ·exact⟨by show(0:Nat)<=_;omega,by show(0:Nat)<=_;omega⟩
 ·rw[QT e];exact this
theorem bZ.wrote{M:Mc}(h:bZ n l i M S)(f:M.L[N]?=some (z6,x7,v))(p:v3.length=v.length)(u:ld v3)(y:nJ g (fk (fk i (8,N) (uI z6 v3)) (9,N) (uI x7 v3))):∃k o,bZ g l k o (S+1)/\rh i M k o:=by
 refine⟨_,{ M with L:=M.L.set N (z6,x7,v3) },⟨y,?_,?_,?_,?_,?_,?_,?_,?_,?_,?_,?_⟩,?_⟩
 ·rw[aq _ _ (bn (by decide)),aq _ _ (bn (by decide)),h.w0];unfold Mc.cells;rw[Rv]
 ·simp only[fk];exact h.x
 ·simp only[fk];exact h.m
 ·simp only[fk];exact h.r
 ·rw[aq _ _ (bn (by decide)),aq _ _ (bn (by decide)),h.ls]
  congr 1
  exact(Gv f (fun d=>(d.1,d.2.2)) (by simp only[Aj,p])).symm
 ·rw[aq _ _ (bn (by decide)),aq _ _ (bn (by decide)),h.lw]
  congr 1
  exact(Gv f (fun d=>(d.2.1,d.2.2)) (by simp only[Aj,p])).symm
 ·intro b x m v a
  simp only[fk];exact h.v b x m v a
 ·intro b x m c a
  replace a:(M.L.set N (z6,x7,v3))[b]?=some (x,m,c):=a;rw[RU]at a;rw[aq _ _ (bn (by decide))]
  by_cases e:N=b
  ·subst e
   rw[QW rfl,QW (Q8.1 f).1]at a
   cases a
   obtain⟨-,-,-,z⟩:=h.l N z6 x7 v f;rw[bJ,bJ];exact⟨rfl,rfl,u,by omega⟩
  ·rw[QT e]at a
   rw[aq _ _ (rC (Ne.symm e)),aq _ _ (rC (Ne.symm e)),aq _ _ (bn (by decide))];exact h.more.l b x m c a
 ·exact h.fit
 ·obtain⟨q,s,t⟩:=h.more.len
  exact⟨q,s,by show(M.L.set N (z6,x7,v3)).length<=_;rw[Rv];exact t⟩
 ·exact h.rng
 ·exact⟨fun j b w=>by(repeat rw[oY (by decide) w]),rfl,rfl⟩
theorem iG.wrote(h:iG n (some l) v)(b:S<v.length)(a d:ByteArray):iG ((n.setCell ⟨l,S*2,none⟩ (.string a)).setCell ⟨l,S*2+1,none⟩ (.string d)) (some l) (v.set S (a,d))/\ab [l] n ((n.setCell ⟨l,S*2,none⟩ (.string a)).setCell ⟨l,S*2+1,none⟩ (.string d)):=by
 refine⟨⟨(fun e=>by cases e),fun q e=>?_⟩,((ab.refl _ _).setCell (Q1 (by simp)) _).setCell (Q1 (by simp)) _⟩
 cases e
 rw[ah (ah (h.blk l rfl) _ _) _ _,Ru,Ru,Gk v S a d b]
theorem iG.cells(h:iG n (some l) v)(d:S<v.length):(n.cell? ⟨l,S*2,none⟩=some (.string (aE v S))/\n.cell? ⟨l,S*2+1,none⟩=some (.string (ak v S)))/\(∀j,n.frozen? ⟨l,j,none⟩=false)/\l<n.heap.size:=by
 have a:=h.blk l rfl;obtain⟨b,c⟩:=v9 v S d;exact⟨⟨by rw[aa a];simpa using b,by rw[aa a];simpa using c⟩,am a,ae a⟩
theorem n8{L:List (Option Nat×Fs)}(o:aw n I (ig L)){k:Nat}{x:Option Nat×Fs}(c:L[k]?=some x):∃g,I.ao=some ⟨g,0,none⟩/\g<n.heap.size/\n.cell? ⟨g,k,none⟩=some (Aj x):=by
 have h:=(Q8.1 c).1
 rcases o.Vm with ⟨_,b,_⟩ | ⟨g,d,a,e,f,-⟩
 ·have b:L.length=0:=b
  omega
 ·exact⟨g,a,ae e,o.cell a k (Aj x) (by show(L.map Aj)[k]?=_;rw[Rq,c];rfl)⟩
theorem Pf(M:Mc)(A C D:Int)(s t:ByteArray)(F:World)(h:bZ F w m M a)(hN:a<=1073741824)(hA:qB A)(hC:qB C)(hs:s.size<=1073741824)(ht:t.size<=1073741824) :
  Calls prog 11 #[.pointer (some ⟨w,0,none⟩),.agg #[.int .i64 6,.int .i64 A,.int .i64 C,.int .i64 D,.string s,.string t]] F fun e w'=>iB w m M a true e w':=by
 obtain⟨W,HW⟩:∃W,Hid (F.alloc (.cells #[.int .i64 6,.int .i64 A,.int .i64 C,.int .i64 D,.string s,.string t] 28)=W):=⟨_,rfl⟩
 obtain⟨p,hB,bd,-⟩:=h.boxed 6 A C D s t W HW.out;obtain⟨o0,o1,o2,o3,Y,Z,E⟩:=cQ hB;have T:=ae p.blk;have J:W.cell? ⟨w,3,none⟩=some (.slice M.hl.ao M.L.length M.hl.cap):=by rw[aa p.blk];rfl
 by_cases hL:M.L.length=0
 ·have HF:Hid (bZ W w m M a):=p
  rw[hL]at J;clear h p hB;go_enter func11,ntmps11
  go_upto_region 1 with fail
  rw[HW.out];go_wp2;go_ret;exact⟨rfl,_,_,HF.out.more,rh.refl _ _⟩
 ·have a7:=h.len.2.2
  have Q:Hid (∀G,Calls prog 12 #[.int .i64 A,.int .i64 M.L.length] G fun e w'=>e=.returned (.int .i64 (eG A M.L.length:Nat))/\w'=G):=fun G=>eQ A M.L.length G hA ⟨by omega,by omega⟩
  have aS:=fY A M.L.length (by omega);obtain⟨k,Hk⟩:∃k,Hid (eG A M.L.length=k):=⟨_,rfl⟩
  rw[Hk.out]at Q aS;obtain⟨⟨ac,c,b⟩,hk⟩:∃x,M.L[k]?=some x:=⟨M.L[k],QP aS⟩
  have HM:Hid (bZ W w m M a):=p;obtain⟨y,B,u,bf⟩:=p.l k ac c b hk;obtain⟨gl,X,gz,o⟩:=n8 p.ownL (k:=k) (x:=(ac,b)) (by rw[Rq,hk];rfl);replace o:W.cell? ⟨gl,k,none⟩=some (.slice (wD ac) b.length b.length):=o;rw[X]at J;have bj:(k:Int)<(M.L.length:Int):=by omega
  have a6:(0:Int)<(M.L.length:Int):=by omega
  have ai:Hid _:=hk;have H8:Hid _:=y;have H9:Hid _:=B
  by_cases r:b.length=0
  ·rw[r]at o
   clear h p hB hk y B u X;go_enter func11,ntmps11
   go_upto_region 1 with fail
   rw[HW.out]
   go_upto_region 26 with fail
   go_quiet ((go_at_call 12;exact Rd (Q.out _)))
   have HF:Hid (bZ (W.drewN nq) w m M a):=HM.out.Vb ((ab.refl [] _).drewN nq);go_wp2;go_ret;exact⟨rfl,_,_,HF.out.more,rh.refl _ _⟩
  ·have an:Hid (∀G,Calls prog 12 #[.int .i64 C,.int .i64 b.length] G fun e w'=>e=.returned (.int .i64 (eG C b.length:Nat))/\w'=G):=fun G=>eQ C b.length G hC ⟨by omega,by omega⟩
   have f:=fY C b.length (by omega);obtain⟨i,Hi⟩:∃i,Hid (eG C b.length=i):=⟨_,rfl⟩
   rw[Hi.out]at an f;have V:iG W ac b:=by have:=p.sep.all (8,k);rw[y]at this;exact this
   have ax:iG W c b:=by have:=p.sep.all (9,k);rw[B]at this;exact this
   obtain⟨d,rfl⟩:∃d,ac=some d:=by
    cases ac with
    | none=>rw[V.nil rfl]at r;exact absurd rfl r
    | some d=>exact⟨d,rfl⟩
   obtain⟨j,rfl⟩:∃j,c=some j:=by
    cases c with
    | none=>rw[ax.nil rfl]at r;exact absurd rfl r
    | some j=>exact⟨j,rfl⟩
   have a5:=(V.cells f).2.2
   have K:d≠F.heap.size:=by
    intro e;have:=(uI (some d) b).lt F (by have:=h.sep.all (8,k);rw[(h.l k _ _ b hk).1]at this;exact this) d (Q9.2 rfl);omega
   have a0:Hid _:=hB;have ad:Hid (ld (b.set i (s,t))):=Ir u i hs ht;replace o:W.cell? ⟨gl,k,none⟩=some (.slice (some ⟨d,0,none⟩) b.length b.length):=o;have bg:(i:Int)<(b.length:Int):=by omega
   have be:(0:Int)<(b.length:Int):=by omega
   have a2:Hid _:=K
   have H:Hid (∀n,ab [] W n->(n.cell? ⟨F.heap.size,2,none⟩=some (.int .i64 C)/\n.cell? ⟨F.heap.size,4,none⟩=some (.string s)/\n.cell? ⟨F.heap.size,5,none⟩=some (.string t)/\F.heap.size<n.heap.size)/\(n.cell? ⟨w,3,none⟩=some (.slice (some ⟨gl,0,none⟩) M.L.length M.hl.cap)/\w<n.heap.size)/\n.cell? ⟨gl,k,none⟩=some (.slice (some ⟨d,0,none⟩) b.length b.length)/\gl<n.heap.size):=fun n kw=>by
    have q:∀g i,g<W.heap.size->n.cell? ⟨g,i,none⟩=W.cell? ⟨g,i,none⟩:=fun g i hg=>Q6 (kw.block g hg (by simp))
    have z:=kw.size;exact⟨⟨by rw[q _ _ E];exact o2,by rw[q _ _ E];exact Y,by rw[q _ _ E];exact Z,by omega⟩,⟨by rw[q _ _ T];exact J,by omega⟩,by rw[q _ _ gz];exact o,by omega⟩
   clear h p hB hk y B u X V ax K a5;go_enter func11,ntmps11
   go_upto_region 1 with fail
   rw[HW.out]
   go_upto_region 26 with fail
   go_quiet ((go_at_call 12;exact Rd (Q.out _)))
   go_upto_region 28 with fail
   obtain⟨W2,ap⟩:∃W2,Hid (W.drewN nq=W2):=⟨_,rfl⟩
   rw[ap.out];have af:Hid (ab [] W W2):=by show ab _ _ _;rw[<-ap.out];exact(ab.refl [] _).drewN nq
   clear o0 o1 o2 o3 Y Z E J T o gz;obtain⟨⟨o2,Y,Z,E⟩,⟨J,T⟩,o,gz⟩:=H.out W2 af.out
   go_quiet ((go_at_call 12;exact Rd (an.out _)))
   go_upto_region 29 with fail
   obtain⟨I,ar⟩:∃I,Hid (W2.drewN nq=I):=⟨_,rfl⟩
   rw[ar.out];have N:Hid (ab [] W I):=by show ab _ _ _;rw[<-ar.out];exact af.out.drewN nq
   have al:Hid (bZ I w m M a):=HM.out.Vb N.out;have O:Hid (iG I (some d) b):=by show iG _ _ _;have:=al.out.sep.all (8,k);rw[H8.out]at this;exact this
   clear o2 Y Z E J T o gz;obtain⟨⟨o2,Y,Z,E⟩,⟨J,T⟩,o,gz⟩:=H.out I N.out;obtain⟨⟨d0,d1⟩,df,dz⟩:=O.out.cells f
   go_region
   all_goals
    obtain⟨v,R⟩:∃v,Hid (((I.setCell ⟨d,i*2,none⟩ (.string s)).setCell ⟨d,i*2+1,none⟩ (.string t)).drew=v):=⟨_,rfl⟩
    rw[R.out];have ag:Hid (ab [d] I v):=by show ab _ _ _;rw[<-R.out];exact(O.out.wrote f s t).2.drew
    have S4:Hid (nJ v (fk m (8,k) (uI (some d) (b.set i (s,t))))):=by
     show nJ _ _
     refine al.out.sep.put _ _ (by rw[H8.out];exact ag.out) ?_ (fun q hq=>Q1 (by rw[H8.out];exact hq));rw[<-R.out];exact(uI _ _).ok [] _ _ (O.out.wrote f s t).1 (ab.refl [] _).drew (by simp)
    have a3:Hid (fk m (8,k) (uI (some d) (b.set i (s,t))) (0,0)=rB w 42 M.cells):=by show _=_;rw[aq _ _ (bn (by decide))];exact HM.out.w0
    have a4:Hid (fk m (8,k) (uI (some d) (b.set i (s,t))) (5,0)=ce M.hc (ig (M.L.map (fun l=>(l.2.1,l.2.2))))):=by show _=_;rw[aq _ _ (bn (by decide))];exact HM.out.lw
    have U:Hid (fk m (8,k) (uI (some d) (b.set i (s,t))) (9,k)=uI (some j) b):=by show _=_;rw[aq _ _ (bn (by decide))];exact H9.out
    obtain⟨b4,aT,-⟩:=S4.out.rowAt a3.out (bn (by decide)) a4.out;have P:Hid (iG v (some j) b):=by show iG _ _ _;have:=S4.out.all (9,k);rw[U.out]at this;exact this
    obtain⟨gr,az,rz,rc⟩:=n8 aT (k:=k) (x:=(some j,b)) (by rw[Rq,ai.out];rfl);replace rc:v.cell? ⟨gr,k,none⟩=some (.slice (some ⟨j,0,none⟩) b.length b.length):=rc;have c4:v.cell? ⟨w,4,none⟩=some (.slice (some ⟨gr,0,none⟩) M.L.length M.hc.cap):=by rw[aa b4,<-az];rfl
    clear d0 d1 df dz o2 Y Z E J T o gz;obtain⟨⟨d0,d1⟩,df,dz⟩:=P.out.cells f;have T:=ae b4;have B4:=ag.out.get (N.out.get a0.out (by simp)) (by simp;exact fun e=>a2.out e.symm);obtain⟨-,-,-,-,Y,Z,E⟩:=cQ B4;clear b4 aT az B4
    go_upto_region 30 with fail
    go_region
    all_goals
     obtain⟨W5,S⟩:∃W5,Hid (((v.setCell ⟨j,i*2,none⟩ (.string s)).setCell ⟨j,i*2+1,none⟩ (.string t)).drew=W5):=⟨_,rfl⟩
     rw[S.out];have a1:Hid (ab [j] v W5):=by show ab _ _ _;rw[<-S.out];exact(P.out.wrote f s t).2.drew
     have S5:Hid (nJ W5 (fk (fk m (8,k) (uI (some d) (b.set i (s,t)))) (9,k) (uI (some j) (b.set i (s,t))))):=by
      show nJ _ _
      refine S4.out.put _ _ (by rw[U.out];exact a1.out) ?_ (fun q hq=>Q1 (by rw[U.out];exact hq));rw[<-S.out];exact(uI _ _).ok [] _ _ (P.out.wrote f s t).1 (ab.refl [] _).drew (by simp)
     go_wp2;go_ret;exact⟨rfl,HM.out.wrote ai.out Rv ad.out S5.out⟩
theorem Cn{o k:Nat}(h:n.heap[l]?=some (.cells (qK v).toArray 68 (0,0)))(c:o+k<v.length):n.cell? ⟨l,o*2+k*2,none⟩=some (.string (aE v (o+k)))/\n.cell? ⟨l,o*2+k*2+1,none⟩=some (.string (ak v (o+k))):=by
 obtain⟨a,b⟩:=v9 v (o+k) c;rw[Uc]at a b;exact⟨by rw[aa h];simpa using a,by rw[aa h];simpa using b⟩
theorem iG.piece(h:n.heap[l]?=some (.cells (qK v).toArray 68 (0,0)))(o a:Nat)(m:o+a<=v.length):kR n (some ⟨l,o*2,none⟩) ((v.drop o).take a):=by
 intro k i;rw[RQ,RT]at i;have e:∀j,j<a->((v.drop o).take a)[j]?=v[o+j]?:=fun j g=>by rw[Tj,QW g,SV]
 obtain⟨b,c⟩:=Cn h (o:=o) (k:=k) (by omega);have d:aE ((v.drop o).take a) k=aE v (o+k):=by unfold aE;rw[QQ,QQ,e k (by omega)]
 have f:ak ((v.drop o).take a) k=ak v (o+k):=by unfold ak;rw[QQ,QQ,e k (by omega)]
 exact⟨l,o*2,rfl,ae h,by rw[d];exact b,by rw[f];exact c⟩
theorem iG.src{a:Option Nat}(h:iG n a v):kR n (wD a) v:=by
 cases a with
 | none=>rw[h.nil rfl];intro k c;cases c
 | some b =>
  have:=iG.piece (h.blk b rfl) 0 v.length (by omega);rw[U0,RK,UT]at this;exact this
theorem ld.piece(h:ld v)(o n:Nat):ld ((v.drop o).take n):=by
 intro j;have a:=h (o+j);unfold aE ak at *;rw[QQ]at *;rw[Tj]
 split
 ·rw[SV];exact a
 ·exact⟨by show(0:Nat)<=_;omega,by show(0:Nat)<=_;omega⟩
def Dy(w:World)(x m:Nat)(h:Hd)(lo hi lo2 hi2:Nat)(st:Option Nat)(fs:Fs)(e:Ending)(w':World):Prop :=
 e=.returned (.bool true)/\dE w' x fs lo hi st/\(∃h',dn w' m fs h' lo2 hi2 st/\∀q,h'.blk=some q->h.blk=some q∨w.heap.size<=q)/\ab ([x]++m :: h.blk.toList) w w'
theorem DC.kept(a:DC n l I v)(k:ab yu n g)(c:l∉yu)(b:∀q,I.blk=some q->q∉yu):DC g l I v:=by
 obtain⟨d,e,f,h,a⟩:=a;exact⟨d,e,f,h,a.keptS k c b⟩
theorem kR.srcF(h:n.heap[l]?=some (.cells (qK v).toArray 68 (0,0))):mV n (some ⟨l,0,none⟩) v.length v:=by
 refine⟨QR _,fun k c=>?_⟩;obtain⟨a,b⟩:=Cn h (o:=0) (k:=k) (by omega);rw[UT,SJ]at a b;exact⟨l,rfl,ae h,by simpa using a,by simpa using b⟩
theorem Cm(hx:dE b y6 ya y8 y7 L)(D:dn b zt ya o M w L)(T:b.heap[x]?=some (.cells (qK H).toArray 68 (0,0)))(t:∀q,q∈y6 :: ie y8 y7->q∉zt :: (o.blk.toList++ie M w))(X:x≠y6)(W:x≠zt)(V:o.blk≠some x)(hl:z3+k+f<=H.length)(hN:H.length<=1073741824)(hf:ld H) :
  Calls prog 13 #[.pointer (some ⟨y6,0,none⟩),.pointer (some ⟨zt,0,none⟩),.slice (some ⟨x,0,none⟩) H.length H.length,.int .i64 z3,.int .i64 k,.int .i64 f] b fun r i=>Dy b y6 zt o y8 y7 M w (mb (dy ((H.drop z3).take k)) L) (jt ya ((H.drop z3).take k)) r i:=by
 have HX:Hid (dE b y6 ya y8 y7 L):=hx;have ao:Hid (dn b zt ya o M w L):=D;have HB:Hid _:=T;have xz:=hx.anyS.lt;have bz:=ae T;have HF:=(show Hid (ld H) from hf);have l:((H.drop z3).take k).length=k:=by rw[RQ,RT];omega
 have ax:Hid (∀i,ab [] b i->kR i (some ⟨x,0,none⟩) H):=fun i u=>(iG.src (a:=some x) ⟨(fun f=>by cases f),fun q f=>by cases f;exact u.get T (by simp)⟩)
 have S:Hid (∀h g,ab [] b h->(k=0∨g=⟨x,z3*2,none⟩)->kR h (some g) ((H.drop z3).take k)):=fun h g u m=>by
  rcases m with f | f
  ·rw[f];intro j hj;rw[Tq]at hj;cases hj
  ·rw[f];exact iG.piece (u.get T (by simp)) z3 k (by omega)
 have ag:Hid (Calls prog 29 #[.slice (some ⟨x,0,none⟩) H.length H.length] b _):=jE _ H.length H b (ax.out b (ab.refl _ _)) hN
 have ai:Hid (∀h c g,ab [] b h->(k=0∨g=⟨x,z3*2,none⟩)->Calls prog 29 #[.slice (some g) k c] h fun f i=>f=.returned (.slice (some ⟨h.heap.size,0,none⟩) k k)/\i.heap[h.heap.size]?=some (.cells (qK ((H.drop z3).take k)).toArray 68 (0,0))/\ab [] h i):=fun h c g u m=>by
  have:=jE (some g) c ((H.drop z3).take k) h (S.out h g u m) (by rw[l];omega);rw[l]at this;exact this
 have a0:Hid (∀v c g,ab [] b v->(k=0∨g=⟨x,z3*2,none⟩)->Calls prog 30 #[.pointer (some ⟨y6,0,none⟩),.slice (some g) k c] v fun f i=>f=.returned (.int .i64 (dy ((H.drop z3).take k)))/\dE i y6 (jt ya ((H.drop z3).take k)) y8 y7 (mb (dy ((H.drop z3).take k)) L)/\ab [y6] v i):=fun v c g u m=>by
  have:=CL y6 ya ((H.drop z3).take k) (some g) c y8 y7 L v (hx.Vb u) (S.out v g u m) (hf.piece z3 k);rw[l]at this;exact this
 have an:Hid (∀n B2,dn n zt ya o M w L->n.heap[B2]?=some (.cells (qK ((H.drop z3).take k)).toArray 68 (0,0))->Calls prog 31 #[.pointer (some ⟨zt,0,none⟩),.slice (some ⟨B2,0,none⟩) k k] n fun f i=>f=.returned (.int .i64 (dy ((H.drop z3).take k)))/\∃B,dn i zt (jt ya ((H.drop z3).take k)) B M w (mb (dy ((H.drop z3).take k)) L)/\ab (zt :: o.blk.toList) n i/\∀q,B.blk=some q->o.blk=some q∨n.heap.size<=q):=fun n B2 hr s=>by
  have:=Bs zt ya ((H.drop z3).take k) o M w L (some ⟨B2,0,none⟩) ((H.drop z3).take k).length n hr (kR.srcF s) (fun f=>by cases f) (fun g f=>by cases f;exact⟨_,rfl⟩) (fun j _=>hf.piece z3 k j);rw[l]at this;exact this
 have y:Hid (zt<b.heap.size/\∀q,o.blk=some q->q<b.heap.size):=by
  obtain⟨on,p2,p3,p4,hr⟩:=D.anyS;exact⟨ae hr.d,fun q e=>hr.own.lt e⟩
 generalize jt ya ((H.drop z3).take k)=A at *;generalize mb (dy ((H.drop z3).take k)) L=E at *;generalize dy ((H.drop z3).take k)=r at *;generalize (H.drop z3).take k=P at *;have ba:(z3:Int)+(k:Int)<=(H.length:Int):=by omega
 have bc:(z3:Int)+(k:Int)+(f:Int)<=(H.length:Int):=by omega
 have a6:(H.length:Int)<=1073741824:=by omega
 have HD:Hid (x≠y6/\x≠zt/\o.blk≠some x):=⟨X,W,V⟩;have Q:Hid _:=t;have a5:Hid (∀q,o.blk=some q->q<b.heap.size):=y.out.2;clear hx D T hf t X W V l;have C:(k=0/\f=0/\H.length=z3)∨(k=0/\f=0/\¬H.length=z3)∨(¬k+f=0/\¬H.length=z3):=by omega
 rcases C with ⟨rfl,rfl,rfl⟩ | ⟨rfl,rfl,a2⟩ | ⟨a7,a2⟩
 all_goals
  go_enter func13,ntmps13
  go_upto_region 2 with (go_at_call 29;refine QU ag.out ?_;rintro e1 h ⟨rfl,U,k1⟩)
  go_upto_region 3 with (go_at_call 29;refine QU (ai.out h _ _ k1 (by first | exact Q1 trivial | exact Q1 rfl | exact QV rfl)) ?_;rintro e2 v ⟨rfl,s,k2⟩)
  have p:Hid _:=k1.trans k2;have ac:Hid _:=(k2.get U (by simp));have af:Hid _:=s;have a1:Hid (b.heap.size<=h.heap.size):=k1.size;clear U s k1 k2
  go_upto_region 4 with (go_at_call 30;refine QU (a0.out v _ _ p.out (by first | exact Q1 trivial | exact Q1 rfl | exact QV rfl)) ?_;rintro e3 n ⟨rfl,Z,F⟩)
  have ap:Hid (dn n zt ya o M w L):=(ao.out.Vb p.out).kept F (fun q e D=>Q.out y6 Rn (by rw[<-Q9.1 D];exact e));have I:Hid _:=(F.get ac.out (by simp;omega));have K:Hid _:=(F.get af.out (by have:=a1.out;simp;omega));have N:Hid _:=(F.get (p.out.get HB.out (by simp)) (by simp;exact HD.out.1));have aS:Hid (dE n y6 A y8 y7 E):=Z;have R:Hid _:=((p.out.mono (S':=[y6]) (by simp)).trans F);clear Z F
  go_upto_region 5 with (go_at_call 31;refine QU (an.out n _ ap.out K.out) ?_;rintro e4 G ⟨rfl,h4,Y,k4,b4⟩)
  have ar:Hid (∃B,dn G zt A B M w E/\∀q,B.blk=some q->o.blk=some q∨b.heap.size<=q):=⟨h4,Y,fun q e=>(b4 q e).elim Q1 (fun z=>QV (Q3 R.out.size z))⟩;have aT:Hid (dE G y6 A y8 y7 E):=aS.out.kept k4 (fun q e D=>Q.out q e (by rcases Rj.1 D with f | f;rw[f];exact Rn;exact Rm _ (RN _ f)));have J:Hid _:=(k4.get I.out (by intro e;rcases Rj.1 e with f | e;have:=y.out.1;omega;have:=y.out.2 _ (aN e);omega));have O:Hid _:=(k4.get N.out (by intro e;rcases Rj.1 e with f | e;exact HD.out.2.1 f;exact HD.out.2.2 (aN e)));have al:Hid (ab ([y6]++zt :: o.blk.toList) b G):=(R.out.mono (S':=[y6]++zt :: o.blk.toList) (fun q e _=>RN _ e)).trans (k4.mono (fun q e _=>Se _ e));have az:Hid _:=(nC (some ⟨x,0,none⟩) (some ⟨b.heap.size,0,none⟩) H.length H.length H G (iG.src (a:=some x) ⟨(fun f=>by cases f),fun q f=>by cases f;exact O.out⟩) (iG.src (a:=some b.heap.size) ⟨(fun f=>by cases f),fun q f=>by cases f;exact J.out⟩) (by omega));clear Y k4 b4;go_wp2_with (go_at_call 26;refine QU az.out ?_;rintro e5 w5 ⟨rfl,n5,bd⟩);go_ret;have k5:ab [] G (G.drewN n5):=(ab.refl [] _).drewN n5;obtain⟨B,a4,a3⟩:=ar.out;exact⟨rfl,aT.out.Vb k5,⟨B,a4.Vb k5,a3⟩,al.out.trans (k5.mono (by simp))⟩
theorem Ey(I:dE b k H y8 y7 L)(t:dn b f H o M w L)(m:∀q,q∈k :: ie y8 y7->q∉f :: (o.blk.toList++ie M w)) :
  Calls prog 13 #[.pointer (some ⟨k,0,none⟩),.pointer (some ⟨f,0,none⟩),.slice none 0 0,.int .i64 0,.int .i64 0,.int .i64 0] b fun r a=>Dy b k f o y8 y7 M w (mb (dy []) L) (jt H []) r a:=by
 have HX:Hid (dE b k H y8 y7 L):=I;have P:Hid (dn b f H o M w L):=t;have xz:=I.anyS.lt;have h:Hid (∀(a:World) ao,kR a ao []):=fun a ao j Y=>by cases Y
 have C:ld []:=fun j=>⟨by show(0:Nat)<=_;omega,by show(0:Nat)<=_;omega⟩
 have HC:Hid (∀l,Calls prog 29 #[.slice none 0 0] l fun e a=>e=.returned (.slice (some ⟨l.heap.size,0,none⟩) 0 0)/\a.heap[l.heap.size]?=some (.cells (qK []).toArray 68 (0,0))/\ab [] l a):=fun l=>jE none 0 [] l (h.out _ _) (by simp)
 have V:Hid (∀v,ab [] b v->Calls prog 30 #[.pointer (some ⟨k,0,none⟩),.slice none 0 0] v fun e a=>e=.returned (.int .i64 (dy []))/\dE a k (jt H []) y8 y7 (mb (dy []) L)/\ab [k] v a):=fun v ai=>CL k H [] none 0 y8 y7 L v (I.Vb ai) (h.out _ _) C
 have O:Hid (∀g F,dn g f H o M w L->g.heap[F]?=some (.cells (qK []).toArray 68 (0,0))->Calls prog 31 #[.pointer (some ⟨f,0,none⟩),.slice (some ⟨F,0,none⟩) 0 0] g fun e a=>e=.returned (.int .i64 (dy []))/\∃s,dn a f (jt H []) s M w (mb (dy []) L)/\ab (f :: o.blk.toList) g a/\∀q,s.blk=some q->o.blk=some q∨g.heap.size<=q):=fun g F G i=>by
  exact Bs f H [] o M w L (some ⟨F,0,none⟩) 0 g G (kR.srcF i) (fun e=>by cases e) (fun ad e=>by cases e;exact⟨_,rfl⟩) (fun j Y=>by cases Y)
 have af:Hid (f<b.heap.size/\∀q,o.blk=some q->q<b.heap.size):=by
  obtain⟨on,p2,p3,p4,G⟩:=t.anyS;exact⟨ae G.d,fun q c=>G.own.lt c⟩
 generalize jt H []=p at *;generalize mb (dy []) L=u at *;generalize dy []=r at *;have A:Hid _:=m;clear I t m C;go_enter func13,ntmps13
 go_upto_region 2 with (go_at_call 29;refine QU (HC.out b) ?_;rintro e1 l ⟨rfl,X,k1⟩)
 go_upto_region 3 with (go_at_call 29;refine QU (HC.out l) ?_;rintro e2 v ⟨rfl,i,k2⟩)
 have n:Hid _:=k1.trans k2;have K:Hid _:=i;have W:Hid (b.heap.size<=l.heap.size):=k1.size;clear X i k1 k2
 go_upto_region 4 with (go_at_call 30;refine QU (V.out v n.out) ?_;rintro e3 g ⟨rfl,E,J⟩)
 have Q:Hid (dn g f H o M w L):=(P.out.Vb n.out).kept J (fun q c t=>A.out k Rn (by rw[<-Q9.1 t];exact c));have y:Hid _:=(J.get K.out (by have:=W.out;simp;omega));have T:Hid (dE g k p y8 y7 u):=E;have B:Hid _:=((n.out.mono (S':=[k]) (by simp)).trans J);clear E J
 go_upto_region 5 with (go_at_call 31;refine QU (O.out g _ Q.out y.out) ?_;rintro e4 x ⟨rfl,h4,D,k4,b4⟩)
 have R:Hid (∃s,dn x f p s M w u/\∀q,s.blk=some q->o.blk=some q∨b.heap.size<=q):=⟨h4,D,fun q c=>(b4 q c).elim Q1 (fun z=>QV (Q3 B.out.size z))⟩;have U:Hid (dE x k p y8 y7 u):=T.out.kept k4 (fun q c t=>A.out q c (by rcases Rj.1 t with e | e;rw[e];exact Rn;exact Rm _ (RN _ e)));have N:Hid (ab ([k]++f :: o.blk.toList) b x):=(B.out.mono (S':=[k]++f :: o.blk.toList) (fun q c _=>RN _ c)).trans (k4.mono (fun q c _=>Se _ c));have S:Hid (Calls prog 26 #[.slice none 0 0,.slice (some ⟨b.heap.size,0,none⟩) 0 0] x _):=nC none (some ⟨b.heap.size,0,none⟩) 0 0 [] x (h.out _ _) (h.out _ _) (by simp);clear D k4 b4;go_wp2_with (go_at_call 26;refine QU S.out ?_;rintro e5 w5 ⟨rfl,n5,ag⟩);go_ret;have k5:ab [] x (x.drewN n5):=(ab.refl [] _).drewN n5;obtain⟨s,ac,Z⟩:=R.out;exact⟨rfl,U.out.Vb k5,⟨s,ac.Vb k5,Z⟩,N.out.trans (k5.mono (by simp))⟩
def ON(w:World)(x m:Nat)(h:Hd)(lo hi lo2 hi2:Nat)(fs:Fs)(e:Ending)(w':World):Prop :=
 e=.returned (.bool true)/\(∃st lo1 hi1 lo3 hi3,dE w' x fs lo1 hi1 st/\nH w.heap.size lo hi lo1 hi1/\dn w' m fs h lo3 hi3 st/\nH w.heap.size lo2 hi2 lo3 hi3/\(∀q,q∈x :: ie lo1 hi1->q∉m :: (h.blk.toList++ie lo3 hi3)))/\ab ([x]++m :: h.blk.toList) w w'
theorem AN(hx:dE b k H y8 y7 L)(g:dn b f H o M w L)(an:∀j,j<H.length->(ak H j).size<=1024)(x:∀q,q∈k :: ie y8 y7->q∉f :: (o.blk.toList++ie M w)) :
  Calls prog 16 #[.pointer (some ⟨k,0,none⟩),.pointer (some ⟨f,0,none⟩),.string y5] b fun e I=>ON b k f o y8 y7 M w H e I:=by
 have al:H.length<=4:=by obtain⟨on,p2,p3,p4,r⟩:=g.anyS;exact r.le
 obtain⟨⟨r,s,l,c⟩,q,h,h1,h2⟩:=KP k f H o y8 y7 M w L y5 b hx al an;have H1:Hid (Calls prog 36 #[.pointer (some ⟨k,0,none⟩),.string y5] b fun e I=>e=.returned (.tuple #[.agg #[.int .i64 r,.string s,.int .i64 l,.int .i64 c],.int .i64 q])/\(∃d a,dE I k H d a h/\nH b.heap.size y8 y7 d a)/\ab [k] b I):=h1;have H2:Hid (∀y,dn y f H o M w L->Calls prog 37 #[.pointer (some ⟨f,0,none⟩),.string y5] y fun e I=>e=.returned (.tuple #[.agg #[.int .i64 r,.string s,.int .i64 l,.int .i64 c],.int .i64 q])/\(∃d a,dn I f H o d a h/\nH y.heap.size M w d a)/\ab [f] y I):=h2;have Z:Hid (dn b f H o M w L):=g;have A:Hid _:=x;have U:Hid ((∀q,q∈k :: ie y8 y7->q<b.heap.size)/\∀q,q∈f :: (o.blk.toList++ie M w)->q<b.heap.size):=⟨hx.lt,g.lt⟩;clear h1 h2 hx g x;go_enter func16,ntmps16
 go_upto_region 2 with (go_at_call 36;refine QU H1.out ?_;rintro e1 J ⟨rfl,⟨d,a,G,n1⟩,k1⟩)
 obtain⟨i,D⟩:∃i,Hid (J.alloc (.cells #[.int .i64 r,.string s,.int .i64 l,.int .i64 c] 87)=i):=⟨_,rfl⟩
 have B:Hid (ab [] J i):=by show ab _ _ _;rw[<-D.out];exact(ab.refl [] _).alloc _
 have V:Hid (i.heap[J.heap.size]?=some (.cells #[.int .i64 r,.string s,.int .i64 l,.int .i64 c] 87 (0,0))):=by show _=_;rw[<-D.out];exact QS _ _
 have ag:Hid (dE i k H d a h):=G.Vb B.out;have Q:Hid (nH b.heap.size y8 y7 d a):=n1;have X:Hid (a<=J.heap.size):=G.z;have P:Hid (ab [k] b i):=k1.trans (B.out.mono (by simp));have ad:Hid (dn i f H o M w L):=Z.out.kept P.out (fun q m g=>A.out k Rn (by rw[<-Q9.1 g];exact m));have R:Hid (J.heap.size<=i.heap.size):=B.out.size;have F:Hid (b.heap.size<=J.heap.size):=k1.size;rw[D.out];clear G k1 n1
 go_upto_region 3 with (go_at_call 37;refine QU (H2.out i ad.out) ?_;rintro t y ⟨rfl,⟨p,n,S,n3⟩,k2⟩)
 obtain⟨u,E⟩:∃u,Hid (y.alloc (.cells #[.int .i64 r,.string s,.int .i64 l,.int .i64 c] 87)=u):=⟨_,rfl⟩
 have O:Hid (ab [] y u):=by show ab _ _ _;rw[<-E.out];exact(ab.refl [] _).alloc _
 have K:u.heap[y.heap.size]?=some (.cells #[.int .i64 r,.string s,.int .i64 l,.int .i64 c] 87 (0,0)):=by rw[<-E.out];exact QS _ _
 have C:Hid (ab [f] i u):=k2.trans (O.out.mono (by simp))
 have N:Hid (∀q,q∈k :: ie d a->q∈k :: ie y8 y7∨(b.heap.size<=q/\q<J.heap.size)):=fun q m=>by
  rcases Rj.1 m with e | e
  ·exact Q1 (by rw[e];exact Rn)
  ·rcases Q.out.mem e with t | t
   ·exact Q1 (Rm _ t)
   ·exact QV ⟨t,QX (ng.1 e).2 X.out⟩
 have ai:Hid (dE u k H d a h):=ag.out.kept C.out (fun q m g=>by
  rw[Q9.1 g]at m
  rcases N.out f m with e | e
  ·exact A.out f e Rn
  ·have:=U.out.2 f Rn;omega)
 have af:Hid (dn u f H o p n h):=S.Vb O.out
 have ac:Hid (nH b.heap.size M w p n):=by
  rcases n3 with e | e
  ·exact Q1 e
  ·exact QV (Q3 (Q3 F.out R.out) e)
 have W:Hid (∀q,q∈k :: ie d a->q∉f :: (o.blk.toList++ie p n)):=fun q m g=>by
  have T:∀q,q∈f :: (o.blk.toList++ie p n)->q∈f :: (o.blk.toList++ie M w)∨i.heap.size<=q:=fun q g=>by
   rcases Rj.1 g with e | e
   ·exact Q1 (by rw[e];exact Rn)
   ·rcases Rr.1 e with e | e
    ·exact Q1 (Rm _ (RN _ e))
    ·rcases nH.mem (z:=i.heap.size) (lo:=M) (hi:=w) n3 e with e | e
     ·exact Q1 (Rm _ (Se _ e))
     ·exact QV e
  have z1:=F.out;have z2:=R.out
  rcases N.out q m with e | e
  ·rcases T q g with t | t
   ·exact A.out q e t
   ·have:=U.out.1 q e;omega
  ·rcases T q g with t | t
   ·have:=U.out.2 q t;omega
   ·omega
 have v:=C.out.get V.out (by have:=U.out.2 f Rn;have:=F.out;simp;omega);have Y:Hid (ab ([k]++f :: o.blk.toList) b u):=(P.out.mono (fun q m _=>RN _ m)).trans (C.out.mono (fun q m _=>Se _ (by rw[Q9.1 m];exact Rn)));rw[E.out];clear S k2 n3;obtain⟨⟨a0,a1,a2,a3⟩,-,az⟩:=mz v;obtain⟨⟨b0,b1,b2,b3⟩,-,bz⟩:=mz K;clear v K;go_wp2;go_ret;exact⟨rfl,⟨h,d,a,p,n,ai.out,Q.out,af.out,ac.out,W.out⟩,Y.out⟩
end Go.Proofs.YtpddjjabfbfifaaGreat
