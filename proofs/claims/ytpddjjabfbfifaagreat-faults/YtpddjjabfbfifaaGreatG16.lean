import Derived.Deep.RegionHeld3
import Derived.Deep.RegionLaw
import Derived.Deep.CutRange
import Derived.Test.YtpddjjabfbfifaaGreatG07
import Derived.Test.YtpddjjabfbfifaaGreatG15
namespace Go.Proofs.YtpddjjabfbfifaaGreat
open Go.RowKit Tryz
set_option maxHeartbeats 0
variable{z4:List Tk}{zb:List Sm}{l S u vs:Nat}{ws:Nat->Bool}{yy:Db}{yz:List ik}{y9 yd:ByteArray}{wc:List St}{vb:Nat->Hd}{n p:World}{yu:List Nat}{d v3:Fs}{z6 x7:Option Nat}{s yf:Hd}{wd:Int}{I wz:Nat×Nat->It}{yg:Nat×Nat}{wu wv:dN}{vc:List Value}{x8:Program}{u3:Array Oper}{x5:Oper}{v5:Act}{u4:Exit->Act->World->Prop}(y6 zt y:Nat)(y4:ByteArray)(v:List Tk)(x6:Option Addr)(z3:Nat)(i:List Sm)(wq:Option Addr)(D:Nat)(N:List ik)(yv:Option Addr)(f:Nat)(ww va:Value)(ya:Fs)(yr:ByteArray)(H:Fs)(M:Hd)(y8:Nat)(v0:Option Addr)(y7 t w:Nat)(g:Option Nat)(ys yt:Value)(y5:ByteArray)(vd:List Nat)(L:Nat)(b:World)(q:Nat×Nat->It)
def jO(T:List Tk)(S:List Sm)(j k:Nat):ByteArray:=((bu T (au S j).h).take k).foldl (fun s x=>s++⟨#[32]⟩++x) (bG T (au S j)++⟨#[32]⟩++(au S j).k)
theorem sS(h:L<(bu v (au i w).h).length):jO v i w (L+1)=jO v i w L++⟨#[32]⟩++(bu v (au i w).h)[L]:=by
 unfold jO;rw[Td,QP h,Sw];rfl
theorem Ah(c:(bG z4 (au zb l)).size<=100000)(d:(au zb l).k.size<=100000)(a:∀x∈bu z4 (au zb l).h,x.size<=100000)(k:Nat)(e:k<=(bu z4 (au zb l).h).length):(jO z4 zb l k).size<=200001+k*100001:=by
 induction k with
 | zero =>
  unfold jO;simp only[List.take_zero,List.foldl_nil,ByteArray.size_append,mG];omega
 | succ k b =>
  have f:=a _ (Rb (show k<(bu z4 (au zb l).h).length by omega));rw[sS z4 zb l k (by omega)];simp only[ByteArray.size_append,mG];have:=b (by omega);omega
set_option maxRecDepth 100000
theorem IG(z:b.heap[y6]?=some (.cells #[ww,va,.pointer (some ⟨zt,0,none⟩),ys,yt] 85 (0,0)))(u:fz b zt v x6 z3 i yv f)(A:y<i.length)(hT:v.length<=10000)(Y:cU v i[y].h)(ha:i[y].a<v.length)(W:(bG v (au i y)).size<=100000)(X:(au i y).k.size<=100000)(O:∀x∈bu v (au i y).h,x.size<=100000)(hl:(bu v (au i y).h).length<=10000) :
  Calls prog 63 #[.pointer (some ⟨y6,0,none⟩),.int .i64 y] b fun e T=>e=.returned (.string (kn v i y))/\ab [] b T:=by
 have N:au i y=i[y]:=by unfold au;rw[QQ,QP A];rfl
 have J:Hid _:=nQ zt y v x6 z3 i yv f b u A ha;have E:Hid (∀c,ab [] b c->Calls prog 72 #[.pointer (some ⟨zt,0,none⟩),.int .i64 y] c fun e T=>∃t,e=.returned (.slice t.ao (bu v i[y].h).length t.cap)/\vj c T t (bu v i[y].h)):=fun c k=>kD zt y v x6 z3 i yv f c (u.Vb k) A (by omega) Y
 have o:Hid (kn v i y=jO v i y (bu v (au i y).h).length):=by show _=_;unfold kn jO;rw[RK]
 have m:Hid _:=Ah W X O;have p:Hid _:=sS v i y;have I:Hid (jO v i y 0=bG v i[y]++⟨#[32]⟩++i[y].k):=by show _=_;unfold jO;rw[N];rfl
 have G:Hid (fz b zt v x6 z3 i yv f):=u;have K:Hid _:=z;have V:Hid _:=O;rw[N]at W X hl o m p V;obtain⟨r,rfl,w,q0,q1,q2,D⟩:=u.s.2 y i[y] (QP A);have R:b.cell? ⟨y6,2,none⟩=some (.pointer (some ⟨zt,0,none⟩)):=by rw[aa z];rfl
 have S:=ae z;have ad:(y:Int)<(i.length:Int):=by omega
 have l:Hid (b.cell? ⟨r,y*4+3,none⟩=some (.string i[y].k)/\r<b.heap.size):=⟨D,w⟩;generalize i[y].k=kk at *;generalize bG v i[y]=Q at *;generalize bu v i[y].h=B at *;clear u z O N q0 q1 q2 D w Y;go_enter func63,ntmps63
 go_upto_region 2 with (go_at_call 87;refine QU J.out ?_;rintro e c ⟨rfl,C⟩)
 have d:Hid _:=C;have q:Hid _:=(C.get K.out (by simp));have F:Hid _:=G.out.Vb C;clear R S C;have R:c.cell? ⟨y6,2,none⟩=some (.pointer (some ⟨zt,0,none⟩)):=by rw[aa q.out];rfl
 have S:=ae q.out;obtain⟨-,d1,bz⟩:=F.out.cells;have D:c.cell? ⟨r,y*4+3,none⟩=some (.string kk):=by rw[Q6 (d.out.block r l.out.2 (by simp))];exact l.out.1
 have gz:r<c.heap.size:=QX l.out.2 d.out.size;have n:Hid _:=E.out c d.out;have z1:(Q++⟨#[32]⟩:ByteArray).size<=100001:=by simp only[ByteArray.size_append,mG];omega
 go_upto_region 3 with fail
 go_upto_region 4 with (go_at_call 72;refine QU n.out ?_;rintro e w2 ⟨t,rfl,U⟩)
 have L:Hid _:=U.own.srcX;have H:Hid _:=d.out.trans U.kept;rw[<-I.out];clear R S d1 bz D gz U z1;obtain⟨P,Z⟩:=t;go_wp2
 go_loopg [5,7] B.length (fun g tv ap wr=>∃k:Nat,k<=B.length/\g=B.length-k/\ap=.int .i64 k/\tv=.string (jO v i y k)/\w2=wr)
 case atStart=>exact⟨0,by omega,by omega,rfl,rfl,rfl⟩
 case round =>
  obtain⟨k,hk,hg,rfl,rfl,rfl⟩:=hrel
  by_cases j:k<B.length
  ·have al:=m.out k hk
   have ai:=m.out (k+1) j;have hx:=V.out _ (Rb j);have HT:Hid _:=(p.out k j).symm;have af:(k:Int)<(B.length:Int):=by omega
   obtain⟨gB,M,ac,cB⟩:=L.out k _ (QP j);replace M:P=some ⟨gB,0,none⟩:=M;subst M;generalize B[k]=ar at *;have an:(jO v i y k++⟨#[32]⟩:ByteArray).size<=200002+k*100001:=by simp only[ByteArray.size_append,mG];omega
   generalize jO v i y k=tx at *;go_wp2
   go_roundg (B.length-(k+1))
   case measure=>omega
   case rel=>exact⟨k+1,by omega,rfl,by go_num,congrArg Value.string HT.out,rfl⟩
  ·have e:k=B.length:=by omega
   subst e;have ag:¬(B.length:Int)<(B.length:Int):=by omega
   go_wp2;go_ret;exact⟨congrArg (fun s=>Ending.returned (Value.string s)) o.out.symm,H.out⟩
def Na(RS:List ik)(lab:ByteArray)(a:Nat):Bool:=(bne (ff RS a).Vc 0)&&((ff RS a).label.toList==lab.toList)
def uZ(RS:List ik)(lab:ByteArray):Option Nat:=(List.range RS.length).find? (Na RS lab)
theorem D0(c:S<l)(a:∀i,i<S->ws i=false)(h:ws S=true):(List.range l).find? ws=some S:=by
 rw[Up];refine⟨h,S,by rw[Tf];exact c,by rw[Ub],fun j b=>?_⟩;rw[Ub,a j b];rfl
theorem Lk(a:∀i,i<l->ws i=false):(List.range l).find? ws=none:=by
 rw[Sk];intro i b;rw[a i (Ra.1 b)];simp
set_option maxRecDepth 512
theorem Ky(a:b.heap[y]?=some (.cells #[ww,.bool false,va,ys,yt] 85 (0,0))) :
  Calls prog 61 #[.pointer (some ⟨y,0,none⟩),.string y4] b fun e c=>e=.returned (.tuple #[.int .i64 0,.int .i64 7])/\c=b:=by
 have d:b.cell? ⟨y,1,none⟩=some (.bool false):=by rw[aa a];rfl
 have f:=ae a;clear a;go_enter func61,ntmps61;go_wp2;exact QY (v:=.tuple #[.int .i64 0,.int .i64 7]) (by simp[results,results61,go_sem]) rfl ⟨rfl,rfl⟩
def MY(RS:List ik)(lab:ByteArray)(w:World)(e:Ending)(w':World):Prop:=e=.returned (.tuple #[.int .i64 ((uZ RS lab).getD 0:Nat),.int .i64 (if(uZ RS lab).isSome=true then 0 else 8)])/\w'=w
set_option maxRecDepth 100000
theorem Bb(j:b.heap[y]?=some (.cells #[va,.bool true,ys,yt,.slice yv N.length f] 85 (0,0)))(s:cm b yv 6 jJ N)(H:N.length<=100000) :
  Calls prog 61 #[.pointer (some ⟨y,0,none⟩),.string y4] b fun e D=>MY N y4 b e D:=by
 have M:b.cell? ⟨y,1,none⟩=some (.bool true):=by rw[aa j];rfl
 have O:b.cell? ⟨y,4,none⟩=some (.slice yv N.length f):=by rw[aa j];rfl
 have P:=ae j;have u:=(show Hid (cm b yv 6 jJ N) from s);clear j s;go_enter func61,ntmps61;go_wp2
 go_loopg [6] N.length (fun g i wr=>∃k:Nat,k<=N.length/\g=N.length-k/\i=.int .i64 k/\Hid (∀i,i<k->Na N y4 i=false)/\b=wr)
 case atStart=>exact⟨0,by omega,by omega,rfl,(fun i h=>by omega),rfl⟩
 case round =>
  obtain⟨k,G,F,rfl,d,rfl⟩:=hrel
  by_cases a:k<N.length
  ·have z:(k:Int)<(N.length:Int):=by omega
   have q:N[k]?=some (ff N k):=by unfold ff;rw[QQ,QP a];rfl
   obtain⟨E,rfl,w,n⟩:=u.out k _ q;have p:=n 0 _ rfl;have v:=n 1 _ rfl;rw[Tg]at p;have c:Hid (Na N y4 k=((bne (ff N k).Vc 0)&&((ff N k).label.toList==y4.toList))):=rfl;clear n q;generalize ff N k=r at *;obtain⟨B,C,L,J,K,I⟩:=r;simp only at c p v
   cases o:(C != 0)
   ·have l:Hid (∀i,i<k+1->Na N y4 i=false):=fun i x=>by
     by_cases e:i=k
     ·rw[e,c.out,o];rfl
     ·exact d.out i (by omega)
    go_wp2
    go_roundg (N.length-(k+1))
    case measure=>omega
    case rel=>exact⟨k+1,by omega,rfl,by go_num,l,rfl⟩
   ·cases t:(B.toList==y4.toList)
    ·have l:Hid (∀i,i<k+1->Na N y4 i=false):=fun i x=>by
      by_cases e:i=k
      ·rw[e,c.out,o,t];rfl
      ·exact d.out i (by omega)
     go_wp2
     go_roundg (N.length-(k+1))
     case measure=>omega
     case rel=>exact⟨k+1,by omega,rfl,by go_num,l,rfl⟩
    ·have m:Hid (uZ N y4=some k):=D0 a d.out (by rw[c.out,o,t];rfl)
     go_wp2;exact QY (v:=.tuple #[.int .i64 k,.int .i64 0]) (by simp[results,results61,go_sem]) rfl ⟨by rw[m.out];rfl,rfl⟩
  ·have e:k=N.length:=by omega
   subst e;have A:¬(N.length:Int)<(N.length:Int):=by omega
   have m:Hid (uZ N y4=none):=Lk d.out;go_wp2;exact QY (v:=.tuple #[.int .i64 0,.int .i64 8]) (by simp[results,results61,go_sem]) rfl ⟨by rw[m.out];rfl,rfl⟩
def Km(L:List ByteArray)(w:World)(e:Ending)(w':World):Prop:=∃h',e=.returned (.tuple #[.slice h'.ao L.length h'.cap,.int .i64 0])/\gw w w' h' (aB L)
theorem Ee(hd:b.heap[y6]?=some (.cells #[ys,.bool true,.pointer (some ⟨zt,0,none⟩),yt,.slice v0 N.length w] 85 (0,0)))(hS:cm b v0 6 jJ N)(hl:N.length<=100000)(hD:fz b zt v x6 z3 i wq D)(ok:nK v i y)(hn:y<i.length)(hE:cU v (au i y).h)(ha:uZ N y4=some y)(an:∀J,ab [] b J->∀j,(j∈bW v i y∨j=y)->Calls prog 63 #[.pointer (some ⟨y6,0,none⟩),.int .i64 j] J fun e F=>e=.returned (.string (kn v i j))/\ab [] J F)(hp:∀p∈fH v i y,p.1.size<=100000/\p.2.size<=100000)(hh:(bW v i y).length<=10000)(hq:(fH v i y).length<=100000000) :
  Calls prog 40 #[.pointer (some ⟨y6,0,none⟩),.string y4] b fun e F=>Km (pL v i y) b e F:=by
 have ar:Hid (Calls prog 61 #[.pointer (some ⟨y6,0,none⟩),.string y4] b fun e F=>e=.returned (.tuple #[.int .i64 y,.int .i64 0])/\F=b):=(Bb y6 y4 N v0 w ys _ yt b hd hS hl).mono (fun e F h=>by
  obtain⟨h1,x⟩:=h;rw[ha]at h1;exact⟨h1,x⟩)
 have aT:Hid _:=nP zt y v x6 z3 i wq D b hD ok hn hE;have bd:Hid (∀J,ab [] b J->Calls prog 64 #[.pointer (some ⟨zt,0,none⟩),.int .i64 y] J fun e F=>∃s,e=.returned (.slice s.ao (fH v i y).length s.cap)/\gw J F s (lz (fH v i y))):=fun J k=>wI zt y v x6 z3 i wq D J (hD.Vb k) ok hn hE
 have Z:Hid _:=an;have be:Hid _:=hp;have HV:Hid _:=hd;have v2:b.cell? ⟨y6,2,none⟩=some (.pointer (some ⟨zt,0,none⟩)):=by rw[aa hd];rfl
 have vz:=ae hd;have Y:Hid (pL v i y=(bW v i y).map (kn v i)++(fH v i y).map fh++[kn v i y]):=rfl;obtain⟨iS,T,B,C,E⟩:=Re js;generalize pL v i y=LL at *;generalize bW v i y=a at *;generalize fH v i y=c at *;clear hd hS hD ok hE an hp ha;go_enter func40,ntmps40
 go_upto_region 5 with (go_at_call 61;refine QU ar.out ?_;rintro e w9 ⟨rfl,ap⟩;rw[ap];clear ap)
 go_upto_region 6 with (go_at_call 62;refine QU aT.out ?_;rintro e w1 ⟨h1,rfl,x1⟩)
 have M:Hid _:=x1.kept;have a4:Hid _:=x1.own.srcN;obtain⟨bg,bv⟩:=h1;have a6:Hid (gw w1 w1 ⟨none,0⟩ (aB [])):=⟨QZ _ _ _ _,(by intro k hk;cases hk),ab.refl _ _⟩;clear x1 v2 vz;go_wp2
 go_loopg [8,10] a.length (fun g o bp wr=>∃(k:Nat) (s:Hd),k<=a.length/\g=a.length-k/\o=.slice s.ao k s.cap/\bp=.int .i64 k/\Hid (gw w1 wr s (aB ((a.take k).map (kn v i)))))
 case atStart=>exact⟨0,⟨none,0⟩,by omega,rfl,rfl,rfl,a6⟩
 case round =>
  obtain⟨k,s,hk,hg,rfl,rfl,W⟩:=hrel;have P:Hid _:=M.out.trans W.out.kept
  by_cases r:k<a.length
  ·have bo:(k:Int)<(a.length:Int):=by omega
   obtain⟨gH,eH,bk,cH⟩:=(qD.Vb a4.out W.out.kept) k _ (QP r);replace eH:bg=some ⟨gH,0,none⟩:=eH;subst eH;have a3:Hid _:=Z.out wr P.out a[k] (Q1 (Rb r));have R:Hid ((a.take k).map (kn v i)++[kn v i a[k]]=(a.take (k+1)).map (kn v i)):=by show _=_;rw[Td,QP r,Ry];rfl
   have m:Hid (((a.take k).map (kn v i)).length=k):=by show _=_;rw[Ri,RQ];omega
   generalize (a.take k).map (kn v i)=O at *;generalize kn v i a[k]=ln at *;generalize a[k]=j at *
   go_upto_region 10 with (go_at_call 63;refine QU a3.out ?_;rintro e w2 ⟨rfl,k2⟩)
   have H:Hid _:=W.out.Vb k2;have z:=H.out.own;have A:Hid ((aB O).n<=900000000):=by show O.length<=_;rw[m.out];omega
   have q:Hid ((aB O).n=k):=m.out;clear cH bk k2;go_wp2_with (at_builtin;refine bN w2 rfl (.tmp 42) (.tmp 44) 61 rfl iS (.string ⟨#[]⟩) 16 s (aB O) [.string ln] underlying61 T B C E rfl Rc (by rw[q.out];simp[Act.eval]) z A.out (by omega) (by simp[Act.eval]) rfl (by simp[Value.oneCell']) ?_;intro h5 w5 l d;rw[dr]at l;have Q:Hid _:=H.out.Vl d l;clear l d)
   go_roundg (a.length-(k+1))
   case measure=>omega
   case rel=>exact⟨k+1,h5,by omega,rfl,by rw[q.out],by go_num,by rw[<-R.out];exact Q⟩
  ·have e:k=a.length:=by omega
   subst e;have bx:¬(a.length:Int)<(a.length:Int):=by omega
   rw[RK]at W;have af:Hid _:=(P.out.get HV.out (by simp));have v2:wr.cell? ⟨y6,2,none⟩=some (.pointer (some ⟨zt,0,none⟩)):=by rw[aa af.out];rfl
   have vz:=ae af.out;have bf:Hid _:=bd.out wr P.out
   go_upto_region 12 with (go_at_call 64;refine QU bf.out ?_;rintro e w2 ⟨hP,rfl,x2⟩)
   have ba:Hid (cm w2 hP.ao 2 CJ c):=aw.srcG (f:=CJ) x2.own (fun _=>rfl);have H:Hid _:=W.out.Vb x2.kept
   have ax:Hid (∀g,hP.ao=some ⟨g,0,none⟩->s.blk≠some g):=fun g G hb=>by
    have h1:=x2.far g (tK G);have x:=W.out.own.lt hb;omega
   have aS:Hid (∀g,hP.ao=some ⟨g,0,none⟩->g<w2.heap.size):=fun g G=>x2.own.lt (tK G)
   obtain⟨S,bs⟩:=hP;clear v2 vz x2;have a7:Hid ((a.map (kn v i)).length=a.length):=Ri _;generalize a.map (kn v i)=O at *;have ag:Hid (gw w1 w2 s (aB (O++(c.take 0).map fh))):=by show gw _ _ _ _;rw[Tq,UA,Rl];exact H.out
   go_wp2
   go_loopg [8,13] c.length (fun g o bp V=>∃(k:Nat) (x:Hd),k<=c.length/\g=c.length-k/\o=.slice x.ao (a.length+k) x.cap/\bp=.int .i64 k/\Hid (gw w1 V x (aB (O++(c.take k).map fh)))/\Hid (cm V S 2 CJ c)/\Hid (∀g,S=some ⟨g,0,none⟩->x.blk≠some g/\g<V.heap.size))
   case atStart=>exact⟨0,s,by omega,rfl,rfl,rfl,ag,ba,fun g G=>⟨ax.out g G,aS.out g G⟩⟩
   case round =>
    obtain⟨k,x,bw,bj,rfl,rfl,t,ad,L⟩:=hrel;have a0:Hid _:=M.out.trans t.out.kept;have m:Hid ((O++(c.take k).map fh).length=a.length+k):=by show _=_;rw[Q0,a7.out,Ri,RQ];omega
    by_cases r:k<c.length
    ·have bo:(k:Int)<(c.length:Int):=by omega
     obtain⟨I,eP,bl,hc⟩:=ad.out k _ (QP r);replace eP:S=some ⟨I,0,none⟩:=eP;subst eP;have c0:=hc 0 _ rfl;have c1:=hc 1 _ rfl;rw[Tg]at c0;obtain⟨z0,z1⟩:=be.out _ (Rb r);have R:Hid (O++(c.take k).map fh++[fh c[k]]=O++(c.take (k+1)).map fh):=by show _=_;rw[Td,QP r,Ry,Sy];rfl
     have ac:Hid (fh c[k]=⟨#[36,100,32]⟩++c[k].1++⟨#[32]⟩++c[k].2):=rfl;clear hc;generalize c[k]=pp at *;obtain⟨U,py⟩:=pp;simp only at ac z0 z1 c0 c1;generalize O++(c.take k).map fh=u at *;have s3:(⟨#[36,100,32]⟩:ByteArray).size=3:=rfl;have y1:(⟨#[36,100,32]⟩++U:ByteArray).size<=100003:=by simp only[ByteArray.size_append,s3];omega
     have y2:(⟨#[36,100,32]⟩++U++⟨#[32]⟩:ByteArray).size<=100004:=by simp only[ByteArray.size_append,s3,mG];omega
     have n1:¬9223372036854775807<3+U.size:=by omega
     have n2:¬9223372036854775807<3+U.size+1:=by omega
     have n3:¬9223372036854775807<3+U.size+1+py.size:=by omega
     have z:=t.out.own;have A:Hid ((aB u).n<=900000000):=by show u.length<=_;rw[m.out];omega
     have q:Hid ((aB u).n=a.length+k):=m.out
     have HS:Hid (∀(X:World) (h6:Hd),bt wr X x h6->X.cell? ⟨I,k*2,none⟩=some (.string U)/\X.cell? ⟨I,k*2+1,none⟩=some (.string py)):=fun X h6 gr=>by
      have hb:=gr.kept.block I bl (fun hm=>(L.out I rfl).1 (aN hm));exact⟨by rw[Q6 hb];exact c0,by rw[Q6 hb];exact c1⟩
     go_upto_region 15 with fail
     go_region_held3 (fun F=>F.cell? ⟨I,k*2,none⟩=some (.string U)/\F.cell? ⟨I,k*2+1,none⟩=some (.string py)) (go_keep) ((refine bH wr (by rfl) (.tmp 58) (.tmp 72) 61 (by rfl) iS (.string ⟨#[]⟩) 16 x (aB u) [.string _] underlying61 T B C E rfl Rc (by rw[q.out];simp[Act.eval]) z A.out (by omega) (by simp[Act.eval]) rfl (by simp[Value.oneCell']) ?_;intro al K w5 l d;obtain⟨y0,y3⟩:=HS.out w5 _ d))
     all_goals
      rw[dr,<-ac.out,R.out]at l;have a5:Hid _:=t.out.Vl d l;have bc:Hid (cm w5 (some ⟨I,0,none⟩) 2 CJ c):=ad.out.keptS d.kept (fun g G hm=>(L.out g G).1 (aN hm))
      have az:Hid (∀g,(some ⟨I,0,none⟩:Option Addr)=some ⟨g,0,none⟩->(⟨al,K⟩:Hd).blk≠some g/\g<w5.heap.size):=fun g G=>by
       obtain⟨f1,f2⟩:=L.out g G;have hs:=d.kept.size;refine⟨fun e=>?_,by omega⟩
       rcases d.blk with e2 | ⟨g2,e2,bj⟩
       ·rw[e2]at e;exact f1 e
       ·rw[e2]at e;cases e;omega
      clear l d;go_wp2
      go_roundg (c.length-(k+1))
      case measure=>omega
      case rel=>exact⟨k+1,⟨al,K⟩,by omega,rfl,by rw[q.out];rfl,by go_num,a5,bc,az⟩
    ·have e:k=c.length:=by omega
     subst e;have br:¬(c.length:Int)<(c.length:Int):=by omega
     rw[RK]at t m;have a1:Hid _:=Z.out wr a0.out y (QV rfl);generalize O++c.map fh=u at *;generalize kn v i y=la at *
     go_upto_region 17 with (go_at_call 63;refine QU a1.out ?_;rintro e X ⟨rfl,k6⟩)
     have ai:Hid _:=t.out.Vb k6;have z:=ai.out.own;have A:Hid ((aB u).n<=900000000):=by show u.length<=_;rw[m.out];omega
     have q:Hid ((aB u).n=a.length+c.length):=m.out;clear k6;go_wp2_with (at_builtin;refine bN X rfl (.tmp 77) (.tmp 79) 61 rfl iS (.string ⟨#[]⟩) 16 x (aB u) [.string la] underlying61 T B C E rfl Rc (by rw[q.out];simp[Act.eval]) z A.out (by omega) (by simp[Act.eval]) rfl (by simp[Value.oneCell']) ?_;intro h5 w5 l d;rw[dr]at l;have Q:Hid _:=ai.out.Vl d l;clear l d);have a2:Hid (LL.length=(aB u).n+1):=by show _=_;rw[Y.out,Q0];rfl
     exact QY (v:=.tuple #[.slice h5.ao ((aB u).n+1) h5.cap,.int .i64 0]) (by simp[results,results40,go_sem]) rfl ⟨h5,by rw[a2.out],by rw[Y.out];exact Q.out.base M.out⟩
structure Qp(T:List Tk)(S:List Sm)(RS:List ik):Prop where
 len:RS.length=S.length
 yes:∀a,a<S.length->aC (au S a).k=true->(bne (ff RS a).Vc 0)=true/\(ff RS a).label=bG T (au S a)
 no:∀a,a<S.length->aC (au S a).k=false->(bne (ff RS a).Vc 0)=false
theorem kP.find(R:kP z4 yy)(E:Qp z4 (aj z4) yz)(b:ByteArray):uZ yz b=(gC yy.Vn b).map (bR (aj z4)):=by
 have c:((List.range yy.Vn.length).filter (mD yy.Vn b)).map (bR (aj z4))=(List.range (aj z4).length).filter (Na yz b):=by
  refine ub R.hel.len (fun j m h=>?_) (fun n e=>?_)
  ·unfold Na at h
   simp only[Bool.and_eq_true]at h
   cases a:aC (au (aj z4) j).k
   ·rw[E.no j m a]at h;cases h.1
   ·unfold aC at a
    simp only[Bool.or_eq_true]at a;unfold nu
    rcases a with a | a <;> rw[a] <;> simp
  ·obtain⟨s,p,l,o,-⟩:=R.get e
   have d:=R.hel.at_ e;unfold mD Na;rw[p];simp only;have f:=(fS l).2.2.2
   cases a:aC (au (aj z4) (bR (aj z4) n)).k
   ·rw[E.no _ d a]
    unfold aC at a;rw[f,a];simp
   ·obtain⟨g,i⟩:=E.yes _ d a
    rw[g,i];unfold aC at a;rw[f,a,o];simp
 unfold uZ gC;rw[E.len,<-List.head?_filter,<-c,List.head?_map,List.head?_filter]
theorem Ef(G:oj z4 yy)(E:Qp z4 (aj z4) yz)(a:ByteArray):(gC yy.Vn a=none->uZ yz a=none)/\∀n,gC yy.Vn a=some n->uZ yz a=some (bR (aj z4) n)/\cW yy.Vn n=pL z4 (aj z4) (bR (aj z4) n):=by
 have h:=G.r.find E a;refine⟨fun e=>by rw[h,e];rfl,fun n e=>⟨by rw[h,e];rfl,?_⟩⟩
 have b:n<yy.Vn.length:=by
  unfold gC at e;exact Ra.1 (Rz e)
 refine G.r.frame G.f b (fun s c=>?_);unfold gC at e;have:=Tm e;unfold mD at this;rw[c]at this;simp only[Bool.and_eq_true]at this;exact this.2
theorem FC(P:List dj)(a:ByteArray)(t:Tk):∀(f k:Nat) (M:List (List ByteArray)),(bne (po v i L P a t f k M).Vc 0)=true/\(po v i L P a t f k M).label=a:=by
 intro f
 induction f with
 | zero =>
  intro k M;unfold po xt
  repeat' split
  all_goals exact⟨rfl,rfl⟩
 | succ f b =>
  intro k M;unfold po
  repeat' split
  all_goals first
   | exact⟨rfl,rfl⟩
   | exact b _ _
theorem AM(p:jS)(t:Tk):(bne (mR v i L p t).Vc 0)=true/\(mR v i L p t).label=bG v (au i L):=by
 unfold mR
 split
 ·exact⟨rfl,rfl⟩
 ·split
  ·exact⟨rfl,rfl⟩
  ·exact FC v i L _ _ t _ _ _
theorem zf:(aC (au i L).k=true->(bne (oO v i (JJ v i) L).Vc 0)=true/\(oO v i (JJ v i) L).label=bG v (au i L))/\(aC (au i L).k=false->(bne (oO v i (JJ v i) L).Vc 0)=false):=by
 unfold oO aC
 cases a:NB i L
 ·cases b:tY i L
  ·unfold NB at a
   unfold tY at b;rw[a,b];exact⟨(fun h=>by cases h),fun _=>rfl⟩
  ·unfold tY at b
   rw[b,Bool.or_true];refine⟨fun _=>?_,fun h=>by cases h⟩;exact AM v i L _ _
 ·unfold NB at a
  rw[a,Ts];exact⟨fun _=>⟨rfl,rfl⟩,fun h=>by cases h⟩
theorem pv.tell{i:List (jS×Hd)}(h:pv zb i ((List.range zb.length).map (oO z4 zb (JJ z4 zb))) yz zb.length):Qp z4 zb yz:=by
 have o:yz.length=zb.length:=by rw[h.len,Ri,Tf]
 have d:∀a,a<zb.length->ff ((List.range zb.length).map (oO z4 zb (JJ z4 zb))) a=oO z4 zb (JJ z4 zb) a:=fun a b=>by
  unfold ff;rw[QQ,Rq,Uy b];rfl
 have f:∀a,a<zb.length->(ff yz a).label=(oO z4 zb (JJ z4 zb) a).label/\(bne (ff yz a).Vc 0)=(bne (oO z4 zb (JJ z4 zb) a).Vc 0):=fun a b=>by
  by_cases c:(ff ((List.range zb.length).map (oO z4 zb (JJ z4 zb))) a).Vc=4/\vB zb i ((List.range zb.length).map (oO z4 zb (JJ z4 zb))) a
  ·have e:=h.yes a b c.1 c.2
   have j:=c.1;rw[d a b]at e j;rw[e];exact⟨rfl,by simp only;rw[j];rfl⟩
  ·rw[h.no a b c,d a b]
   exact⟨rfl,rfl⟩
 refine⟨o,fun a b g=>?_,fun a b g=>?_⟩
 ·obtain⟨k,l⟩:=f a b
  obtain⟨m,n⟩:=(zf z4 zb a).1 g;exact⟨by rw[l];exact m,by rw[k];exact n⟩
 ·rw[(f a b).2];exact(zf z4 zb a).2 g
def uT(RS:List ik):List ik:=RS.filter (fun r=>bne r.Vc 0)
theorem Mq(r:ik):∀u∈jJ r,u.oneCell'=true:=by
 intro u a;simp only[jJ,List.mem_cons,List.not_mem_nil,or_false]at a
 rcases a with rfl | rfl | rfl | rfl | rfl | rfl <;> rfl
set_option maxRecDepth 512
theorem JH(a:b.heap[f]?=some (.cells #[ww,.bool false,va,ys,yt] 85 (0,0))) :
  Calls prog 22 #[.pointer (some ⟨f,0,none⟩)] b fun e c=>e=.returned (.slice none 0 0)/\c=b:=by
 have d:b.cell? ⟨f,1,none⟩=some (.bool false):=by rw[aa a];rfl
 have g:=ae a;clear a;go_enter func22,ntmps22;go_wp2;go_ret;exact⟨rfl,rfl⟩
def M4(RS:List ik)(w:World)(e:Ending)(w':World):Prop:=∃h',e=.returned (.slice h'.ao (uT RS).length h'.cap)/\gw w w' h' (fM (uT RS))
set_option maxRecDepth 100000
theorem JG(x:b.heap[D]?=some (.cells #[va,.bool true,ys,yt,.slice yv N.length f] 85 (0,0)))(O:cm b yv 6 jJ N)(hl:N.length<=100000) :
  Calls prog 22 #[.pointer (some ⟨D,0,none⟩)] b fun e w'=>M4 N b e w':=by
 have v1:b.cell? ⟨D,1,none⟩=some (.bool true):=by rw[aa x];rfl
 have R:=ae x;have T:Hid _:=x;have S:=(show Hid (cm b yv 6 jJ N) from O);have B:Hid (gw b b ⟨none,0⟩ (fM (uT (N.take 0)))):=⟨QZ _ _ _ _,(by intro k P;cases P),ab.refl _ _⟩;obtain⟨iR,F,t,u,v⟩:=Re Gp;clear x O;go_enter func22,ntmps22;go_wp2;clear v1 R
 go_loopg [3,4] N.length (fun g o i wr=>∃(k:Nat) (c:Hd) (L:List ik),k<=N.length/\g=N.length-k/\o=.slice c.ao L.length c.cap/\i=.int .i64 k/\L.length<=k/\Hid (L=uT (N.take k))/\Hid (gw b wr c (fM L)))
 case atStart=>exact⟨0,⟨none,0⟩,[],by omega,rfl,rfl,rfl,QR _,rfl,B⟩
 case round =>
  obtain⟨k,c,L,P,hg,rfl,rfl,ac,w,l⟩:=hrel;have p:Hid _:=(l.out.kept.get T.out (by simp));have v4:wr.cell? ⟨D,4,none⟩=some (.slice yv N.length f):=by rw[aa p.out];rfl
  have R:=ae p.out
  by_cases s:k<N.length
  ·have af:(k:Int)<(N.length:Int):=by omega
   obtain⟨g0,rfl,ad,d⟩:=(cm.Vb S.out l.out.kept) k _ (QP s);have M:=d 0 _ rfl;have U:=d 1 _ rfl;have V:=d 2 _ rfl;have W:=d 3 _ rfl;have X:=d 4 _ rfl;have Y:=d 5 _ rfl;rw[Tg]at M
   have a:Hid (uT (N.take (k+1))=L++(if(bne N[k].Vc 0)=true then [N[k]] else [])):=by
    show _=_
    rw[w.out];unfold uT;rw[Td,QP s,RV]
    congr 1
    cases h:(bne N[k].Vc 0) <;> simp[h]
   clear d;generalize N[k]=r at *;obtain⟨I,y,K,H,J,G⟩:=r;simp only at a M U V W X Y
   cases Q:(y != 0)
   ·have z:Hid (L=uT (N.take (k+1))):=by show _=_;rw[a.out,Q,QT (by simp),Rl]
    go_wp2
    go_roundg (N.length-(k+1))
    case measure=>omega
    case rel=>exact⟨k+1,c,L,by omega,rfl,rfl,by go_num,by omega,z,l⟩
   ·have z:Hid (L++[⟨I,y,K,H,J,G⟩]=uT (N.take (k+1))):=by show _=_;rw[a.out,Q,QW rfl]
    have C:=l.out.own;have E:Hid ((fM L).n<=900000000):=by show L.length<=_;omega
    have m:Hid ((fM L).n=L.length):=rfl;go_wp2_with (at_builtin;refine bN wr rfl (.tmp 28) (.tmp 36) 54 rfl iR (.agg #[.string ⟨#[]⟩,.int .i64 0,.int .i64 0,.string ⟨#[]⟩,.int .i64 0,.int .i64 0]) 64 c (fM L) (jJ ⟨I,y,K,H,J,G⟩) underlying54 F t u v rfl (show 0<6 by omega) (by rw[m.out];simp[Act.eval]) C E.out (by omega) (by simp[Act.eval]) rfl (Mq _) ?_;intro Z w5 j q;rw[fM,gM]at j;have A:Hid _:=l.out.Vl q j;clear j q)
    go_roundg (N.length-(k+1))
    case measure=>omega
    case rel=>exact⟨k+1,Z,L++[(⟨I,y,K,H,J,G⟩:ik)],by omega,rfl,by rw[m.out,Q0];rfl,by go_num,by rw[Q0];show _+1<=_;omega,z,A⟩
  ·have e:k=N.length:=by omega
   subst e;have ag:¬(N.length:Int)<(N.length:Int):=by omega
   rw[RK]at w;go_wp2;go_ret;exact⟨c,by rw[<-w.out];rfl,by rw[<-w.out];exact l.out⟩
section
variable {T:List Tk}
theorem zS(h:dC T)(i:Nat):(tS T i).size<=1024:=by
 unfold tS;rw[QQ]
 cases e:T[i]? with
 | none=>show(0:Nat)<=_;omega
 | some t=>exact(h t (R4 e)).1
theorem KO{L:List Tk}(h:y9∈ke L):∃t∈L,t.s=y9:=by
 induction L with
 | nil=>cases h
 | cons t r c =>
  rw[ke]at h
  split at h
  ·cases h
  ·rcases Rj.1 h with e | e
   ·exact⟨t,Rn,e.symm⟩
   ·obtain⟨u,a,b⟩:=c e
    exact⟨u,Rm _ a,b⟩
theorem Bh(h:dC T)(i:Nat):∀x∈bu T i,x.size<=100000:=fun x c=>by
 obtain⟨t,a,b⟩:=KO c;have:=(h t (List.mem_of_mem_drop a)).1;rw[b]at this;omega
theorem yL(h:dC T)(s:Sm):(bG T s).size<=100000:=by
 unfold bG
 split
 ·have:=zS h s.a;omega
 ·show(0:Nat)<=_;omega
theorem ND(h:dC T)(j:Nat)(c:j<(aj T).length):(au (aj T) j).k.size<=100000:=by
 have b:=((fw T).s j c).1.k;have d:=zS h (au (aj T) j).a;have f:=zS h ((au (aj T) j).a+1);unfold ew at b
 split at b
 ·have e:=congrArg Prod.fst b
  replace e:(au (aj T) j).k=tS T (au (aj T) j).a:=e;rw[e];omega
 ·have e:=congrArg Prod.fst b
  replace e:(au (aj T) j).k=tS T ((au (aj T) j).a+1):=e;rw[e];omega
theorem rZ(h:aC y9=true):bS y9=false:=by
 unfold aC at h;rw[RB]at h
 rcases h with h | h <;> exact fX h (by decide)
theorem zE(h:aG y9=true):bS y9=false:=by
 unfold aG at h;rw[RB]at h
 rcases h with h | h <;> exact fX h (by decide)
theorem Cb(h:S∈bW T zb l):S<l/\aG (au zb S).k=true:=by
 unfold bW at h;obtain⟨d,a⟩:=RH.1 h;refine⟨Ra.1 d,?_⟩;unfold sJ at a;unfold aG
 cases b:((au zb S).k.toList == [36,102])
 ·cases c:((au zb S).k.toList == [36,101])
  ·rw[b,c]at a;simp at a
  ·simp
 ·simp
theorem IR:(fO T i vd L).length<=vd.length:=by
 unfold fO;rw[Ri];refine Q3 (Sc _ _) ?_;rw[RQ];omega
theorem yP(h:dC T)(S:List Sm)(a:List Nat)(k i:Nat):((fO T S a k).getD i ⟨#[]⟩).size<=100000:=by
 rw[QQ];unfold fO;rw[Rq]
 cases ((a.take k).filter (fun j=>((au S j).k.toList == [36,102])))[i]? with
 | none=>show(0:Nat)<=_;omega
 | some j=>have:=zS h ((au S j).h+1);show(tS T ((au S j).h+1)).size<=_;omega
theorem EO(h:dC T)(S:List Sm)(a:Nat):∀p∈fH T S a,p.1.size<=100000/\p.2.size<=100000:=by
 intro p c;unfold fH lg at c;obtain⟨i,-,b⟩:=TT.1 c;unfold jY at b;obtain⟨j,-,rfl⟩:=Si.1 b;exact⟨yP h S _ _ i,yP h S _ _ j⟩
theorem EP(c:L<=10000):(fH T i L).length<=100000000:=by
 unfold fH;have a:=IR (T:=T) i (bW T i L) (bW T i L).length;have b:=kj T i L;refine Q3 (yX T i L _ (by omega) _) ?_;omega
end
theorem Iq(t:b.heap[y6]?=some (.cells #[ys,.bool true,.pointer (some ⟨zt,0,none⟩),yt,.slice v0 N.length w] 85 (0,0)))(z:cm b v0 6 jJ N)(s:fz b zt v x6 z3 (aj v) wq D)(m:v.length<=10000)(l:dC v)(c:∀q,q<v.length->bh v (aj v) q=0)(o:Qp v (aj v) N)(g:uZ N y4=some y) :
  Calls prog 40 #[.pointer (some ⟨y6,0,none⟩),.string y4] b fun e C=>Km (pL v (aj v) y) b e C:=by
 have F:(aj v).length<=v.length:=oG v v.length
 have A:y<N.length:=by
  unfold uZ at g;exact Ra.1 (Rz g)
 have n:y<(aj v).length:=by rw[<-o.len];exact A
 have r:aC (au (aj v) y).k=true:=by
  cases e:aC (au (aj v) y).k
  ·unfold uZ at g
   have i:=Tm g;unfold Na at i;rw[o.no y n e]at i
   cases i
  ·rfl
 have d:∀j,j<(aj v).length->bS (au (aj v) j).k=false->cU v (au (aj v) j).h:=fun j f e=>qz (oQ (fw v) c j f e)
 have B:=J9 v m c y (by omega);have p:=(J9 v m c _ (QR _)).ok.a;have u:∀j (f:j<(aj v).length),au (aj v) j=(aj v)[j]:=fun j f=>by unfold au;rw[QQ,QP f];rfl
 refine Ee y6 zt y y4 v x6 z3 (aj v) wq D N v0 w ys yt b t z (by rw[o.len];omega) s B n (d y n (rZ r)) g (fun E k j f=>?_) (EO l _ _) (Q3 (kj _ _ _) (by omega)) (EP _ _ (by omega))
 have a:j<(aj v).length/\bS (au (aj v) j).k=false:=by
  rcases f with f | rfl
  ·obtain⟨i,x⟩:=Cb f
   exact⟨by omega,zE x⟩
  ·exact⟨n,rZ r⟩
 exact IG y6 zt j v x6 z3 (aj v) wq D ys _ yt _ E (k.get t (by simp)) (s.Vb k) a.1 m (by rw[<-u j a.1];exact d j a.1 a.2) (by rw[<-u j a.1];exact p j a.1) (yL l _) (ND l j a.1) (Bh l _) (Q3 (kg v _) m)
theorem yC(c:Int)(h:(c==0)=false)(b:World)(f:Calls prog 61 #[.pointer (some ⟨w,0,none⟩),.string y5] b fun e d=>e=.returned (.tuple #[.int .i64 0,.int .i64 c])/\d=b) :
  Calls prog 40 #[.pointer (some ⟨w,0,none⟩),.string y5] b fun e d=>e=.returned (.tuple #[.slice none 0 0,.int .i64 c])/\d=b:=by
 have g:Hid _:=f;have i:(c != 0)=true:=by unfold bne;rw[h];rfl
 clear f;go_enter func40,ntmps40;go_wp2_with (go_at_call 61;refine QU g.out ?_;rintro e j ⟨rfl,a⟩;rw[a];clear a);exact QY (v:=.tuple #[.slice none 0 0,.int .i64 c]) (by simp[results,results40,go_sem]) rfl ⟨rfl,rfl⟩
def wD(bo:Option Nat):Option Addr:=bo.map (fun b=>⟨b,0,none⟩)
def ie(lo hi:Nat):List Nat:=List.range' lo (hi-lo)
theorem ng:u∈ie l S ↔ l<=u/\u<S:=by
 unfold ie;rw[List.mem_range'_1];omega
def PV(l:List St)(H:Nat->Hd)(q:Nat):Prop:=(H 6).blk=some q∨∃i s,l[i]?=some s/\((H (10+2*i)).blk=some q∨(H (11+2*i)).blk=some q)
theorem PV.inH(h:PV wc vb l):f9 vb l:=by
 rcases h with h | ⟨i,s,-,h | h⟩
 ·exact⟨6,h⟩
 ·exact⟨_,h⟩
 ·exact⟨_,h⟩
theorem gj.ltU(h:gj n wc vb)(u:PV wc vb l):l<n.heap.size:=by
 rcases u with u | ⟨i,s,a,u | u⟩
 ·exact h.own.lt u
 ·exact(h.syms i s a).lt u
 ·exact(h.prfs i s a).lt u
theorem gj.keptU(h:gj n wc vb)(k:ab yu n p)(c:∀x,PV wc vb x->x∉yu):gj p wc vb :=
 ⟨h.own.Vg (fun x a=>k.block x (h.own.lt a) (c x (Q1 a))),fun i s b=>(h.syms i s b).Vg (fun x a=>k.block x ((h.syms i s b).lt a) (c x (QV ⟨i,s,b,Q1 a⟩))),fun i s b=>(h.prfs i s b).Vg (fun x a=>k.block x ((h.prfs i s b).lt a) (c x (QV ⟨i,s,b,QV a⟩)))⟩
def Qt(w:World)(x:Nat)(fs:Fs)(lo hi:Nat):Option Nat->Prop
 | none=>jR w x fs
 | some k=>(k<fs.length/\((fE fs k).1==0)=true)/\∃H g,nI w x fs (bK fs k).2.2.Vn H g/\(lo<=g/\g<hi)/\∀q,PV (bK fs k).2.2.Vn H q->lo<=q/\q<hi
structure dE(w:World)(x:Nat)(fs:Fs)(lo hi:Nat)(st:Option Nat):Prop where
 z:hi<=w.heap.size
 s:Qt w x fs lo hi st
def Qr(w:World)(v:Nat)(fs:Fs)(h:Hd)(lo hi:Nat):Option Nat->Prop
 | none=>∃p2 p3 p4,fB w v fs h false p2 p3 p4
 | some k=>xF w v fs h (cC fs k).1 lo hi
structure dn(w:World)(v:Nat)(fs:Fs)(h:Hd)(lo hi:Nat)(st:Option Nat):Prop where
 z:hi<=w.heap.size
 s:Qr w v fs h lo hi st
theorem dE.anyS(a:dE n l d S u z6):li n l d:=by
 have:=a.s
 cases z6 with
 | none=>exact jR.anyR this
 | some k=>obtain⟨-,H,g,h,-⟩:=this;exact h.anyR
theorem dn.anyS(a:dn n l d s S u z6):∃b c e f,fB n l d s b c e f:=by
 have:=a.s
 cases z6 with
 | none=>exact⟨false,this⟩
 | some k=>exact⟨true,xF.rvAt this⟩
theorem dE.kept(a:dE n l d S u z6)(k:ab yu n p)(c:∀q,q∈l :: ie S u->q∉yu):dE p l d S u z6:=by
 refine⟨Q3 a.z k.size,?_⟩;have m:=c l Rn;have f:∀q,S<=q/\q<u->q∉yu:=fun q b=>c q (Rm _ (ng.2 b))
 have:=a.s
 cases z6 with
 | none=>exact jR.kept this k m
 | some j =>
  obtain⟨t,H,g,h,e,i⟩:=this;obtain⟨o,w,r,v⟩:=h.ver;exact⟨t,H,g,⟨⟨o,w,r,bi.kept v k m⟩,h.Vn.keptU k (fun q b=>f q (i q b)),k.get h.arr (f g e),h.far⟩,e,i⟩
theorem dn.kept(a:dn n l d s S u z6)(k:ab yu n p)(b:∀q,q∈l :: (s.blk.toList++ie S u)->q∉yu):dn p l d s S u z6:=by
 refine⟨Q3 a.z k.size,?_⟩;have e:=b l Rn;have c:∀q,s.blk=some q->q∉yu:=fun q h=>b q (Rm _ (RN _ (by rw[h];simp)))
 have i:∀q,S<=q->q<u->q∉yu:=fun q f g=>b q (Rm _ (Se _ (ng.2 ⟨f,g⟩)))
 have:=a.s
 cases z6 with
 | none=>obtain⟨m,o,t,r⟩:=this;exact⟨m,o,t,r.keptS k e c⟩
 | some j=>exact xF.kept this k e c i
theorem dn.Vb(a:dn n l d s S u z6)(k:ab [] n p):dn p l d s S u z6:=a.kept k (fun _ _ b=>by cases b)
theorem dE.Vb(a:dE n l d S u z6)(k:ab [] n p):dE p l d S u z6:=a.kept k (fun _ _ b=>by cases b)
theorem dE.lt(a:dE n l d S u z6)(q:Nat)(b:q∈l :: ie S u):q<n.heap.size:=by
 rcases Rj.1 b with e | e
 ·rw[e];exact a.anyS.lt
 ·have:=ng.1 e;have:=a.z;omega
theorem dn.lt{h:Hd}(a:dn n l d h S u z6)(q:Nat)(b:q∈l :: (h.blk.toList++ie S u)):q<n.heap.size:=by
 obtain⟨c,f,g,i,r⟩:=a.anyS
 rcases Rj.1 b with e | e
 ·rw[e];exact ae r.d
 ·rcases Rr.1 e with e | e
  ·exact r.own.lt (aN e)
  ·have:=ng.1 e;have:=a.z;omega
theorem dE.same(a:dE n l d S u z6):∃b i m o,iI n l d b i m o/\∀c,iI c l d b i m o->ab [l] n c->dE c l d S u z6:=by
 have h:=a.s
 cases z6 with
 | none=>exact⟨_,_,_,_,h,fun c e k=>⟨Q3 a.z k.size,e⟩⟩
 | some j =>
  obtain⟨v,H,g,r,w,y⟩:=h;obtain⟨p,A,t,e⟩:=r.ver;refine⟨_,_,_,_,e,fun c f k=>⟨Q3 a.z k.size,v,H,g,⟨⟨p,A,t,f⟩,r.Vn.keptU k (fun q x=>by simp;exact r.far.2 q x.inH),k.get r.arr (by simp;exact Ne.symm r.far.1),r.far⟩,w,y⟩⟩
def mb(c:Int)(st:Option Nat):Option Nat:=if c=0 then none else st
theorem qe(h:wd=0):mb wd z6=none:=QW h
theorem rX(h:wd≠0):mb wd z6=z6:=QT h
theorem GD(h:(fc d y9 yd).1≠0):(fc d y9 yd).2=d:=by
 unfold fc at h ⊢
 split
 ·rfl
 ·next c =>
  rw[QT c]at h
  split
  ·next a=>rw[QW a]at h;exact absurd rfl h
  ·next a =>
   rw[QT a]at h
   split
   ·rfl
   ·next b=>rw[QT b]at h;exact absurd rfl h
theorem NW(h:dE b y H t w g)(i:y4.size<=1073741824)(f:yr.size<=4294967296) :
  Calls prog 14 #[.pointer (some ⟨y,0,none⟩),.string y4,.string yr] b fun e c=>e=.returned (.int .i64 (fc H y4 yr).1)/\dE c y (fc H y4 yr).2 t w (mb (fc H y4 yr).1 g)/\ab [y] b c:=by
 by_cases a:(fc H y4 yr).1=0
 ·refine(MS y y4 yr H b h.anyS i f).mono (fun e c q=>⟨q.1,?_,q.2.2.2⟩)
  rw[qe a];exact⟨Q3 h.z q.2.2.2.size,q.2.2.1 a⟩
 ·obtain⟨d,m,n,o,l,k⟩:=h.same
  refine(Oi y y4 yr H d m n o b l i f a).mono (fun e c q=>⟨q.1,?_,q.2.2⟩);have j:=q.2.1;rw[GD a]at j ⊢;rw[rX a];exact k c j q.2.2
theorem CL(h:dE b f ya t w g)(j:kR b v0 H)(d:ld H) :
  Calls prog 30 #[.pointer (some ⟨f,0,none⟩),.slice v0 H.length y7] b fun e c=>e=.returned (.int .i64 (dy H))/\dE c f (jt ya H) t w (mb (dy H) g)/\ab [f] b c:=by
 obtain⟨i,o,p,r,l,k⟩:=h.same;refine(J8 f ya H i o p r v0 y7 b l j d).mono (fun e c q=>⟨q.1,?_,q.2.2⟩);obtain⟨m,n⟩:=q.2.1
 by_cases a:dy H=0
 ·rw[qe a]
  exact⟨Q3 h.z q.2.2.size,m a⟩
 ·have:=n a
  rw[pM rfl a]at this ⊢;rw[rX a];exact k c this q.2.2
theorem Ni(a:dn b y H M t w g)(m:y4.size<=1073741824)(j:yr.size<=4294967296) :
  Calls prog 15 #[.pointer (some ⟨y,0,none⟩),.string y4,.string yr] b fun e i=>e=.returned (.int .i64 (fc H y4 yr).1)/\∃d,dn i y (fc H y4 yr).2 d t w (mb (fc H y4 yr).1 g)/\ab (y :: M.blk.toList) b i/\∀q,d.blk=some q->M.blk=some q∨b.heap.size<=q:=by
 obtain⟨n,o,p,s,r⟩:=a.anyS;refine(Jm y H M n o p s y4 yr b r m j).mono (fun e i q=>⟨q.1,?_⟩)
 by_cases c:(fc H y4 yr).1=0
 ·obtain⟨d,u,f⟩:=q.2.1 c
  rw[qe c];refine⟨d,⟨Q3 a.z f.kept.size,_,_,_,u⟩,f.kept,fun q h=>?_⟩
  rcases f.blk with e | ⟨v,e,l⟩
  ·exact Q1 (by rw[<-e];exact h)
  ·rw[e]at h;cases h;exact QV l
 ·have k:=q.2.2 c
  rw[rX c,GD c];exact⟨M,a.Vb k,k.mono (by simp),fun _ e=>Q1 e⟩
theorem Bs(d:Option Addr)(b:Nat)(c:World)(a:dn c f ya M t w g)(p:mV c d b H)(u:d=none->H.length=0/\b=0)(s:∀o,d=some o->∃i,o=⟨i,0,none⟩)(m:∀j,j<H.length->(aE H j).size<=1073741824/\(ak H j).size<=1073741824) :
  Calls prog 31 #[.pointer (some ⟨f,0,none⟩),.slice d H.length b] c fun e n=>e=.returned (.int .i64 (dy H))/\∃l,dn n f (jt ya H) l t w (mb (dy H) g)/\ab (f :: M.blk.toList) c n/\∀q,l.blk=some q->M.blk=some q∨c.heap.size<=q:=by
 obtain⟨x,y,A,B,r⟩:=a.anyS;refine(Ev f ya H M x y A B d b c r p u s m).mono (fun e n q=>⟨q.1,?_⟩)
 by_cases h:dy H=0
 ·obtain⟨l,C,i,v⟩:=q.2.1 h
  rw[qe h];exact⟨l,⟨Q3 a.z i.size,_,_,_,C⟩,i,v⟩
 ·have k:=q.2.2 h
  rw[rX h,pM rfl h];exact⟨M,a.Vb k,k.mono (by simp),fun _ e=>Q1 e⟩
theorem Bz(a:H.length<=4)(b:∀j,j<H.length->(ak H j).size<=1024)(d:L<H.length)(h:((fE H L).1==0)=true):fE H L=cY:=by
 have f:=h;unfold fE at h
 split at h
 ·next c =>
  have e:(Lj (yp (cC H L).1 (aj (cC H L).1))).1=(yp (cC H L).1 (aj (cC H L).1)).rule:=rfl;rw[e,c]at h
  cases h
 ·next c =>
  exact(v8 H L a b d (by cases q:((yp (cC H L).1 (aj (cC H L).1)).rule==0);exact absurd q c;rfl) h).1
def nH(z lo hi lo1 hi1:Nat):Prop:=(lo1=lo/\hi1=hi)∨z<=lo1
theorem nH.mem{z lo hi:Nat}(h:nH z lo hi l S)(a:u∈ie l S):u∈ie lo hi∨z<=u:=by
 rcases h with ⟨rfl,rfl⟩ | h
 ·exact Q1 a
 ·exact QV (Q3 h (ng.1 a).1)
def QH(w:World)(x:Nat)(fs:Fs)(lo hi:Nat)(f:pA)(q:Int)(st:Option Nat)(e:Ending)(w':World):Prop :=
 e=.returned (.tuple #[gU f,.int .i64 q])/\(∃lo1 hi1,dE w' x fs lo1 hi1 st/\nH w.heap.size lo hi lo1 hi1)/\ab [x] w w'
def QG(w:World)(m:Nat)(fs:Fs)(h:Hd)(lo hi:Nat)(f:pA)(q:Int)(st:Option Nat)(e:Ending)(w':World):Prop :=
 e=.returned (.tuple #[gU f,.int .i64 q])/\(∃lo1 hi1,dn w' m fs h lo1 hi1 st/\nH w.heap.size lo hi lo1 hi1)/\ab [m] w w'
theorem KP(A:dE b D H y8 y7 g)(p:H.length<=4)(h:∀j,j<H.length->(ak H j).size<=1024) :
  ∃(K:pA) (q:Int) (v:Option Nat),Calls prog 36 #[.pointer (some ⟨D,0,none⟩),.string y5] b (fun e d=>QH b D H y8 y7 K q v e d) /\
   ∀a,dn a f H M t w g->Calls prog 37 #[.pointer (some ⟨f,0,none⟩),.string y5] a (fun e d=>QG a f H M t w K q v e d):=by
 rcases pI y5 H with n | ⟨k,o,n⟩
 ·obtain⟨I,X,Y,Z,U,T⟩:=A.same
  refine⟨cY,5,g,(Dn D H y5 I X Y Z b U (by rw[n];decide)).mono (fun e d q=>⟨q.1,⟨y8,y7,T d q.2.1 q.2.2,Q1 ⟨rfl,rfl⟩⟩,q.2.2⟩),fun a c=>?_⟩;obtain⟨B,C,E,F,r⟩:=c.anyS;exact(xZ f H M B C E F y5 a r (by rw[n];decide)).mono (fun e d q=>⟨q.1,⟨t,w,c.Vb q.2,Q1 ⟨rfl,rfl⟩⟩,q.2.mono (by simp)⟩)
 ·obtain⟨J,-⟩:=v7 H k p h o
  have u:=FD D k H y5 b A.anyS n o h
  have s:∀a,dn a f H M t w g->Calls prog 37 #[.pointer (some ⟨f,0,none⟩),.string y5] a fun e d=>Qu H k f M (fE H k) (if((fE H k).1==0)=true then 0 else 6) a e d:=fun a c=>by
   obtain⟨B,C,E,F,r⟩:=c.anyS;exact AQ f k H M B C E F y5 a r n o h
  cases m:((fE H k).1==0)
  ·refine⟨fE H k,6,none,u.mono (fun e d q=>?_),fun a c=>(s a c).mono (fun e d q=>?_)⟩
   ·obtain⟨i,c⟩:=q
    rw[J,m,QT (by simp)]at i;exact⟨i.1,⟨y8,y7,⟨Q3 A.z c.size,i.2⟩,Q1 ⟨rfl,rfl⟩⟩,c⟩
   ·rw[m,QT (by simp)]at q
    obtain⟨G,⟨-,W⟩,x⟩:=q;exact⟨G,⟨t,w,⟨Q3 c.z x.size,W (by decide)⟩,Q1 ⟨rfl,rfl⟩⟩,x⟩
  ·refine⟨fE H k,0,some k,u.mono (fun e d q=>?_),fun a c=>(s a c).mono (fun e d q=>?_)⟩
   ·obtain⟨i,c⟩:=q
    rw[J,m,QW rfl]at i;obtain⟨i,N,P,y,Q,R⟩:=i;exact⟨by rw[i,Bz H k p h o m],⟨b.heap.size,d.heap.size,⟨QR _,⟨o,m⟩,N,P,y,⟨Q,ae y.arr⟩,fun O L=>⟨R O L.inH,y.Vn.ltU L⟩⟩,QV (QR _)⟩,c⟩
   ·rw[m,QW rfl]at q
    obtain⟨G,⟨V,-⟩,x⟩:=q;obtain⟨l,S,r⟩:=V rfl;exact⟨G,⟨l,d.heap.size,⟨QR _,r⟩,QV S⟩,x⟩
def vG(fs:Fs)(st:Option Nat)(lab:ByteArray):List ByteArray×Int :=
 match st with
 | none=>([],7)
 | some k=>match gC (bK fs k).2.2.Vn lab with
  | none=>([],8)
  | some n=>(cW (bK fs k).2.2.Vn n,0)
structure vF(w:World)(bo:Option Nat)(L:List ByteArray):Prop where
 nil:bo=none ↔ L=[]
 blk:∀b,bo=some b->w.heap[b]?=some (.cells (cN L).toArray 9 (0,0))
set_option maxRecDepth 512
theorem Do(h:jR b f H) :
  Calls prog 39 #[.pointer (some ⟨f,0,none⟩),.string y5] b fun e a=>e=.returned (.tuple #[.slice none 0 0,.int .i64 7])/\ab [] b a:=by
 have c:Hid (Calls prog 59 #[.pointer (some ⟨f,0,none⟩),.string y5] b fun e a=>e=.returned (.tuple #[.int .i64 0,.int .i64 7])/\ab [] b a):=by
  show Calls _ _ _ _ _
  obtain⟨i,-⟩:=iI.cells h;have d:=bi.lt h;clear h;go_enter func59,ntmps59;go_wp2;go_ret2;exact⟨rfl,ab.refl _ _⟩
 clear h;go_enter func39,ntmps39;go_wp2_with (go_at_call 59;refine QU c.out ?_;rintro e j ⟨rfl,g⟩);go_ret2;exact⟨rfl,g⟩
theorem oj.szs(G:oj z4 yy)(a:dC z4):A7 yy.Vn:=fun s f _=>by
 obtain⟨n,b,rfl⟩:=R0 f;obtain⟨g,e,-,c,d⟩:=G.r.get b;rw[QP b]at e
 cases e
 exact⟨by rw[c];exact yL a _,by rw[d];exact Bh a _⟩
theorem LE(l:List St)(n:Nat):cW l n≠[]:=fun e=>by have:=t8 l n;rw[e]at this;simp at this
def QC(L:List ByteArray)(c:Int)(w:World)(e:Ending)(w':World):Prop:=∃bo,e=.returned (.tuple #[.slice (wD bo) L.length L.length,.int .i64 c])/\vF w' bo L/\(∀b,bo=some b->w.heap.size<=b)/\ab [] w w'
def Qy(L:List ByteArray)(c:Int)(w:World)(e:Ending)(w':World):Prop:=∃h',e=.returned (.tuple #[.slice h'.ao L.length h'.cap,.int .i64 c])/\gw w w' h' (aB L)
theorem zX(b:d.length<=4)(a:∀j,j<d.length->(ak d j).size<=1024)(i:l<d.length)(g:((fE d l).1==0)=true):oj (cC d l).1 (bK d l).2.2/\(cC d l).1.length<=10000/\dC (cC d l).1:=by
 obtain⟨c,h⟩:=v7 d l b a i;obtain⟨e,f⟩:=h (by rw[c];exact g);exact⟨e,f,BG d l (sD a)⟩
theorem Jk(E:dE b f H t w g)(l:H.length<=4)(d:∀j,j<H.length->(ak H j).size<=1024) :
  Calls prog 39 #[.pointer (some ⟨f,0,none⟩),.string y5] b fun e i=>QC (vG H g y5).1 (vG H g y5).2 b e i:=by
 have p:=E.s
 cases g with
 | none=>exact(Do f H y5 b p).mono (fun e i q=>⟨none,q.1,⟨⟨fun _=>rfl,fun _=>rfl⟩,fun a e=>by cases e⟩,(fun a e=>by cases e),q.2⟩)
 | some k =>
  obtain⟨⟨D,y⟩,v,x,r,-⟩:=p;obtain⟨G,-,C⟩:=zX l d D y;refine(FE f H _ v x y5 b r (wT H d k).ok (G.szs C)).mono (fun e i q=>?_);obtain⟨u,h⟩:=q;unfold vG;simp only
  cases o:gC (bK H k).2.2.Vn y5 with
  | none =>
   rw[o]at h;exact⟨none,h,⟨⟨fun _=>rfl,fun _=>rfl⟩,fun a e=>by cases e⟩,(fun a e=>by cases e),u⟩
  | some n =>
   rw[o]at h;obtain⟨m,z,A,B⟩:=h;have c:i.heap[m]?=some (.cells (cN (pk (cW (bK H k).2.2.Vn n) (cW (bK H k).2.2.Vn n).length)).toArray 9 (0,0)):=A;rw[Je]at c;exact⟨some m,z,⟨⟨(fun e=>by cases e),fun e=>absurd e (LE _ _)⟩,fun a e=>by cases e;exact c⟩,(fun a e=>by cases e;exact B),u⟩
theorem Gy(L:List ByteArray)(a:L=[]):gw b b ⟨none,0⟩ (aB L):=by subst a;exact⟨QZ _ _ _ _,(by intro k c;cases c),ab.refl _ _⟩
theorem Ia(P:dn b f H M t w g)(o:∀k,g=some k->k<H.length/\((fE H k).1==0)=true)(m:H.length<=4)(p:∀j,j<H.length->(ak H j).size<=1024) :
  Calls prog 40 #[.pointer (some ⟨f,0,none⟩),.string y5] b fun e h=>Qy (vG H g y5).1 (vG H g y5).2 b e h:=by
 have y:=P.s
 cases g with
 | none =>
  obtain⟨Q,R,S,r⟩:=y;refine(yC f y5 7 (by decide) b (Ky f y5 _ Q R S b r.d)).mono (fun e h q=>⟨⟨none,0⟩,q.1,?_⟩);rw[q.2];exact Gy b _ rfl
 | some k =>
  obtain⟨O,J⟩:=o k rfl;obtain⟨G,N,L⟩:=zX m p O J;obtain⟨C,B,E,A,D,U,V,v,c,r⟩:=y;have i:=r.fin.tell;have a:=aw.srcG (f:=jJ) r.s2 (fun _=>rfl);have W:(aj (cC H k).1).length<=(cC H k).1.length:=oG _ _;obtain⟨F,I⟩:=Ef G i y5;unfold vG;simp only
  cases x:gC (bK H k).2.2.Vn y5 with
  | none =>
   have l:=F x;refine(yC f y5 8 (by decide) b ((Bb f y5 v c.ao c.cap _ _ _ b r.rv.d a (by rw[i.len];omega)).mono (fun e h q=>?_))).mono (fun e h q=>⟨⟨none,0⟩,q.1,?_⟩)
   ·obtain⟨z,T⟩:=q
    rw[l]at z;exact⟨z,T⟩
   ·rw[q.2];exact Gy b _ rfl
  | some n =>
   obtain⟨l,K⟩:=I n x;simp only;rw[K];exact Iq f C _ y5 _ B E A D v c.ao c.cap _ _ b r.rv.d a r.db N L G.u i l
def QD(w:World)(e:Ending)(w':World):Prop:=∃(L:List ik) (h':Hd),e=.returned (.slice h'.ao L.length h'.cap)/\gw w w' h' (fM L)/\L.length<=100000
theorem K0(y:dn b f H M t w g)(i:∀k,g=some k->k<H.length/\((fE H k).1==0)=true)(h:H.length<=4)(l:∀j,j<H.length->(ak H j).size<=1024) :
  Calls prog 22 #[.pointer (some ⟨f,0,none⟩)] b fun e m=>QD b e m:=by
 have p:=y.s
 cases g with
 | none =>
  obtain⟨z,A,B,r⟩:=p;refine(JH f _ z A B b r.d).mono (fun e m q=>⟨[],⟨none,0⟩,q.1,?_,by simp⟩);rw[q.2];exact⟨QZ _ _ _ _,(by intro k c;cases c),ab.refl _ _⟩
 | some k =>
  obtain⟨c,v⟩:=i k rfl;obtain⟨G,P,O⟩:=zX h l c v;obtain⟨J,I,L,F,K,E,N,n,o,r⟩:=p;have x:=r.fin.tell;have Q:(aj (cC H k).1).length<=(cC H k).1.length:=oG _ _;have a:n.length<=100000:=by rw[x.len];omega
  refine(JG f n o.ao o.cap _ _ _ b r.rv.d (aw.srcG (f:=jJ) r.s2 (fun _=>rfl)) a).mono (fun e m q=>?_);obtain⟨u,C,D⟩:=q;exact⟨_,u,C,D,Q3 (Sc _ _) a⟩
def rB(b t:Nat)(c:List Value):It where
 B:=[b]
 P w:=w.heap[b]?=some (.cells c.toArray t (0,0))
 lt w h q hq:=by rw[Q9.1 hq];exact ae h
 ok S w w' h k hb:=k.get h (hb b (by simp))
def ce(h:Hd)(r:dN):It where
 B:=h.blk.toList
 P w:=aw w h r
 lt w o q hq:=o.lt (aN hq)
 ok S w w' o k hb:=o.Vg (fun q hq=>k.block q (o.lt hq) (hb q (by rw[hq];simp)))
def O6(x:Nat)(fs:Fs)(lo hi:Nat)(st:Option Nat):It where
 B:=x :: ie lo hi
 P w:=dE w x fs lo hi st
 lt _ a q hq:=a.lt q hq
 ok _ _ _ a k hb:=a.kept k hb
def O4(v:Nat)(h:Hd)(fs:Fs)(lo hi:Nat)(st:Option Nat):It where
 B:=v :: (h.blk.toList++ie lo hi)
 P w:=dn w v fs h lo hi st
 lt _ a q hq:=a.lt q hq
 ok _ _ _ a k hb:=a.kept k hb
def zw(fs:Fs):Prop:=∀j,j<fs.length->(ak fs j).size<=1024
structure iG(w:World)(bo:Option Nat)(fs:Fs):Prop where
 nil:bo=none->fs=[]
 blk:∀b,bo=some b->w.heap[b]?=some (.cells (qK fs).toArray 68 (0,0))
def uI(bo:Option Nat)(fs:Fs):It where
 B:=bo.toList
 P w:=iG w bo fs
 lt w a q hq:=by
  cases bo with
  | none=>cases hq
  | some b=>rw[UI,Q9]at hq;rw[hq];exact ae (a.blk b rfl)
 ok S w w' a k hb:=⟨a.nil,fun b e=>k.get (a.blk b e) (hb b (by rw[e];simp))⟩
def Aj(x:Option Nat×Fs):Value:=.slice (wD x.1) x.2.length x.2.length
def ig(l:List (Option Nat×Fs)):dN:=⟨33,1,l.length,l.map Aj⟩
def NY(x:Nat):Value:=.pointer (some ⟨x,0,none⟩)
def lB(t:Nat)(l:List Nat):dN:=⟨t,1,l.length,l.map NY⟩
structure Mc where
 hx:Hd
 hm:Hd
 hr:Hd
 hl:Hd
 hc:Hd
 V:List (Nat×Nat×Fs)
 reg:Fs
 L:List (Option Nat×Option Nat×Fs)
 a:Int
 n:Int
 e:Int
 u:Int
 s:ByteArray
 p:Int
 q:Int
 f:ByteArray
 i:Int
 j:Int
 qv:Value
 tv:Value
def Mc.cells(M:Mc):List Value:=[.slice M.hx.ao M.V.length M.hx.cap,.slice M.hm.ao M.V.length M.hm.cap,.slice M.hr.ao M.reg.length M.hr.cap,.slice M.hl.ao M.L.length M.hl.cap,.slice M.hc.ao M.L.length M.hc.cap,.int .i64 M.a,.int .i64 M.n,.int .i64 M.e,.int .i64 M.u,.string M.s,.int .i64 M.p,.int .i64 M.q,.string M.f,.int .i64 M.i,.int .i64 M.j,M.qv,M.tv]
structure bZ(w:World)(b:Nat)(I:Nat×Nat->It)(M:Mc)(N:Nat):Prop where
 sep:nJ w I
 w0:I (0,0)=rB b 42 M.cells
 x:I (1,0)=ce M.hx (lB 46 (M.V.map (·.1)))
 m:I (2,0)=ce M.hm (lB 47 (M.V.map (·.2.1)))
 r:I (3,0)=ce M.hr (cr M.reg)
 ls:I (4,0)=ce M.hl (ig (M.L.map (fun l=>(l.1,l.2.2))))
 lw:I (5,0)=ce M.hc (ig (M.L.map (fun l=>(l.2.1,l.2.2))))
 v:∀i x m fs,M.V[i]?=some (x,m,fs)->(∃st h lo hi lo2 hi2,I (6,i)=O6 x fs lo hi st/\I (7,i)=O4 m h fs lo2 hi2 st)/\zw fs
 l:∀k a c fs,M.L[k]?=some (a,c,fs)->I (8,k)=uI a fs/\I (9,k)=uI c fs/\ld fs/\fs.length<=N
 fit:ld M.reg
 len:M.V.length<=N/\M.reg.length<=N/\M.L.length<=N
 rng:qB M.a/\qB M.n/\qB M.e
structure rh(I:Nat×Nat->It)(M:Mc)(I':Nat×Nat->It)(M':Mc):Prop where
 k:∀j i,10<=j->I' (j,i)=I (j,i)
 q:M'.qv=M.qv
 t:M'.tv=M.tv
theorem rh.refl(M:Mc):rh q M q M:=⟨fun _ _ _=>rfl,rfl,rfl⟩
theorem oY{a:It}(b:l<10)(c:10<=u):fk I (l,S) a (u,vs)=I (u,vs):=aq _ _ (bn (by omega))
theorem bZ.Vb{M:Mc}(h:bZ n l I M S)(k:ab [] n p):bZ p l I M S:={ h with sep:=h.sep.Vb k }
theorem bZ.more{M:Mc}(h:bZ n l I M S):bZ n l I M (S+1) :=
 { h with l:=fun k a c g e=>by obtain⟨b,d,f,i⟩:=h.l k a c g e;exact⟨b,d,f,by omega⟩,len:=by obtain⟨b,d,f⟩:=h.len;exact⟨by omega,by omega,by omega⟩ }
theorem bZ.blk{M:Mc}(h:bZ n l I M S):n.heap[l]?=some (.cells M.cells.toArray 42 (0,0)):=by
 have:=h.sep.all (0,0);rw[h.w0]at this;exact this
theorem bZ.ownX{M:Mc}(h:bZ n l I M S):aw n M.hx (lB 46 (M.V.map (·.1))):=by have:=h.sep.all (1,0);rw[h.x]at this;exact this
theorem bZ.ownM{M:Mc}(h:bZ n l I M S):aw n M.hm (lB 47 (M.V.map (·.2.1))):=by have:=h.sep.all (2,0);rw[h.m]at this;exact this
theorem bZ.ownR{M:Mc}(h:bZ n l I M S):aw n M.hr (cr M.reg):=by have:=h.sep.all (3,0);rw[h.r]at this;exact this
theorem bZ.ownL{M:Mc}(h:bZ n l I M S):aw n M.hl (ig (M.L.map (fun a=>(a.1,a.2.2)))):=by have:=h.sep.all (4,0);rw[h.ls]at this;exact this
theorem bZ.ownC{M:Mc}(h:bZ n l I M S):aw n M.hc (ig (M.L.map (fun a=>(a.2.1,a.2.2)))):=by have:=h.sep.all (5,0);rw[h.lw]at this;exact this
theorem nJ.grow(d:nJ n I)(e:I yg=ce s wu)(g:bt n p s yf)(o:aw p yf wv):nJ p (fk I yg (ce yf wv)):=by
 refine d.put yg _ (by rw[e];exact g.kept) o (fun q a=>?_);have a:=aN a
 rcases g.blk with b | ⟨f,b,c⟩
 ·left;rw[e];show q∈s.blk.toList;rw[<-b,a];simp
 ·right;rw[b]at a;cases a;exact c
theorem nJ.turn{a:List Value}(s:nJ n I)(e:I yg=rB l S vc)(g:ab [l] n p)(o:p.heap[l]?=some (.cells a.toArray S (0,0))):nJ p (fk I yg (rB l S a)) :=
 s.put yg _ (by rw[e];exact g) o (fun q b=>by rw[e];exact Q1 b)
def iB(b:Nat)(I:Nat×Nat->It)(M:Mc)(N:Nat)(r:Bool)(e:Ending)(w':World):Prop:=e=.returned (.bool r)/\∃I' M',bZ w' b I' M' (N+1)/\rh I M I' M'
theorem bZ.turn0{M M':Mc}(h:bZ n l I M S)(e:(M'.hx=M.hx/\M'.hm=M.hm/\M'.hr=M.hr/\M'.hl=M.hl/\M'.hc=M.hc)/\M'.V=M.V/\M'.reg=M.reg/\M'.L=M.L)(k:ab [l] n p)(o:p.heap[l]?=some (.cells M'.cells.toArray 42 (0,0)))(z:qB M'.a/\qB M'.n/\qB M'.e):bZ p l (fk I (0,0) (rB l 42 M'.cells)) M' S:=by
 obtain⟨⟨j,s,t,u,w⟩,c,f,d⟩:=e;have q:∀a i,a≠0->fk I (0,0) (rB l 42 M'.cells) (a,i)=I (a,i):=fun a i y=>aq _ _ (bn y)
 exact {
  sep:=h.sep.turn h.w0 k o
  w0:=bJ _ _ _
  x:=by rw[q 1 0 (by decide),j,c];exact h.x
  m:=by rw[q 2 0 (by decide),s,c];exact h.m
  r:=by rw[q 3 0 (by decide),t,f];exact h.r
  ls:=by rw[q 4 0 (by decide),u,d];exact h.ls
  lw:=by rw[q 5 0 (by decide),w,d];exact h.lw
  v:=fun i x m g b=>by rw[q 6 i (by decide),q 7 i (by decide)];rw[c]at b;exact h.v i x m g b
  l:=fun i x m g b=>by rw[q 8 i (by decide),q 9 i (by decide)];rw[d]at b;exact h.l i x m g b
  fit:=by rw[f];exact h.fit
  len:=by rw[c,f,d];exact h.len
  rng:=z }
theorem bZ.boxed{M:Mc}(h:bZ n l I M S)(k a c d:Int)(s t:ByteArray)(W:World)(b:n.alloc (.cells #[.int .i64 k,.int .i64 a,.int .i64 c,.int .i64 d,.string s,.string t] 28)=W) :
  bZ W l I M S/\W.heap[n.heap.size]?=some (.cells #[.int .i64 k,.int .i64 a,.int .i64 c,.int .i64 d,.string s,.string t] 28 (0,0))/\l<n.heap.size/\ab [] n W:=by
 have e:ab [] n W:=by rw[<-b];exact(ab.refl [] _).alloc _
 exact⟨h.Vb e,by rw[<-b];exact QS _ _,ae h.blk,e⟩
theorem cQ{a c d:Int}(h:n.heap[l]?=some (.cells #[.int .i64 wd,.int .i64 a,.int .i64 c,.int .i64 d,.string y9,.string yd] 28 (0,0))) :
  n.cell? ⟨l,0,none⟩=some (.int .i64 wd)/\n.cell? ⟨l,1,none⟩=some (.int .i64 a)/\n.cell? ⟨l,2,none⟩=some (.int .i64 c)/\n.cell? ⟨l,3,none⟩=some (.int .i64 d)/\n.cell? ⟨l,4,none⟩=some (.string y9)/\n.cell? ⟨l,5,none⟩=some (.string yd)/\l<n.heap.size:=by
 refine⟨?_,?_,?_,?_,?_,?_,ae h⟩ <;> (rw[aa h];rfl)
set_option maxRecDepth 100000
theorem Pg(M:Mc)(A C D:Int)(s t:ByteArray)(c:World)(h:bZ c w q M L)(l:qB A)(m:qB C)(o:qB D) :
  Calls prog 11 #[.pointer (some ⟨w,0,none⟩),.agg #[.int .i64 7,.int .i64 A,.int .i64 C,.int .i64 D,.string s,.string t]] c fun e v=>iB w q M L true e v:=by
 obtain⟨W,d⟩:∃W,Hid (c.alloc (.cells #[.int .i64 7,.int .i64 A,.int .i64 C,.int .i64 D,.string s,.string t] 28)=W):=⟨_,rfl⟩
 obtain⟨b,f,p,-⟩:=h.boxed 7 A C D s t W d.out;obtain⟨F,G,H,I,J,K,N⟩:=cQ f;have y:W.cell? ⟨w,5,none⟩=some (.int .i64 M.a):=by rw[aa b.blk];rfl
 have z:W.cell? ⟨w,6,none⟩=some (.int .i64 M.n):=by rw[aa b.blk];rfl
 have B:W.cell? ⟨w,7,none⟩=some (.int .i64 M.e):=by rw[aa b.blk];rfl
 have E:=am b.blk;have x:=ae b.blk;have u:w≠c.heap.size:=by omega
 have g:c.heap.size≠w:=by omega
 have k:Hid (bZ (((W.setCell ⟨w,5,none⟩ (.int .i64 A)).setCell ⟨w,6,none⟩ (.int .i64 C)).setCell ⟨w,7,none⟩ (.int .i64 D)) w _ { M with a:=A,n:=C,e:=D } L) :=
  b.turn0 (M':={ M with a:=A,n:=C,e:=D }) ⟨⟨rfl,rfl,rfl,rfl,rfl⟩,rfl,rfl,rfl⟩ ((((ab.refl [w] _).setCell (Q1 (by simp)) _).setCell (Q1 (by simp)) _).setCell (Q1 (by simp)) _) (by rw[ah (ah (ah b.blk 5 _) 6 _) 7 _];rfl) ⟨l,m,o⟩
 clear h b f;go_enter func11,ntmps11
 go_upto_region 1 with fail
 rw[d.out];go_wp2;go_ret;exact⟨rfl,_,_,k.out.more,⟨fun j i r=>oY (by decide) r,rfl,rfl⟩⟩
theorem NI(M:Mc)(A C D:Int)(s t:ByteArray)(b:World)(h:bZ b w q M L) :
  Calls prog 11 #[.pointer (some ⟨w,0,none⟩),.agg #[.int .i64 16,.int .i64 A,.int .i64 C,.int .i64 D,.string s,.string t]] b fun e n=>iB w q M L true e n:=by
 obtain⟨W,c⟩:∃W,Hid (b.alloc (.cells #[.int .i64 16,.int .i64 A,.int .i64 C,.int .i64 D,.string s,.string t] 28)=W):=⟨_,rfl⟩
 obtain⟨a,d,k,-⟩:=h.boxed 16 A C D s t W c.out;obtain⟨v,x,y,z,B,E,F⟩:=cQ d;have r:=am a.blk;have o:=ae a.blk;have m:w≠b.heap.size:=by omega
 have f:b.heap.size≠w:=by omega
 have p:W.cell? ⟨w,8,none⟩=some (.int .i64 M.u):=by rw[aa a.blk];rfl
 have g:Hid (bZ (W.setCell ⟨w,8,none⟩ (.int .i64 A)) w _ { M with u:=A } L) :=
  a.turn0 (M':={ M with u:=A }) ⟨⟨rfl,rfl,rfl,rfl,rfl⟩,rfl,rfl,rfl⟩ ((ab.refl [w] _).setCell (Q1 (by simp)) _) (by rw[ah a.blk 8 _];rfl) a.rng
 clear h a d;go_enter func11,ntmps11
 go_upto_region 1 with fail
 rw[c.out];go_wp2;go_ret;exact⟨rfl,_,_,g.out.more,⟨fun j i l=>oY (by decide) l,rfl,rfl⟩⟩
theorem NJ(M:Mc)(A C D:Int)(s t:ByteArray)(b:World)(h:bZ b w q M L)(l:M.qv=.slice none 0 0) :
  Calls prog 11 #[.pointer (some ⟨w,0,none⟩),.agg #[.int .i64 17,.int .i64 A,.int .i64 C,.int .i64 D,.string s,.string t]] b fun e m=>iB w q M L true e m:=by
 obtain⟨W,c⟩:∃W,Hid (b.alloc (.cells #[.int .i64 17,.int .i64 A,.int .i64 C,.int .i64 D,.string s,.string t] 28)=W):=⟨_,rfl⟩
 obtain⟨a,d,j,-⟩:=h.boxed 17 A C D s t W c.out;obtain⟨p,r,u,v,x,y,z⟩:=cQ d;have o:=am a.blk;have n:=ae a.blk;have k:w≠b.heap.size:=by omega
 have f:b.heap.size≠w:=by omega
 have i:W.cell? ⟨w,15,none⟩=some (.slice none 0 0):=by rw[aa a.blk,<-l];rfl
 have g:Hid (bZ W w q M L):=a;clear h a d;go_enter func11,ntmps11
 go_upto_region 1 with fail
 rw[c.out];go_wp2;go_ret;exact⟨rfl,_,_,g.out.more,rh.refl _ _⟩
theorem lq(M:Mc)(k A C D:Int)(s t:ByteArray)(c:World)(h:bZ c w q M L)(l:(8<=k/\k<=14)∨19<=k) :
  Calls prog 11 #[.pointer (some ⟨w,0,none⟩),.agg #[.int .i64 k,.int .i64 A,.int .i64 C,.int .i64 D,.string s,.string t]] c fun e v=>e=.returned (.bool false)/\ab [] c v:=by
 obtain⟨W,f⟩:∃W,Hid (c.alloc (.cells #[.int .i64 k,.int .i64 A,.int .i64 C,.int .i64 D,.string s,.string t] 28)=W):=⟨_,rfl⟩
 obtain⟨i,d,j,b⟩:=h.boxed k A C D s t W f.out;obtain⟨H,-⟩:=cQ d;have g:Hid (ab [] c W):=b;have I:=ae d;have a:∀m:Int,(k=m->False)->(k==m)=false:=fun m n=>Rh.2 n
 have x:=a 1 (by omega);have y:=a 2 (by omega);have z:=a 3 (by omega);have B:=a 4 (by omega);have E:=a 5 (by omega);have F:=a 6 (by omega);have G:=a 7 (by omega);have o:=a 15 (by omega);have p:=a 16 (by omega);have r:=a 17 (by omega);have u:=a 18 (by omega);clear h i d a l b;go_enter func11,ntmps11
 go_upto_region 1 with fail
 rw[f.out];go_wp2;go_ret;exact⟨rfl,g.out⟩
theorem NH(M:Mc)(A C D:Int)(s t:ByteArray)(b:World)(h:bZ b w q M L) :
  Calls prog 11 #[.pointer (some ⟨w,0,none⟩),.agg #[.int .i64 15,.int .i64 A,.int .i64 C,.int .i64 D,.string s,.string t]] b fun e z=>iB w q M L true e z:=by
 obtain⟨W,c⟩:∃W,Hid (b.alloc (.cells #[.int .i64 15,.int .i64 A,.int .i64 C,.int .i64 D,.string s,.string t] 28)=W):=⟨_,rfl⟩
 obtain⟨a,d,v,-⟩:=h.boxed 15 A C D s t W c.out;obtain⟨H,I,J,K,N,O,P⟩:=cQ d;have G:=am a.blk;have B:=ae a.blk;have y:w≠b.heap.size:=by omega
 have g:b.heap.size≠w:=by omega
 have E:W.cell? ⟨w,8,none⟩=some (.int .i64 M.u):=by rw[aa a.blk];rfl
 have F:W.cell? ⟨w,9,none⟩=some (.string M.s):=by rw[aa a.blk];rfl
 have l:W.cell? ⟨w,10,none⟩=some (.int .i64 M.p):=by rw[aa a.blk];rfl
 have m:W.cell? ⟨w,11,none⟩=some (.int .i64 M.q):=by rw[aa a.blk];rfl
 have n:W.cell? ⟨w,12,none⟩=some (.string M.f):=by rw[aa a.blk];rfl
 have o:W.cell? ⟨w,13,none⟩=some (.int .i64 M.i):=by rw[aa a.blk];rfl
 have r:W.cell? ⟨w,14,none⟩=some (.int .i64 M.j):=by rw[aa a.blk];rfl
 have k:Hid (bZ (((((((W.setCell ⟨w,9,none⟩ (.string s)).setCell ⟨w,10,none⟩ (.int .i64 A)).setCell ⟨w,11,none⟩ (.int .i64 C)).setCell ⟨w,12,none⟩ (.string t)).setCell ⟨w,13,none⟩ (.int .i64 D)).setCell ⟨w,14,none⟩ (.int .i64 M.u)).drew) w _ { M with s:=s,p:=A,q:=C,f:=t,i:=D,j:=M.u } L) :=
  (a.turn0 (M':={ M with s:=s,p:=A,q:=C,f:=t,i:=D,j:=M.u }) ⟨⟨rfl,rfl,rfl,rfl,rfl⟩,rfl,rfl,rfl⟩ ((((((((ab.refl [w] _).setCell (Q1 (by simp)) _).setCell (Q1 (by simp)) _).setCell (Q1 (by simp)) _).setCell (Q1 (by simp)) _).setCell (Q1 (by simp)) _).setCell (Q1 (by simp)) _)) (by rw[ah (ah (ah (ah (ah (ah a.blk 9 _) 10 _) 11 _) 12 _) 13 _) 14 _];rfl) a.rng).Vb (ab.refl [] _).drew
 clear h a d;go_enter func11,ntmps11
 go_upto_region 1 with fail
 rw[c.out]
 go_upto_region 38 with fail
 go_region
 all_goals go_wp2
 all_goals go_ret
 all_goals exact⟨rfl,_,_,k.out.more,⟨fun j i x=>oY (by decide) x,rfl,rfl⟩⟩
theorem bZ.clear{M:Mc}(h:bZ n l I M S)(k:ab [l] n p)(o:p.heap[l]?=some (.cells ({ M with hr:=⟨none,0⟩,reg:=[] }:Mc).cells.toArray 42 (0,0))):∃e,bZ p l e { M with hr:=⟨none,0⟩,reg:=[] } S/\rh I M e { M with hr:=⟨none,0⟩,reg:=[] }:=by
 have w:=h.sep.turn h.w0 k o;have y:=w.put (3,0) (ce ⟨none,0⟩ (cr [])) ((ab.refl _ p).mono (fun _ u _=>u)) (QZ _ _ _ _) (fun q t=>by cases t);refine⟨fk (fk I (0,0) (rB l 42 ({ M with hr:=⟨none,0⟩,reg:=[] }:Mc).cells)) (3,0) (ce ⟨none,0⟩ (cr [])),?_,?_⟩
 rotate_left
 ·exact⟨fun j i s=>by(repeat rw[oY (by decide) s]),rfl,rfl⟩
 have q:∀a i,a≠0->a≠3->(fk (fk I (0,0) (rB l 42 ({ M with hr:=⟨none,0⟩,reg:=[] }:Mc).cells)) (3,0) (ce ⟨none,0⟩ (cr []))) (a,i)=I (a,i):=fun a i f g=>by rw[aq _ _ (bn g),aq _ _ (bn f)]
 exact {
  sep:=y
  w0:=by rw[aq _ _ (bn (by decide))];exact bJ _ _ _
  x:=by rw[q 1 0 (by decide) (by decide)];exact h.x
  m:=by rw[q 2 0 (by decide) (by decide)];exact h.m
  r:=bJ _ _ _
  ls:=by rw[q 4 0 (by decide) (by decide)];exact h.ls
  lw:=by rw[q 5 0 (by decide) (by decide)];exact h.lw
  v:=fun i x m c d=>by rw[q 6 i (by decide) (by decide),q 7 i (by decide) (by decide)];exact h.v i x m c d
  l:=fun i x m c d=>by rw[q 8 i (by decide) (by decide),q 9 i (by decide) (by decide)];exact h.l i x m c d
  fit:=fun j=>⟨by show(0:Nat)<=_;omega,by show(0:Nat)<=_;omega⟩
  len:=⟨h.len.1,Ro _,h.len.2.2⟩
  rng:=h.rng }
theorem Pc(b N:Nat)(I:Nat×Nat->It)(M:Mc)(A C D:Int)(s t:ByteArray)(w:World)(h:bZ w b I M N) :
  Calls prog 11 #[.pointer (some ⟨b,0,none⟩),.agg #[.int .i64 3,.int .i64 A,.int .i64 C,.int .i64 D,.string s,.string t]] w fun e o=>iB b I M N true e o:=by
 obtain⟨W,f⟩:∃W,Hid (w.alloc (.cells #[.int .i64 3,.int .i64 A,.int .i64 C,.int .i64 D,.string s,.string t] 28)=W):=⟨_,rfl⟩
 obtain⟨a,g,l,-⟩:=h.boxed 3 A C D s t W f.out;obtain⟨u,v,x,y,z,B,E⟩:=cQ g;have r:=am a.blk;have p:=ae a.blk;have m:b≠w.heap.size:=by omega
 have i:w.heap.size≠b:=by omega
 have q:W.cell? ⟨b,2,none⟩=some (.slice M.hr.ao M.reg.length M.hr.cap):=by rw[aa a.blk];rfl
 have j:Hid (∃c,bZ (W.setCell ⟨b,2,none⟩ (.slice none 0 0)) b c { M with hr:=⟨none,0⟩,reg:=[] } N/\rh I M c { M with hr:=⟨none,0⟩,reg:=[] }) :=
  a.clear ((ab.refl [b] _).setCell (Q1 (by simp)) _) (by rw[ah a.blk 2 _];rfl)
 clear h a g;go_enter func11,ntmps11
 go_upto_region 1 with fail
 rw[f.out];go_wp2;go_ret;obtain⟨c,k,d⟩:=j.out;exact⟨rfl,c,_,k.more,d⟩
theorem cZ{d:List Oper}(H:x5.guard=none)(s x:Operand)(t:TypeId)(q:x5.op=Op.call { callee:=Callee.builtin Builtin.append,args:=#[s,x],argTypes:=#[t,t] })(i:TypeInfo)(z:Value)(c:Nat)(h:Hd)(r:dN)(a:List Value)(w:x8.underlying t=some (.slice r.e))(y:x8.info? r.e=some i)(A:i.zero=some z)(B:i.size=r.size)(C:i.bytes=c)(D:z.cells.size=r.size)(E:0<r.size)(L:v5.eval s=.slice h.ao r.n h.cap)(f:aw b h r)(Q:r.n<=4294967296)(G:c<=1000)(M:v5.eval x=.slice (some ⟨b.heap.size,0,none⟩) 1 1)(R:a.length=r.size)(m:∀u∈a,u.oneCell'=true)(F:∀l k,aw k l ⟨r.e,r.size,r.n+1,r.xs++a⟩->bt b k h l->wpList x8 u3 u4 d (v5.put x5.dst (.slice l.ao (r.n+1) l.cap)) k) :
  wpList x8 u3 u4 (x5 :: d) v5 (b.alloc (.cells a.toArray r.e)):=by
 have v:ab [] b (b.alloc (.cells a.toArray r.e)):=(ab.refl [] _).alloc _;have J:(b.alloc (.cells a.toArray r.e)).heap[b.heap.size]?=some (.cells a.toArray r.e (0,0)):=QS _ _;obtain⟨p,k,g,N,O⟩:=pE (P:=x8) (b.alloc (.cells a.toArray r.e)) t x5.type i z c h r w y A B C D E (f.Vb v) (some ⟨b.heap.size,0,none⟩) 1 1 a (by omega) (fun e=>by cases e) (fun P e j u I=>by cases e;rw[bL,aa J];simpa using I) m (by unfold maxLen;omega) (Q3 (SL (show r.n+1<=4294967297 by omega) G) (by omega));refine wpList_plain H fun K o=>?_
 unfold Oper.wp;simp[execOp,q,resolve,invoke,builtin,L,M,g,Result.andThen];exact o _ _ (F p k N ((bt.Vb v).trans O))
theorem uo{K:Act->World->Prop}{E:Prop}(H:x5.guard=none)(s x:Operand)(t:TypeId)(p:x5.op=Op.call { callee:=Callee.builtin Builtin.append,args:=#[s,x],argTypes:=#[t,t] })(i:TypeInfo)(z:Value)(c:Nat)(h:Hd)(r:dN)(a:List Value)(v:x8.underlying t=some (.slice r.e))(w:x8.info? r.e=some i)(y:i.zero=some z)(A:i.size=r.size)(B:i.bytes=c)(C:z.cells.size=r.size)(D:0<r.size)(L:v5.eval s=.slice h.ao r.n h.cap)(k:aw b h r)(R:r.n<=4294967296)(G:c<=1000)(N:v5.eval x=.slice (some ⟨b.heap.size,0,none⟩) 1 1)(S:a.length=r.size)(o:∀u∈a,u.oneCell'=true)(F:∀f d m,aw m ⟨f,d⟩ ⟨r.e,r.size,r.n+1,r.xs++a⟩->bt b m h ⟨f,d⟩->K (v5.put x5.dst (.slice f (r.n+1) d)) m) :
  if Region.wanted x5 (yielded u3 v5.tmps)=true then Oper.wp x8 x5 v5 (b.alloc (.cells a.toArray r.e)).drew K u4 else E:=by
 have q:ab [] b (b.alloc (.cells a.toArray r.e)).drew:=((ab.refl [] _).alloc _).drew;have J:(b.alloc (.cells a.toArray r.e)).drew.heap[b.heap.size]?=some (.cells a.toArray r.e (0,0)):=QS _ _;obtain⟨g,m,l,O,P⟩:=pE (P:=x8) (b.alloc (.cells a.toArray r.e)).drew t x5.type i z c h r v w y A B C D (k.Vb q) (some ⟨b.heap.size,0,none⟩) 1 1 a (by omega) (fun e=>by cases e) (fun Q e j u I=>by cases e;rw[bL,aa J];simpa using I) o (by unfold maxLen;omega) (Q3 (SL (show r.n+1<=4294967297 by omega) G) (by omega));have M:Region.wanted x5 (yielded u3 v5.tmps)=true:=by simp[Region.wanted,H]
 rw[QW M];unfold Oper.wp;simp[execOp,p,resolve,invoke,builtin,L,N,l,Result.andThen];exact F g.ao g.cap m O ((bt.Vb q).trans P)
theorem nJ.grown(h:nJ n I)(d:I (0,0)=rB l S vc)(f:yg≠(0,0))(e:I yg=ce s wu)(g:bt n p s yf)(o:aw p yf wv)(j:Nat)(v:Value) :
  nJ (p.setCell ⟨l,j,none⟩ v) (fk (fk I yg (ce yf wv)) (0,0) (rB l S (vc.set j v))):=by
 have c:=h.grow e g o;have a:fk I yg (ce yf wv) (0,0)=rB l S vc:=by rw[aq _ _ (Ne.symm f)];exact d
 refine c.turn a ((ab.refl [l] _).setCell (Q1 (by simp)) _) ?_;have b:=c.all (0,0);rw[a]at b;rw[ah (show p.heap[l]?=some (.cells vc.toArray S (0,0)) from b) j v,Ru]
theorem JC(f:ByteArray×ByteArray):∀u∈Ou f,u.oneCell'=true:=by
 intro u a;simp only[Ou,List.mem_cons,List.not_mem_nil,or_false]at a
 rcases a with rfl | rfl <;> rfl
theorem zR(h:ld d)(b:y9.size<=1073741824)(a:yd.size<=1073741824):ld (d++[(y9,yd)]):=by
 intro j;have:=h j;unfold aE ak at *;rw[QQ]at *
 by_cases e:j<d.length
 ·rw[Q7 e];exact this
 ·rw[Q5 (by omega)]
  cases c:j-d.length with
  | zero=>exact⟨b,a⟩
  | succ q=>exact⟨by show(0:Nat)<=_;omega,by show(0:Nat)<=_;omega⟩
theorem bZ.addR{M:Mc}(h:bZ n l I M S)(g:bt n p M.hr s)(o:aw p s (cr (M.reg++[(y9,yd)])))(y:y9.size<=1073741824)(u:yd.size<=1073741824):∃e f,bZ (p.setCell ⟨l,2,none⟩ (.slice s.ao (M.reg.length+1) s.cap)) l e f (S+1)/\rh I M e f:=by
 have z:=h.sep.grown h.w0 (bn (by decide)) h.r g o 2 (.slice s.ao (M.reg.length+1) s.cap);refine⟨fk (fk I (3,0) (ce s (cr (M.reg++[(y9,yd)])))) (0,0) (rB l 42 (M.cells.set 2 (.slice s.ao (M.reg.length+1) s.cap))),{ M with hr:=s,reg:=M.reg++[(y9,yd)] },?_,?_⟩
 rotate_left
 ·exact⟨fun j i w=>by(repeat rw[oY (by decide) w]),rfl,rfl⟩
 have q:∀a i,a≠0->a≠3->(fk (fk I (3,0) (ce s (cr (M.reg++[(y9,yd)])))) (0,0) (rB l 42 (M.cells.set 2 (.slice s.ao (M.reg.length+1) s.cap)))) (a,i)=I (a,i):=fun a i k t=>by rw[aq _ _ (bn k),aq _ _ (bn t)]
 have c:=h.more
 exact {
  sep:=z
  w0:=by rw[bJ];unfold Mc.cells;rw[Q0];rfl
  x:=by rw[q 1 0 (by decide) (by decide)];exact h.x
  m:=by rw[q 2 0 (by decide) (by decide)];exact h.m
  r:=by rw[aq _ _ (bn (by decide))];exact bJ _ _ _
  ls:=by rw[q 4 0 (by decide) (by decide)];exact h.ls
  lw:=by rw[q 5 0 (by decide) (by decide)];exact h.lw
  v:=fun i x m b d=>by rw[q 6 i (by decide) (by decide),q 7 i (by decide) (by decide)];exact h.v i x m b d
  l:=fun i x m b d=>by rw[q 8 i (by decide) (by decide),q 9 i (by decide) (by decide)];exact c.l i x m b d
  fit:=zR h.fit y u
  len:=⟨c.len.1,by have:=h.len.2.1;show(M.reg++[(y9,yd)]).length<=_;rw[Q0];show _+1<=_;omega,c.len.2.2⟩
  rng:=h.rng }
theorem Pb(M:Mc)(A C D:Int)(s t:ByteArray)(k:World)(h:bZ k w q M L)(Z:L<=1073741824)(O:s.size<=1073741824)(P:t.size<=1073741824) :
  Calls prog 11 #[.pointer (some ⟨w,0,none⟩),.agg #[.int .i64 2,.int .i64 A,.int .i64 C,.int .i64 D,.string s,.string t]] k fun e R=>iB w q M L true e R:=by
 obtain⟨W,v⟩:∃W,Hid (k.alloc (.cells #[.int .i64 2,.int .i64 A,.int .i64 C,.int .i64 D,.string s,.string t] 28)=W):=⟨_,rfl⟩
 obtain⟨a,y,J,-⟩:=h.boxed 2 A C D s t W v.out;obtain⟨o0,o1,o2,o3,o4,o5,oz⟩:=cQ y;obtain⟨Q,o,g,i,j⟩:=Re zZ;have Y:=am a.blk;have T:=ae a.blk;have K:w≠k.heap.size:=by omega
 have z:k.heap.size≠w:=by omega
 have U:W.cell? ⟨w,2,none⟩=some (.slice M.hr.ao M.reg.length M.hr.cap):=by rw[aa a.blk];rfl
 have u:Hid (bZ W w q M L):=a;have l:=a.ownR;have m:Hid ((cr M.reg).n<=4294967296):=by show M.reg.length<=_;have:=h.len.2.1;omega
 have c:Hid ((cr M.reg).n=M.reg.length):=rfl;have b:Hid (w∉M.hr.blk.toList):=fun N=>a.sep.far (0,0) (3,0) (bn (by decide)) w (by rw[a.w0];exact Q9.2 rfl) (by rw[a.r];exact N)
 clear h a y;go_enter func11,ntmps11
 go_upto_region 1 with fail
 rw[v.out]
 go_upto_region 9 with fail
 go_region_law (refine uo W rfl (.tmp 51) (.tmp 57) 33 rfl Q (.agg #[.string ⟨#[]⟩,.string ⟨#[]⟩]) 32 M.hr (cr M.reg) (Ou (s,t)) underlying33 o g i j rfl Uq (by rw[c.out];simp[Act.eval]) l m.out (by omega) (by simp[Act.eval]) rfl (JC (s,t)) ?_;intro G x S f d;have p:=d.kept.get u.out.blk b.out;have X:=am p 2;have V:S.cell? ⟨w,2,none⟩=some (.slice M.hr.ao M.reg.length M.hr.cap):=(by rw[aa p];rfl);have z5:=ae p)
 all_goals
  rw[wX]at f;have B:Hid _:=u.out.addR d f O P;rw[c.out];go_wp2;go_ret;obtain⟨E,F,H,I⟩:=B.out;exact⟨rfl,E,F,H,I⟩
theorem OZ:(prog.info? 46).map (fun i=>(i.zero,i.size,i.bytes))=some (some (.pointer none),1,8):=by kernel_rfl
theorem OX:(prog.info? 47).map (fun i=>(i.zero,i.size,i.bytes))=some (some (.pointer none),1,8):=by kernel_rfl
theorem zd:(⟨(lB w vd).e,(lB w vd).size,(lB w vd).n+1,(lB w vd).xs++[NY L]⟩:dN)=lB w (vd++[L]):=by
 simp[lB]
theorem bZ.addV{M:Mc}(h:bZ n l I M S)(b:wz=fk (fk I (6,M.V.length) (O6 u [] 0 0 none)) (7,M.V.length) (O4 vs ⟨none,0⟩ [] 0 0 none))(o:nJ p (fk (fk (fk (fk wz (1,0) (ce s (lB 46 (M.V.map (·.1)++[u])))) (0,0) (rB l 42 (M.cells.set 0 (.slice s.ao (M.V.length+1) s.cap)))) (2,0) (ce yf (lB 47 (M.V.map (·.2.1)++[vs])))) (0,0) (rB l 42 ((M.cells.set 0 (.slice s.ao (M.V.length+1) s.cap)).set 1 (.slice yf.ao (M.V.length+1) yf.cap))))) :
  ∃f g,bZ p l f g (S+1)/\rh I M f g:=by
 refine⟨_,{ M with hx:=s,hm:=yf,V:=M.V++[(u,vs,[])] },⟨o,?_,?_,?_,?_,?_,?_,?_,?_,?_,?_,?_⟩,?_⟩
 ·rw[bJ];unfold Mc.cells;rw[Q0];rfl
 ·rw[aq _ _ (bn (by decide)),aq _ _ (bn (by decide)),aq _ _ (bn (by decide)),bJ,Ry];rfl
 ·rw[aq _ _ (bn (by decide)),bJ,Ry];rfl
 ·subst b;simp only[fk];exact h.r
 ·subst b;simp only[fk];exact h.ls
 ·subst b;simp only[fk];exact h.lw
 ·intro i x m c a
  rw[aq _ _ (bn (by decide)),aq _ _ (bn (by decide)),aq _ _ (bn (by decide)),aq _ _ (bn (by decide)),aq _ _ (bn (by decide)),aq _ _ (bn (by decide)),aq _ _ (bn (by decide)),aq _ _ (bn (by decide))];replace a:(M.V++[(u,vs,[])])[i]?=some (x,m,c):=a;subst b
  by_cases e:i<M.V.length
  ·rw[Q7 e]at a
   rw[aq _ _ (bn (by decide)),aq _ _ (rC (by omega)),aq _ _ (rC (by omega)),aq _ _ (bn (by decide))];exact h.v i x m c a
  ·have k:i=M.V.length:=by
    have:=(Q8.1 a).1;rw[Q0]at this;have:i<M.V.length+1:=this;omega
   subst k;rw[Q5 (QR _),RY]at a
   cases a
   rw[aq _ _ (bn (by decide)),bJ,bJ];exact⟨⟨none,⟨none,0⟩,0,0,0,0,rfl,rfl⟩,fun j d=>by cases d⟩
 ·intro i x m c a
  subst b;simp only[fk];exact h.more.l i x m c a
 ·exact h.fit
 ·refine⟨?_,h.more.len.2.1,h.more.len.2.2⟩
  have:=h.len.1
  show(M.V++[(u,vs,[])]).length<=_
  rw[Q0];show _+1<=_;omega
 ·exact h.rng
 ·subst b;exact⟨fun j i d=>by(repeat rw[oY (by decide) d]),rfl,rfl⟩
theorem Pa(M:Mc)(A C D:Int)(s t:ByteArray)(ap:World)(h:bZ ap w q M L)(hN:L<=1073741824) :
  Calls prog 11 #[.pointer (some ⟨w,0,none⟩),.agg #[.int .i64 1,.int .i64 A,.int .i64 C,.int .i64 D,.string s,.string t]] ap fun e w'=>iB w q M L true e w':=by
 obtain⟨W,HW⟩:∃W,Hid (ap.alloc (.cells #[.int .i64 1,.int .i64 A,.int .i64 C,.int .i64 D,.string s,.string t] 28)=W):=⟨_,rfl⟩
 obtain⟨hM,hB,ax,-⟩:=h.boxed 1 A C D s t W HW.out;obtain⟨o0,-⟩:=cQ hB;have oz:=ae hB;obtain⟨iX,an,P,Q,R⟩:=Re OZ;obtain⟨iM,al,K,N,O⟩:=Re OX;have o:Hid (bZ W w q M L):=hM;have ai:Hid ((lB 46 (M.V.map (·.1))).n<=4294967296):=by show(M.V.map _).length<=_;rw[Ri];have:=h.len.1;omega
 have ag:Hid ((lB 47 (M.V.map (·.2.1))).n<=4294967296):=by show(M.V.map _).length<=_;rw[Ri];have:=h.len.1;omega
 have z:Hid ((lB 46 (M.V.map (·.1))).n=M.V.length):=Ri _;have v:Hid ((lB 47 (M.V.map (·.2.1))).n=M.V.length):=Ri _;clear h hM hB;go_enter func11,ntmps11
 go_upto_region 1 with fail
 rw[HW.out]
 go_upto_region 5 with (go_at_call 27;refine QU (NN W) ?_;rintro e T ⟨rfl,hX,k1⟩)
 have S1:Hid _:=o.out.sep.put (6,M.V.length) (O6 W.heap.size [] 0 0 none) (k1.mono (by simp)) ⟨Ro _,hX⟩ (fun ar j=>QV (by rcases Rj.1 j with e | e;exact US e.symm;exact absurd (ng.1 e).2 (T0 _)))
 go_upto_region 6 with (go_at_call 28;refine QU (IX T) ?_;rintro e w2 ⟨rfl,hY,k2⟩)
 have S2:Hid _:=(S1.out.put (7,M.V.length) (O4 T.heap.size ⟨none,0⟩ [] 0 0 none) (k2.mono (by simp)) ⟨Ro _,_,_,_,hY⟩ (fun ar j=>QV (by rcases Rj.1 j with e | e;exact US e.symm;exact absurd (ng.1 (show ar∈ie 0 0 from e)).2 (T0 _))));have a:Hid _:=(o.out.Vb k1).Vb k2;clear hX hY k1 k2;have c0:w2.cell? ⟨w,0,none⟩=some (.slice M.hx.ao M.V.length M.hx.cap):=by rw[aa a.out.blk];rfl
 have fb:=am a.out.blk;have bz:=ae a.out.blk;have F:=a.out.ownX;have u:Hid (w∉M.hx.blk.toList):=fun j=>a.out.sep.far (0,0) (1,0) (bn (by decide)) w (by rw[a.out.w0];exact Q9.2 rfl) (by rw[a.out.x];exact j)
 obtain⟨J,l⟩:∃J,Hid (J=fk (fk q (6,M.V.length) (O6 W.heap.size [] 0 0 none)) (7,M.V.length) (O4 T.heap.size ⟨none,0⟩ [] 0 0 none)):=⟨_,rfl⟩
 rw[<-l.out]at S2;have ac:Hid (J (0,0)=rB w 42 M.cells):=by show _=_;rw[l.out,aq _ _ (bn (by decide)),aq _ _ (bn (by decide))];exact o.out.w0
 have ad:Hid (J (1,0)=ce M.hx (lB 46 (M.V.map (·.1)))):=by show _=_;rw[l.out,aq _ _ (bn (by decide)),aq _ _ (bn (by decide))];exact o.out.x
 have af:Hid (J (2,0)=ce M.hm (lB 47 (M.V.map (·.2.1)))):=by show _=_;rw[l.out,aq _ _ (bn (by decide)),aq _ _ (bn (by decide))];exact o.out.m
 obtain⟨X,y⟩:∃X,Hid (W.heap.size=X):=⟨_,rfl⟩
 obtain⟨Y,B⟩:∃Y,Hid (T.heap.size=Y):=⟨_,rfl⟩
 rw[y.out,B.out]at l;rw[y.out,B.out]
 go_upto_region 7 with (at_builtin;refine cZ w2 rfl (.tmp 29) (.tmp 31) 31 rfl iX (.pointer none) 8 M.hx (lB 46 (M.V.map (·.1))) [NY X] underlying31 an P Q R rfl Rc (by rw[z.out];simp[Act.eval]) F ai.out (by omega) (by simp[Act.eval]) rfl (by simp[NY,Value.oneCell']) ?_;intro b w5 k i;rw[zd]at k;have S:=i.kept.get a.out.blk u.out;have f5:=am S;have c5:w5.cell? ⟨w,0,none⟩=some (.slice M.hx.ao M.V.length M.hx.cap):=(by rw[aa S];rfl);have z5:=ae S)
 rw[z.out];have p:Hid _:=(S2.out.grown ac.out (bn (by decide)) ad.out i k 0 (.slice b.ao (M.V.length+1) b.cap));obtain⟨r,Z⟩:∃r,Hid (w5.setCell ⟨w,0,none⟩ (.slice b.ao (M.V.length+1) b.cap)=r):=⟨_,rfl⟩
 rw[Z.out]at p ⊢;have c:Hid _:=bJ (fk J (1,0) (ce b (lB 46 (M.V.map (·.1)++[X])))) (0,0) (rB w 42 (M.cells.set 0 (.slice b.ao (M.V.length+1) b.cap)));obtain⟨J6,f⟩:∃J6,Hid (fk (fk J (1,0) (ce b (lB 46 (M.V.map (·.1)++[X])))) (0,0) (rB w 42 (M.cells.set 0 (.slice b.ao (M.V.length+1) b.cap)))=J6):=⟨_,rfl⟩
 have g:Hid (J6 (2,0)=ce M.hm (lB 47 (M.V.map (·.2.1)))):=by show _=_;rw[<-f.out,aq _ _ (bn (by decide)),aq _ _ (bn (by decide))];exact af.out
 rw[f.out]at p c
 have E:r.heap[w]?=some (.cells (M.cells.set 0 (.slice b.ao (M.V.length+1) b.cap)).toArray 42 (0,0)):=by
  have:=p.out.all (0,0);rw[c.out]at this;exact this
 have U:Hid _:=E
 have G:aw r M.hm (lB 47 (M.V.map (·.2.1))):=by
  have:=p.out.all (2,0);rw[g.out]at this;exact this
 have d:Hid (w∉M.hm.blk.toList):=fun j=>p.out.far (0,0) (2,0) (bn (by decide)) w (by rw[c.out];exact Q9.2 rfl) (by rw[g.out];exact j)
 clear S f5 c5 z5 k i c0 fb bz F;have c1:r.cell? ⟨w,1,none⟩=some (.slice M.hm.ao M.V.length M.hm.cap):=by rw[aa E];rfl
 have fb:=am E;have bz:=ae E;clear E;go_wp2_with (at_builtin;refine cZ r rfl (.tmp 39) (.tmp 41) 32 rfl iM (.pointer none) 8 M.hm (lB 47 (M.V.map (·.2.1))) [NY Y] underlying32 al K N O rfl Rc (by rw[v.out];simp[Act.eval]) G ag.out (by omega) (by simp[Act.eval]) rfl (by simp[NY,Value.oneCell']) ?_;intro h7 w7 I H;rw[zd]at I;have p7:=H.kept.get U.out d.out;have f7:=am p7;have c7:w7.cell? ⟨w,1,none⟩=some (.slice M.hm.ao M.V.length M.hm.cap):=(by rw[aa p7];rfl);have z7:=ae p7;rw[v.out]);go_ret;have S7:=p.out.grown c.out (bn (by decide)) g.out H I 1 (.slice h7.ao (M.V.length+1) h7.cap);rw[<-f.out]at S7;exact⟨rfl,o.out.addV l.out S7⟩
theorem Lw:(prog.info? 33).map (fun i=>(i.zero,i.size,i.bytes))=some (some (.slice none 0 0),1,24):=by kernel_rfl
theorem qt(L:List (Option Nat×Fs))(x:Option Nat×Fs):(⟨(ig L).e,(ig L).size,(ig L).n+1,(ig L).xs++[Aj x]⟩:dN)=ig (L++[x]):=by
 simp[ig]
theorem aw.srcO(o:aw n s (cr d)):kR n s.ao d:=by
 intro k f;obtain⟨g,e,c,a,b⟩:=o.srcFi.2 k f;exact⟨g,0,e,c,by rw[SJ];exact a,by rw[SJ];exact b⟩
theorem bZ.addL{a c:Option Nat}{fs:Fs}{M:Mc}(h:bZ n l I M S)(u:ld fs)(q:fs.length<=S+1)(d:wz=fk (fk (fk I (8,M.L.length) (uI a fs)) (4,0) (ce s (ig (M.L.map (fun g=>(g.1,g.2.2))++[(a,fs)])))) (0,0) (rB l 42 (M.cells.set 3 (.slice s.ao (M.L.length+1) s.cap))))(y:nJ p (fk (fk (fk wz (9,M.L.length) (uI c fs)) (5,0) (ce yf (ig (M.L.map (fun g=>(g.2.1,g.2.2))++[(c,fs)])))) (0,0) (rB l 42 ((M.cells.set 3 (.slice s.ao (M.L.length+1) s.cap)).set 4 (.slice yf.ao (M.L.length+1) yf.cap))))) :
  ∃k o,bZ p l k o (S+1)/\rh I M k o:=by
 refine⟨_,{ M with hl:=s,hc:=yf,L:=M.L++[(a,c,fs)] },⟨y,?_,?_,?_,?_,?_,?_,?_,?_,?_,?_,?_⟩,?_⟩
 ·rw[bJ];unfold Mc.cells;rw[Q0];rfl
 ·subst d;simp only[fk];exact h.x
 ·subst d;simp only[fk];exact h.m
 ·subst d;simp only[fk];exact h.r
 ·subst d;rw[aq _ _ (bn (by decide)),aq _ _ (bn (by decide)),aq _ _ (bn (by decide)),aq _ _ (bn (by decide)),bJ,Ry];rfl
 ·rw[aq _ _ (bn (by decide)),bJ,Ry];rfl
 ·intro i x m fs b
  subst d;simp only[fk];exact h.v i x m fs b
 ·intro i x m f b
  rw[aq _ _ (bn (by decide)),aq _ _ (bn (by decide)),aq _ _ (bn (by decide)),aq _ _ (bn (by decide)),aq _ _ (bn (by decide))];replace b:(M.L++[(a,c,fs)])[i]?=some (x,m,f):=b;subst d;rw[aq _ _ (bn (by decide)),aq _ _ (bn (by decide))]
  by_cases e:i<M.L.length
  ·rw[Q7 e]at b
   rw[aq _ _ (rC (by omega)),aq _ _ (rC (by omega)),aq _ _ (bn (by decide)),aq _ _ (bn (by decide)),aq _ _ (bn (by decide))];exact h.more.l i x m f b
  ·have t:i=M.L.length:=by
    have:=(Q8.1 b).1;rw[Q0]at this;have:i<M.L.length+1:=this;omega
   subst t;rw[Q5 (QR _),RY]at b
   cases b
   rw[bJ,bJ];exact⟨rfl,rfl,u,q⟩
 ·exact h.fit
 ·refine⟨h.more.len.1,h.more.len.2.1,?_⟩
  have:=h.len.2.2
  show(M.L++[(a,c,fs)]).length<=_
  rw[Q0];show _+1<=_;omega
 ·exact h.rng
 ·subst d;exact⟨fun j i w=>by(repeat rw[oY (by decide) w]),rfl,rfl⟩
theorem nJ.rowAt(a:nJ n I)(b:I (0,0)=rB l S vc)(c:yg≠(0,0))(e:I yg=ce s wu):n.heap[l]?=some (.cells vc.toArray S (0,0))/\aw n s wu/\l∉s.blk.toList:=by
 refine⟨?_,?_,fun d=>a.far (0,0) yg (Ne.symm c) l (by rw[b];exact Q9.2 rfl) (by rw[e];exact d)⟩
 ·have:=a.all (0,0);rw[b]at this;exact this
 ·have:=a.all yg;rw[e]at this;exact this
theorem Pe(M:Mc)(A C D:Int)(s t:ByteArray)(ag:World)(h:bZ ag w q M L)(hN:L<=1073741824) :
  Calls prog 11 #[.pointer (some ⟨w,0,none⟩),.agg #[.int .i64 5,.int .i64 A,.int .i64 C,.int .i64 D,.string s,.string t]] ag fun e w'=>iB w q M L true e w':=by
 obtain⟨W,HW⟩:∃W,Hid (ag.alloc (.cells #[.int .i64 5,.int .i64 A,.int .i64 C,.int .i64 D,.string s,.string t] 28)=W):=⟨_,rfl⟩
 obtain⟨r,Z,ai,-⟩:=h.boxed 5 A C D s t W HW.out;obtain⟨o0,-⟩:=cQ Z;have oz:=ae Z;obtain⟨iX,R,i,k,m⟩:=Re Lw;have HM:Hid (bZ W w q M L):=r;have af:Hid ((ig (M.L.map (fun l=>(l.1,l.2.2)))).n<=4294967296):=by show(M.L.map _).length<=_;rw[Ri];have:=h.len.2.2;omega
 have ad:Hid ((ig (M.L.map (fun l=>(l.2.1,l.2.2)))).n<=4294967296):=by show(M.L.map _).length<=_;rw[Ri];have:=h.len.2.2;omega
 have B:Hid ((ig (M.L.map (fun l=>(l.1,l.2.2)))).n=M.L.length):=Ri _;have x:Hid ((ig (M.L.map (fun l=>(l.2.1,l.2.2)))).n=M.L.length):=Ri _;have X:Hid (nJ W (fk q (8,M.L.length) (uI none []))):=r.sep.put _ _ (ab.refl _ _) ⟨fun _=>rfl,fun w e=>by cases e⟩ (fun al hq=>by cases hq);obtain⟨J,v⟩:∃J,Hid (J=fk q (8,M.L.length) (uI none [])):=⟨_,rfl⟩
 rw[<-v.out]at X;have I:Hid (J (0,0)=rB w 42 M.cells):=by show _=_;rw[v.out,aq _ _ (bn (by decide))];exact r.w0
 have K:Hid (J (4,0)=ce M.hl (ig (M.L.map (fun l=>(l.1,l.2.2))))):=by show _=_;rw[v.out,aq _ _ (bn (by decide))];exact r.ls
 have ac:Hid (J (5,0)=ce M.hc (ig (M.L.map (fun l=>(l.2.1,l.2.2))))):=by show _=_;rw[v.out,aq _ _ (bn (by decide))];exact r.lw
 obtain⟨T,O,f⟩:=X.out.rowAt I.out (bn (by decide)) K.out;have y:Hid (W.heap[w]?=some (.cells M.cells.toArray 42 (0,0))/\w∉M.hl.blk.toList):=⟨T,f⟩;have c0:W.cell? ⟨w,3,none⟩=some (.slice M.hl.ao M.L.length M.hl.cap):=by rw[aa T];rfl
 have fb:=am T;have bz:=ae T;clear h r Z T f;go_enter func11,ntmps11
 go_upto_region 1 with fail
 rw[HW.out]
 go_upto_region 22 with (at_builtin;refine cZ W rfl (.tmp 105) (.tmp 106) 34 rfl iX (.slice none 0 0) 24 M.hl (ig (M.L.map (fun l=>(l.1,l.2.2)))) [Aj (none,[])] underlying34 R i k m rfl Rc (by rw[B.out];simp[Act.eval]) O af.out (by omega) (by simp[Act.eval]) rfl (by simp[Aj,Value.oneCell']) ?_;intro b w5 p o;rw[qt]at p;have U:=o.kept.get y.out.1 y.out.2;have f5:=am U;have c5:w5.cell? ⟨w,3,none⟩=some (.slice M.hl.ao M.L.length M.hl.cap):=(by rw[aa U];rfl);have z5:=ae U)
 rw[B.out];have Y:Hid _:=(X.out.grown I.out (bn (by decide)) K.out o p 3 (.slice b.ao (M.L.length+1) b.cap));obtain⟨u,V⟩:∃u,Hid (w5.setCell ⟨w,3,none⟩ (.slice b.ao (M.L.length+1) b.cap)=u):=⟨_,rfl⟩
 rw[V.out]at Y ⊢;obtain⟨E,N⟩:∃E,E=fk (fk J (4,0) (ce b (ig (M.L.map (fun l=>(l.1,l.2.2))++[(none,[])])))) (0,0) (rB w 42 (M.cells.set 3 (.slice b.ao (M.L.length+1) b.cap))):=⟨_,rfl⟩
 have d:Hid _:=N;clear N;rw[<-d.out]at Y;have S6:Hid (nJ u (fk E (9,M.L.length) (uI none []))):=Y.out.put _ _ (ab.refl _ _) ⟨fun _=>rfl,fun w e=>by cases e⟩ (fun al hq=>by cases hq);have G:Hid (fk E (9,M.L.length) (uI none []) (0,0)=rB w 42 (M.cells.set 3 (.slice b.ao (M.L.length+1) b.cap))):=by show _=_;rw[aq _ _ (bn (by decide)),d.out,bJ]
 have H:Hid (fk E (9,M.L.length) (uI none []) (5,0)=ce M.hc (ig (M.L.map (fun l=>(l.2.1,l.2.2))))):=by show _=_;rw[aq _ _ (bn (by decide)),d.out,aq _ _ (bn (by decide)),aq _ _ (bn (by decide))];exact ac.out
 obtain⟨F,P,g⟩:=S6.out.rowAt G.out (bn (by decide)) H.out;have z:Hid (u.heap[w]?=some (.cells (M.cells.set 3 (.slice b.ao (M.L.length+1) b.cap)).toArray 42 (0,0))/\w∉M.hc.blk.toList):=⟨F,g⟩;clear U f5 c5 z5 p o c0 fb bz O;have c1:u.cell? ⟨w,4,none⟩=some (.slice M.hc.ao M.L.length M.hc.cap):=by rw[aa F];rfl
 have fb:=am F;have bz:=ae F;clear F g;go_wp2_with (at_builtin;refine cZ u rfl (.tmp 115) (.tmp 116) 34 rfl iX (.slice none 0 0) 24 M.hc (ig (M.L.map (fun l=>(l.2.1,l.2.2)))) [Aj (none,[])] underlying34 R i k m rfl Rc (by rw[x.out];simp[Act.eval]) P ad.out (by omega) (by simp[Act.eval]) rfl (by simp[Aj,Value.oneCell']) ?_;intro h7 w7 S Q;rw[qt]at S;have p7:=Q.kept.get z.out.1 z.out.2;have f7:=am p7;have c7:w7.cell? ⟨w,4,none⟩=some (.slice M.hc.ao M.L.length M.hc.cap):=(by rw[aa p7];rfl);have z7:=ae p7;rw[x.out]);go_ret;have S7:=S6.out.grown G.out (bn (by decide)) H.out Q S 4 (.slice h7.ao (M.L.length+1) h7.cap);exact⟨rfl,HM.out.addL (a:=none) (c:=none) (fs:=[]) (fun j=>⟨by show(0:Nat)<=_;omega,by show(0:Nat)<=_;omega⟩) (Ro _) (by rw[d.out,v.out]) S7⟩
theorem Pd(M:Mc)(A C D:Int)(s t:ByteArray)(a1:World)(h:bZ a1 w q M L)(hN:L<=1073741824) :
  Calls prog 11 #[.pointer (some ⟨w,0,none⟩),.agg #[.int .i64 4,.int .i64 A,.int .i64 C,.int .i64 D,.string s,.string t]] a1 fun e w'=>iB w q M L true e w':=by
 obtain⟨W,HW⟩:∃W,Hid (a1.alloc (.cells #[.int .i64 4,.int .i64 A,.int .i64 C,.int .i64 D,.string s,.string t] 28)=W):=⟨_,rfl⟩
 obtain⟨V,hB,a2,-⟩:=h.boxed 4 A C D s t W HW.out;obtain⟨o0,-⟩:=cQ hB;have oz:=ae hB;obtain⟨iX,af,m,o,p⟩:=Re Lw;have u:Hid (bZ W w q M L):=V;have v:Hid (M.reg.length<=L):=h.len.2.1;have aT:Hid ((ig (M.L.map (fun l=>(l.1,l.2.2)))).n<=4294967296):=by show(M.L.map _).length<=_;rw[Ri];have:=h.len.2.2;omega
 have aS:Hid ((ig (M.L.map (fun l=>(l.2.1,l.2.2)))).n<=4294967296):=by show(M.L.map _).length<=_;rw[Ri];have:=h.len.2.2;omega
 have P:Hid ((ig (M.L.map (fun l=>(l.1,l.2.2)))).n=M.L.length):=Ri _;have K:Hid ((ig (M.L.map (fun l=>(l.2.1,l.2.2)))).n=M.L.length):=Ri _;have an:Hid (Calls prog 29 #[.slice M.hr.ao M.reg.length M.hr.cap] W _):=jE M.hr.ao M.hr.cap M.reg W V.ownR.srcO (by have:=v.out;omega);have c2:W.cell? ⟨w,2,none⟩=some (.slice M.hr.ao M.reg.length M.hr.cap):=by rw[aa V.blk];rfl
 have H:=ae V.blk;clear h V hB;go_enter func11,ntmps11
 go_upto_region 1 with fail
 rw[HW.out]
 go_upto_region 14 with (go_at_call 29;refine QU an.out ?_;rintro e w1 ⟨rfl,Z,k1⟩)
 have S1:Hid (nJ w1 (fk q (8,M.L.length) (uI (some W.heap.size) M.reg))):=u.out.sep.put _ _ (k1.mono (by simp)) ⟨(fun e=>by cases e),(fun a0 e=>by cases e;exact Z)⟩ (fun a0 hq=>QV (by rw[Q9.1 hq];exact QR _));obtain⟨E,ai⟩:∃E,Hid (W.heap.size=E):=⟨_,rfl⟩
 rw[ai.out]at S1 ⊢;obtain⟨J,G⟩:∃J,Hid (J=fk q (8,M.L.length) (uI (some E) M.reg)):=⟨_,rfl⟩
 rw[<-G.out]at S1;have S:Hid (J (0,0)=rB w 42 M.cells):=by show _=_;rw[G.out,aq _ _ (bn (by decide))];exact u.out.w0
 have ax:Hid (J (3,0)=ce M.hr (cr M.reg)):=by show _=_;rw[G.out,aq _ _ (bn (by decide))];exact u.out.r
 have T:Hid (J (4,0)=ce M.hl (ig (M.L.map (fun l=>(l.1,l.2.2))))):=by show _=_;rw[G.out,aq _ _ (bn (by decide))];exact u.out.ls
 have az:Hid (J (5,0)=ce M.hc (ig (M.L.map (fun l=>(l.2.1,l.2.2))))):=by show _=_;rw[G.out,aq _ _ (bn (by decide))];exact u.out.lw
 obtain⟨p1,X,i⟩:=S1.out.rowAt S.out (bn (by decide)) T.out;have N:Hid (w1.heap[w]?=some (.cells M.cells.toArray 42 (0,0))/\w∉M.hl.blk.toList):=⟨p1,i⟩;have c0:w1.cell? ⟨w,3,none⟩=some (.slice M.hl.ao M.L.length M.hl.cap):=by rw[aa p1];rfl
 have fb:=am p1;clear H;have H:=ae p1;clear p1 i c2 k1 Z
 go_upto_region 16 with (at_builtin;refine cZ w1 rfl (.tmp 76) (.tmp 78) 34 rfl iX (.slice none 0 0) 24 M.hl (ig (M.L.map (fun l=>(l.1,l.2.2)))) [Aj (some E,M.reg)] underlying34 af m o p rfl Rc (by rw[P.out];simp[Act.eval]) X aT.out (by omega) (by simp[Act.eval]) rfl (by simp[Aj,Value.oneCell']) ?_;intro b w5 z y;rw[qt]at z;have p5:=y.kept.get N.out.1 N.out.2;have f5:=am p5;have c5:w5.cell? ⟨w,3,none⟩=some (.slice M.hl.ao M.L.length M.hl.cap):=(by rw[aa p5];rfl);have z5:=ae p5)
 rw[P.out];have S5:Hid _:=(S1.out.grown S.out (bn (by decide)) T.out y z 3 (.slice b.ao (M.L.length+1) b.cap));obtain⟨B,ap⟩:∃B,Hid (w5.setCell ⟨w,3,none⟩ (.slice b.ao (M.L.length+1) b.cap)=B):=⟨_,rfl⟩
 rw[ap.out]at S5 ⊢;obtain⟨x,U⟩:∃x,x=fk (fk J (4,0) (ce b (ig (M.L.map (fun l=>(l.1,l.2.2))++[(some E,M.reg)])))) (0,0) (rB w 42 (M.cells.set 3 (.slice b.ao (M.L.length+1) b.cap))):=⟨_,rfl⟩
 have d:Hid _:=U;clear U;rw[<-d.out]at S5;have ar:Hid (x (3,0)=ce M.hr (cr M.reg)):=by show _=_;rw[d.out,aq _ _ (bn (by decide)),aq _ _ (bn (by decide))];exact ax.out
 have g:Hid (x (0,0)=rB w 42 (M.cells.set 3 (.slice b.ao (M.L.length+1) b.cap))):=by show _=_;rw[d.out,bJ]
 obtain⟨f,k,-⟩:=S5.out.rowAt g.out (bn (by decide)) ar.out;have I:Hid (Calls prog 29 #[.slice M.hr.ao M.reg.length M.hr.cap] B _):=jE M.hr.ao M.hr.cap M.reg B k.srcO (by have:=v.out;omega);clear p5 f5 c5 z5 z y c0 fb H X k;have c2:B.cell? ⟨w,2,none⟩=some (.slice M.hr.ao M.reg.length M.hr.cap):=by rw[aa f];rfl
 have H:=ae f;clear f
 go_upto_region 17 with (go_at_call 29;refine QU I.out ?_;rintro e w8 ⟨rfl,ac,k2⟩)
 have S6:Hid (nJ w8 (fk x (9,M.L.length) (uI (some B.heap.size) M.reg))):=S5.out.put _ _ (k2.mono (by simp)) ⟨(fun e=>by cases e),(fun a0 e=>by cases e;exact ac)⟩ (fun a0 hq=>QV (by rw[Q9.1 hq];exact QR _));obtain⟨F,al⟩:∃F,Hid (B.heap.size=F):=⟨_,rfl⟩
 rw[al.out]at S6 ⊢;clear c2 H k2 ac;have Q:Hid (fk x (9,M.L.length) (uI (some F) M.reg) (0,0)=rB w 42 (M.cells.set 3 (.slice b.ao (M.L.length+1) b.cap))):=by show _=_;rw[aq _ _ (bn (by decide))];exact g.out
 have R:Hid (fk x (9,M.L.length) (uI (some F) M.reg) (5,0)=ce M.hc (ig (M.L.map (fun l=>(l.2.1,l.2.2))))):=by show _=_;rw[aq _ _ (bn (by decide)),d.out,aq _ _ (bn (by decide)),aq _ _ (bn (by decide))];exact az.out
 obtain⟨f,Y,j⟩:=S6.out.rowAt Q.out (bn (by decide)) R.out;have O:Hid (w8.heap[w]?=some (.cells (M.cells.set 3 (.slice b.ao (M.L.length+1) b.cap)).toArray 42 (0,0))/\w∉M.hc.blk.toList):=⟨f,j⟩;have c1:w8.cell? ⟨w,4,none⟩=some (.slice M.hc.ao M.L.length M.hc.cap):=by rw[aa f];rfl
 have fb:=am f;have H:=ae f;clear f j;go_wp2_with (at_builtin;refine cZ w8 rfl (.tmp 92) (.tmp 94) 34 rfl iX (.slice none 0 0) 24 M.hc (ig (M.L.map (fun l=>(l.2.1,l.2.2)))) [Aj (some F,M.reg)] underlying34 af m o p rfl Rc (by rw[K.out];simp[Act.eval]) Y aS.out (by omega) (by simp[Act.eval]) rfl (by simp[Aj,Value.oneCell']) ?_;intro h7 w7 ag ad;rw[qt]at ag;have p7:=ad.kept.get O.out.1 O.out.2;have f7:=am p7;have c7:w7.cell? ⟨w,4,none⟩=some (.slice M.hc.ao M.L.length M.hc.cap):=(by rw[aa p7];rfl);have z7:=ae p7;rw[K.out]);go_ret;have S7:=S6.out.grown Q.out (bn (by decide)) R.out ad ag 4 (.slice h7.ao (M.L.length+1) h7.cap);exact⟨rfl,u.out.addL (a:=some E) (c:=some F) (fs:=M.reg) u.out.fit (by have:=v.out;omega) (by rw[d.out,G.out]) S7⟩
theorem Gv{L:List (Option Nat×Option Nat×Fs)}(b:L[l]?=some (z6,x7,d))(f:Option Nat×Option Nat×Fs->Option Nat×Fs)(c:Aj (f (z6,x7,v3))=Aj (f (z6,x7,d))):ig ((L.set l (z6,x7,v3)).map f)=ig (L.map f):=by
 unfold ig
 have e:((L.set l (z6,x7,v3)).map f).map Aj=(L.map f).map Aj:=by
  rw[Tn,Tn,c]
  apply Sq
  intro j;rw[RU]
  by_cases a:l=j
  ·subst a
   rw[QW rfl,Rq,Rq,b];have:=(Q8.1 b).1;simp[this]
  ·rw[QT a]
 rw[e,Ri,Rv,Ri]
theorem Ir(h:ld d)(i:Nat)(b:y9.size<=1073741824)(a:yd.size<=1073741824):ld (d.set i (y9,yd)):=by
 intro j;have:=h j;unfold aE ak at *;rw[QQ]at *;rw[RU]
 by_cases e:i=j
 ·subst e
  rw[QW rfl]
  split
  ·exact⟨b,a⟩
  ·exact⟨by show(0:Nat)<=_;omega,by show(0:Nat)<=_;omega⟩
 ·rw[QT e];exact this
theorem bZ.wrote{M:Mc}(h:bZ n l I M S)(f:M.L[u]?=some (z6,x7,d))(o:v3.length=d.length)(w:ld v3)(z:nJ p (fk (fk I (8,u) (uI z6 v3)) (9,u) (uI x7 v3))):∃g k,bZ p l g k (S+1)/\rh I M g k:=by
 refine⟨_,{ M with L:=M.L.set u (z6,x7,v3) },⟨z,?_,?_,?_,?_,?_,?_,?_,?_,?_,?_,?_⟩,?_⟩
 ·rw[aq _ _ (bn (by decide)),aq _ _ (bn (by decide)),h.w0];unfold Mc.cells;rw[Rv]
 ·simp only[fk];exact h.x
 ·simp only[fk];exact h.m
 ·simp only[fk];exact h.r
 ·rw[aq _ _ (bn (by decide)),aq _ _ (bn (by decide)),h.ls]
  congr 1
  exact(Gv f (fun c=>(c.1,c.2.2)) (by simp only[Aj,o])).symm
 ·rw[aq _ _ (bn (by decide)),aq _ _ (bn (by decide)),h.lw]
  congr 1
  exact(Gv f (fun c=>(c.2.1,c.2.2)) (by simp only[Aj,o])).symm
 ·intro i x m d a
  simp only[fk];exact h.v i x m d a
 ·intro i x m b a
  replace a:(M.L.set u (z6,x7,v3))[i]?=some (x,m,b):=a;rw[RU]at a;rw[aq _ _ (bn (by decide))]
  by_cases e:u=i
  ·subst e
   rw[QW rfl,QW (Q8.1 f).1]at a
   cases a
   obtain⟨-,-,-,A⟩:=h.l u z6 x7 d f;rw[bJ,bJ];exact⟨rfl,rfl,w,by omega⟩
  ·rw[QT e]at a
   rw[aq _ _ (rC (Ne.symm e)),aq _ _ (rC (Ne.symm e)),aq _ _ (bn (by decide))];exact h.more.l i x m b a
 ·exact h.fit
 ·obtain⟨q,s,t⟩:=h.more.len
  exact⟨q,s,by show(M.L.set u (z6,x7,v3)).length<=_;rw[Rv];exact t⟩
 ·exact h.rng
 ·exact⟨fun j i y=>by(repeat rw[oY (by decide) y]),rfl,rfl⟩
theorem iG.wrote(h:iG n (some l) d)(c:S<d.length)(b a:ByteArray):iG ((n.setCell ⟨l,S*2,none⟩ (.string b)).setCell ⟨l,S*2+1,none⟩ (.string a)) (some l) (d.set S (b,a))/\ab [l] n ((n.setCell ⟨l,S*2,none⟩ (.string b)).setCell ⟨l,S*2+1,none⟩ (.string a)):=by
 refine⟨⟨(fun e=>by cases e),fun q e=>?_⟩,((ab.refl _ _).setCell (Q1 (by simp)) _).setCell (Q1 (by simp)) _⟩
 cases e
 rw[ah (ah (h.blk l rfl) _ _) _ _,Ru,Ru,Gk d S b a c]
theorem iG.cells(h:iG n (some l) d)(e:S<d.length):(n.cell? ⟨l,S*2,none⟩=some (.string (aE d S))/\n.cell? ⟨l,S*2+1,none⟩=some (.string (ak d S)))/\(∀j,n.frozen? ⟨l,j,none⟩=false)/\l<n.heap.size:=by
 have a:=h.blk l rfl;obtain⟨b,c⟩:=v9 d S e;exact⟨⟨by rw[aa a];simpa using b,by rw[aa a];simpa using c⟩,am a,ae a⟩
theorem n8{L:List (Option Nat×Fs)}(o:aw n s (ig L)){k:Nat}{x:Option Nat×Fs}(c:L[k]?=some x):∃g,s.ao=some ⟨g,0,none⟩/\g<n.heap.size/\n.cell? ⟨g,k,none⟩=some (Aj x):=by
 have h:=(Q8.1 c).1
 rcases o.Vm with ⟨_,b,_⟩ | ⟨g,d,a,e,f,-⟩
 ·have b:L.length=0:=b
  omega
 ·exact⟨g,a,ae e,o.cell a k (Aj x) (by show(L.map Aj)[k]?=_;rw[Rq,c];rfl)⟩
theorem Pf(M:Mc)(A C D:Int)(s t:ByteArray)(E:World)(h:bZ E w q M L)(hN:L<=1073741824)(hA:qB A)(hC:qB C)(hs:s.size<=1073741824)(ht:t.size<=1073741824) :
  Calls prog 11 #[.pointer (some ⟨w,0,none⟩),.agg #[.int .i64 6,.int .i64 A,.int .i64 C,.int .i64 D,.string s,.string t]] E fun e w'=>iB w q M L true e w':=by
 obtain⟨W,HW⟩:∃W,Hid (E.alloc (.cells #[.int .i64 6,.int .i64 A,.int .i64 C,.int .i64 D,.string s,.string t] 28)=W):=⟨_,rfl⟩
 obtain⟨o,hB,a7,-⟩:=h.boxed 6 A C D s t W HW.out;obtain⟨o0,o1,o2,o3,X,Y,B⟩:=cQ hB;have S:=ae o.blk;have I:W.cell? ⟨w,3,none⟩=some (.slice M.hl.ao M.L.length M.hl.cap):=by rw[aa o.blk];rfl
 by_cases hL:M.L.length=0
 ·have HF:Hid (bZ W w q M L):=o
  rw[hL]at I;clear h o hB;go_enter func11,ntmps11
  go_upto_region 1 with fail
  rw[HW.out];go_wp2;go_ret;exact⟨rfl,_,_,HF.out.more,rh.refl _ _⟩
 ·have a6:=h.len.2.2
  have P:Hid (∀F,Calls prog 12 #[.int .i64 A,.int .i64 M.L.length] F fun e w'=>e=.returned (.int .i64 (eG A M.L.length:Nat))/\w'=F):=fun F=>eQ A M.L.length F hA ⟨by omega,by omega⟩
  have az:=fY A M.L.length (by omega);obtain⟨k,Hk⟩:∃k,Hid (eG A M.L.length=k):=⟨_,rfl⟩
  rw[Hk.out]at P az;obtain⟨⟨a,c,b⟩,hk⟩:∃x,M.L[k]?=some x:=⟨M.L[k],QP az⟩
  have HM:Hid (bZ W w q M L):=o;obtain⟨v,y,r,be⟩:=o.l k a c b hk;obtain⟨gl,V,gz,n⟩:=n8 o.ownL (k:=k) (x:=(a,b)) (by rw[Rq,hk];rfl);replace n:W.cell? ⟨gl,k,none⟩=some (.slice (wD a) b.length b.length):=n;rw[V]at I;have bg:(k:Int)<(M.L.length:Int):=by omega
  have a5:(0:Int)<(M.L.length:Int):=by omega
  have ag:Hid _:=hk;have H8:Hid _:=v;have H9:Hid _:=y
  by_cases p:b.length=0
  ·rw[p]at n
   clear h o hB hk v y r V;go_enter func11,ntmps11
   go_upto_region 1 with fail
   rw[HW.out]
   go_upto_region 26 with fail
   go_quiet ((go_at_call 12;exact Rd (P.out _)))
   have HF:Hid (bZ (W.drewN nq) w q M L):=HM.out.Vb ((ab.refl [] _).drewN nq);go_wp2;go_ret;exact⟨rfl,_,_,HF.out.more,rh.refl _ _⟩
  ·have al:Hid (∀F,Calls prog 12 #[.int .i64 C,.int .i64 b.length] F fun e w'=>e=.returned (.int .i64 (eG C b.length:Nat))/\w'=F):=fun F=>eQ C b.length F hC ⟨by omega,by omega⟩
   have f:=fY C b.length (by omega);obtain⟨i,Hi⟩:∃i,Hid (eG C b.length=i):=⟨_,rfl⟩
   rw[Hi.out]at al f;have U:iG W a b:=by have:=o.sep.all (8,k);rw[v]at this;exact this
   have ar:iG W c b:=by have:=o.sep.all (9,k);rw[y]at this;exact this
   obtain⟨d,rfl⟩:∃d,a=some d:=by
    cases a with
    | none=>rw[U.nil rfl]at p;exact absurd rfl p
    | some d=>exact⟨d,rfl⟩
   obtain⟨j,rfl⟩:∃j,c=some j:=by
    cases c with
    | none=>rw[ar.nil rfl]at p;exact absurd rfl p
    | some j=>exact⟨j,rfl⟩
   have a4:=(U.cells f).2.2
   have J:d≠E.heap.size:=by
    intro e;have:=(uI (some d) b).lt E (by have:=h.sep.all (8,k);rw[(h.l k _ _ b hk).1]at this;exact this) d (Q9.2 rfl);omega
   have aT:Hid _:=hB;have ac:Hid (ld (b.set i (s,t))):=Ir r i hs ht;replace n:W.cell? ⟨gl,k,none⟩=some (.slice (some ⟨d,0,none⟩) b.length b.length):=n;have bf:(i:Int)<(b.length:Int):=by omega
   have bd:(0:Int)<(b.length:Int):=by omega
   have a1:Hid _:=J
   have G:Hid (∀m,ab [] W m->(m.cell? ⟨E.heap.size,2,none⟩=some (.int .i64 C)/\m.cell? ⟨E.heap.size,4,none⟩=some (.string s)/\m.cell? ⟨E.heap.size,5,none⟩=some (.string t)/\E.heap.size<m.heap.size)/\(m.cell? ⟨w,3,none⟩=some (.slice (some ⟨gl,0,none⟩) M.L.length M.hl.cap)/\w<m.heap.size)/\m.cell? ⟨gl,k,none⟩=some (.slice (some ⟨d,0,none⟩) b.length b.length)/\gl<m.heap.size):=fun m kw=>by
    have Z:∀g i,g<W.heap.size->m.cell? ⟨g,i,none⟩=W.cell? ⟨g,i,none⟩:=fun g i hg=>Q6 (kw.block g hg (by simp))
    have z:=kw.size;exact⟨⟨by rw[Z _ _ B];exact o2,by rw[Z _ _ B];exact X,by rw[Z _ _ B];exact Y,by omega⟩,⟨by rw[Z _ _ S];exact I,by omega⟩,by rw[Z _ _ gz];exact n,by omega⟩
   clear h o hB hk v y r V U ar J a4;go_enter func11,ntmps11
   go_upto_region 1 with fail
   rw[HW.out]
   go_upto_region 26 with fail
   go_quiet ((go_at_call 12;exact Rd (P.out _)))
   go_upto_region 28 with fail
   obtain⟨W2,an⟩:∃W2,Hid (W.drewN nq=W2):=⟨_,rfl⟩
   rw[an.out];have ad:Hid (ab [] W W2):=by show ab _ _ _;rw[<-an.out];exact(ab.refl [] _).drewN nq
   clear o0 o1 o2 o3 X Y B I S n gz;obtain⟨⟨o2,X,Y,B⟩,⟨I,S⟩,n,gz⟩:=G.out W2 ad.out
   go_quiet ((go_at_call 12;exact Rd (al.out _)))
   go_upto_region 29 with fail
   obtain⟨H,ap⟩:∃H,Hid (W2.drewN nq=H):=⟨_,rfl⟩
   rw[ap.out];have K:Hid (ab [] W H):=by show ab _ _ _;rw[<-ap.out];exact ad.out.drewN nq
   have ai:Hid (bZ H w q M L):=HM.out.Vb K.out;have N:Hid (iG H (some d) b):=by show iG _ _ _;have:=ai.out.sep.all (8,k);rw[H8.out]at this;exact this
   clear o2 X Y B I S n gz;obtain⟨⟨o2,X,Y,B⟩,⟨I,S⟩,n,gz⟩:=G.out H K.out;obtain⟨⟨d0,d1⟩,df,dz⟩:=N.out.cells f
   go_region
   all_goals
    obtain⟨u,Q⟩:∃u,Hid (((H.setCell ⟨d,i*2,none⟩ (.string s)).setCell ⟨d,i*2+1,none⟩ (.string t)).drew=u):=⟨_,rfl⟩
    rw[Q.out];have af:Hid (ab [d] H u):=by show ab _ _ _;rw[<-Q.out];exact(N.out.wrote f s t).2.drew
    have S4:Hid (nJ u (fk q (8,k) (uI (some d) (b.set i (s,t))))):=by
     show nJ _ _
     refine ai.out.sep.put _ _ (by rw[H8.out];exact af.out) ?_ (fun Z hq=>Q1 (by rw[H8.out];exact hq));rw[<-Q.out];exact(uI _ _).ok [] _ _ (N.out.wrote f s t).1 (ab.refl [] _).drew (by simp)
    have a2:Hid (fk q (8,k) (uI (some d) (b.set i (s,t))) (0,0)=rB w 42 M.cells):=by show _=_;rw[aq _ _ (bn (by decide))];exact HM.out.w0
    have a3:Hid (fk q (8,k) (uI (some d) (b.set i (s,t))) (5,0)=ce M.hc (ig (M.L.map (fun l=>(l.2.1,l.2.2))))):=by show _=_;rw[aq _ _ (bn (by decide))];exact HM.out.lw
    have T:Hid (fk q (8,k) (uI (some d) (b.set i (s,t))) (9,k)=uI (some j) b):=by show _=_;rw[aq _ _ (bn (by decide))];exact H9.out
    obtain⟨b4,aS,-⟩:=S4.out.rowAt a2.out (bn (by decide)) a3.out;have O:Hid (iG u (some j) b):=by show iG _ _ _;have:=S4.out.all (9,k);rw[T.out]at this;exact this
    obtain⟨gr,ax,rz,rc⟩:=n8 aS (k:=k) (x:=(some j,b)) (by rw[Rq,ag.out];rfl);replace rc:u.cell? ⟨gr,k,none⟩=some (.slice (some ⟨j,0,none⟩) b.length b.length):=rc;have c4:u.cell? ⟨w,4,none⟩=some (.slice (some ⟨gr,0,none⟩) M.L.length M.hc.cap):=by rw[aa b4,<-ax];rfl
    clear d0 d1 df dz o2 X Y B I S n gz;obtain⟨⟨d0,d1⟩,df,dz⟩:=O.out.cells f;have S:=ae b4;have B4:=af.out.get (K.out.get aT.out (by simp)) (by simp;exact fun e=>a1.out e.symm);obtain⟨-,-,-,-,X,Y,B⟩:=cQ B4;clear b4 aS ax B4
    go_upto_region 30 with fail
    go_region
    all_goals
     obtain⟨W5,R⟩:∃W5,Hid (((u.setCell ⟨j,i*2,none⟩ (.string s)).setCell ⟨j,i*2+1,none⟩ (.string t)).drew=W5):=⟨_,rfl⟩
     rw[R.out];have a0:Hid (ab [j] u W5):=by show ab _ _ _;rw[<-R.out];exact(O.out.wrote f s t).2.drew
     have S5:Hid (nJ W5 (fk (fk q (8,k) (uI (some d) (b.set i (s,t)))) (9,k) (uI (some j) (b.set i (s,t))))):=by
      show nJ _ _
      refine S4.out.put _ _ (by rw[T.out];exact a0.out) ?_ (fun Z hq=>Q1 (by rw[T.out];exact hq));rw[<-R.out];exact(uI _ _).ok [] _ _ (O.out.wrote f s t).1 (ab.refl [] _).drew (by simp)
     go_wp2;go_ret;exact⟨rfl,HM.out.wrote ag.out Rv ac.out S5.out⟩
theorem Cn{o k:Nat}(h:n.heap[l]?=some (.cells (qK d).toArray 68 (0,0)))(c:o+k<d.length):n.cell? ⟨l,o*2+k*2,none⟩=some (.string (aE d (o+k)))/\n.cell? ⟨l,o*2+k*2+1,none⟩=some (.string (ak d (o+k))):=by
 obtain⟨a,b⟩:=v9 d (o+k) c;rw[Uc]at a b;exact⟨by rw[aa h];simpa using a,by rw[aa h];simpa using b⟩
theorem iG.piece(h:n.heap[l]?=some (.cells (qK d).toArray 68 (0,0)))(o a:Nat)(p:o+a<=d.length):kR n (some ⟨l,o*2,none⟩) ((d.drop o).take a):=by
 intro k m;rw[RQ,RT]at m;have e:∀j,j<a->((d.drop o).take a)[j]?=d[o+j]?:=fun j i=>by rw[Tj,QW i,SV]
 obtain⟨b,c⟩:=Cn h (o:=o) (k:=k) (by omega);have f:aE ((d.drop o).take a) k=aE d (o+k):=by unfold aE;rw[QQ,QQ,e k (by omega)]
 have g:ak ((d.drop o).take a) k=ak d (o+k):=by unfold ak;rw[QQ,QQ,e k (by omega)]
 exact⟨l,o*2,rfl,ae h,by rw[f];exact b,by rw[g];exact c⟩
theorem iG.src{a:Option Nat}(h:iG n a d):kR n (wD a) d:=by
 cases a with
 | none=>rw[h.nil rfl];intro k c;cases c
 | some b =>
  have:=iG.piece (h.blk b rfl) 0 d.length (by omega);rw[U0,RK,UT]at this;exact this
theorem ld.piece(h:ld d)(o n:Nat):ld ((d.drop o).take n):=by
 intro j;have a:=h (o+j);unfold aE ak at *;rw[QQ]at *;rw[Tj]
 split
 ·rw[SV];exact a
 ·exact⟨by show(0:Nat)<=_;omega,by show(0:Nat)<=_;omega⟩
def Dy(w:World)(x m:Nat)(h:Hd)(lo hi lo2 hi2:Nat)(st:Option Nat)(fs:Fs)(e:Ending)(w':World):Prop :=
 e=.returned (.bool true)/\dE w' x fs lo hi st/\(∃h',dn w' m fs h' lo2 hi2 st/\∀q,h'.blk=some q->h.blk=some q∨w.heap.size<=q)/\ab ([x]++m :: h.blk.toList) w w'
theorem DC.kept(a:DC n l s d)(k:ab yu n p)(c:l∉yu)(b:∀q,s.blk=some q->q∉yu):DC p l s d:=by
 obtain⟨e,f,g,h,a⟩:=a;exact⟨e,f,g,h,a.keptS k c b⟩
theorem kR.srcF(h:n.heap[l]?=some (.cells (qK d).toArray 68 (0,0))):mV n (some ⟨l,0,none⟩) d.length d:=by
 refine⟨QR _,fun k c=>?_⟩;obtain⟨a,b⟩:=Cn h (o:=0) (k:=k) (by omega);rw[UT,SJ]at a b;exact⟨l,rfl,ae h,by simpa using a,by simpa using b⟩
theorem Cm(hx:dE b y6 ya y8 y7 g)(E:dn b zt ya M t w g)(T:b.heap[y]?=some (.cells (qK H).toArray 68 (0,0)))(u:∀q,q∈y6 :: ie y8 y7->q∉zt :: (M.blk.toList++ie t w))(X:y≠y6)(W:y≠zt)(V:M.blk≠some y)(hl:z3+D+f<=H.length)(hN:H.length<=1073741824)(hf:ld H) :
  Calls prog 13 #[.pointer (some ⟨y6,0,none⟩),.pointer (some ⟨zt,0,none⟩),.slice (some ⟨y,0,none⟩) H.length H.length,.int .i64 z3,.int .i64 D,.int .i64 f] b fun r l=>Dy b y6 zt M y8 y7 t w (mb (dy ((H.drop z3).take D)) g) (jt ya ((H.drop z3).take D)) r l:=by
 have HX:Hid (dE b y6 ya y8 y7 g):=hx;have ao:Hid (dn b zt ya M t w g):=E;have HB:Hid _:=T;have xz:=hx.anyS.lt;have bz:=ae T;have HF:=(show Hid (ld H) from hf);have m:((H.drop z3).take D).length=D:=by rw[RQ,RT];omega
 have ax:Hid (∀l,ab [] b l->kR l (some ⟨y,0,none⟩) H):=fun l k=>(iG.src (a:=some y) ⟨(fun f=>by cases f),fun q f=>by cases f;exact k.get T (by simp)⟩)
 have S:Hid (∀i h,ab [] b i->(D=0∨h=⟨y,z3*2,none⟩)->kR i (some h) ((H.drop z3).take D)):=fun i h k n=>by
  rcases n with f | f
  ·rw[f];intro j hj;rw[Tq]at hj;cases hj
  ·rw[f];exact iG.piece (k.get T (by simp)) z3 D (by omega)
 have ag:Hid (Calls prog 29 #[.slice (some ⟨y,0,none⟩) H.length H.length] b _):=jE _ H.length H b (ax.out b (ab.refl _ _)) hN
 have ai:Hid (∀i c h,ab [] b i->(D=0∨h=⟨y,z3*2,none⟩)->Calls prog 29 #[.slice (some h) D c] i fun f l=>f=.returned (.slice (some ⟨i.heap.size,0,none⟩) D D)/\l.heap[i.heap.size]?=some (.cells (qK ((H.drop z3).take D)).toArray 68 (0,0))/\ab [] i l):=fun i c h k n=>by
  have:=jE (some h) c ((H.drop z3).take D) i (S.out i h k n) (by rw[m];omega);rw[m]at this;exact this
 have a0:Hid (∀v c h,ab [] b v->(D=0∨h=⟨y,z3*2,none⟩)->Calls prog 30 #[.pointer (some ⟨y6,0,none⟩),.slice (some h) D c] v fun f l=>f=.returned (.int .i64 (dy ((H.drop z3).take D)))/\dE l y6 (jt ya ((H.drop z3).take D)) y8 y7 (mb (dy ((H.drop z3).take D)) g)/\ab [y6] v l):=fun v c h k n=>by
  have:=CL y6 ya ((H.drop z3).take D) (some h) c y8 y7 g v (hx.Vb k) (S.out v h k n) (hf.piece z3 D);rw[m]at this;exact this
 have an:Hid (∀o B2,dn o zt ya M t w g->o.heap[B2]?=some (.cells (qK ((H.drop z3).take D)).toArray 68 (0,0))->Calls prog 31 #[.pointer (some ⟨zt,0,none⟩),.slice (some ⟨B2,0,none⟩) D D] o fun f l=>f=.returned (.int .i64 (dy ((H.drop z3).take D)))/\∃B,dn l zt (jt ya ((H.drop z3).take D)) B t w (mb (dy ((H.drop z3).take D)) g)/\ab (zt :: M.blk.toList) o l/\∀q,B.blk=some q->M.blk=some q∨o.heap.size<=q):=fun o B2 hr s=>by
  have:=Bs zt ya ((H.drop z3).take D) M t w g (some ⟨B2,0,none⟩) ((H.drop z3).take D).length o hr (kR.srcF s) (fun f=>by cases f) (fun h f=>by cases f;exact⟨_,rfl⟩) (fun j _=>hf.piece z3 D j);rw[m]at this;exact this
 have x:Hid (zt<b.heap.size/\∀q,M.blk=some q->q<b.heap.size):=by
  obtain⟨on,p2,p3,p4,hr⟩:=E.anyS;exact⟨ae hr.d,fun q e=>hr.own.lt e⟩
 generalize jt ya ((H.drop z3).take D)=A at *;generalize mb (dy ((H.drop z3).take D)) g=F at *;generalize dy ((H.drop z3).take D)=r at *;generalize (H.drop z3).take D=P at *;have ba:(z3:Int)+(D:Int)<=(H.length:Int):=by omega
 have bc:(z3:Int)+(D:Int)+(f:Int)<=(H.length:Int):=by omega
 have a6:(H.length:Int)<=1073741824:=by omega
 have HD:Hid (y≠y6/\y≠zt/\M.blk≠some y):=⟨X,W,V⟩;have Q:Hid _:=u;have a5:Hid (∀q,M.blk=some q->q<b.heap.size):=x.out.2;clear hx E T hf u X W V m;have C:(D=0/\f=0/\H.length=z3)∨(D=0/\f=0/\¬H.length=z3)∨(¬D+f=0/\¬H.length=z3):=by omega
 rcases C with ⟨rfl,rfl,rfl⟩ | ⟨rfl,rfl,a2⟩ | ⟨a7,a2⟩
 all_goals
  go_enter func13,ntmps13
  go_upto_region 2 with (go_at_call 29;refine QU ag.out ?_;rintro e1 i ⟨rfl,U,k1⟩)
  go_upto_region 3 with (go_at_call 29;refine QU (ai.out i _ _ k1 (by first | exact Q1 trivial | exact Q1 rfl | exact QV rfl)) ?_;rintro e2 v ⟨rfl,s,k2⟩)
  have p:Hid _:=k1.trans k2;have ac:Hid _:=(k2.get U (by simp));have af:Hid _:=s;have a1:Hid (b.heap.size<=i.heap.size):=k1.size;clear U s k1 k2
  go_upto_region 4 with (go_at_call 30;refine QU (a0.out v _ _ p.out (by first | exact Q1 trivial | exact Q1 rfl | exact QV rfl)) ?_;rintro e3 o ⟨rfl,Z,G⟩)
  have ap:Hid (dn o zt ya M t w g):=(ao.out.Vb p.out).kept G (fun q e E=>Q.out y6 Rn (by rw[<-Q9.1 E];exact e));have J:Hid _:=(G.get ac.out (by simp;omega));have L:Hid _:=(G.get af.out (by have:=a1.out;simp;omega));have N:Hid _:=(G.get (p.out.get HB.out (by simp)) (by simp;exact HD.out.1));have aS:Hid (dE o y6 A y8 y7 F):=Z;have R:Hid _:=((p.out.mono (S':=[y6]) (by simp)).trans G);clear Z G
  go_upto_region 5 with (go_at_call 31;refine QU (an.out o _ ap.out L.out) ?_;rintro e4 I ⟨rfl,h4,Y,k4,b4⟩)
  have ar:Hid (∃B,dn I zt A B t w F/\∀q,B.blk=some q->M.blk=some q∨b.heap.size<=q):=⟨h4,Y,fun q e=>(b4 q e).elim Q1 (fun z=>QV (Q3 R.out.size z))⟩;have aT:Hid (dE I y6 A y8 y7 F):=aS.out.kept k4 (fun q e E=>Q.out q e (by rcases Rj.1 E with f | f;rw[f];exact Rn;exact Rm _ (RN _ f)));have K:Hid _:=(k4.get J.out (by intro e;rcases Rj.1 e with f | e;have:=x.out.1;omega;have:=x.out.2 _ (aN e);omega));have O:Hid _:=(k4.get N.out (by intro e;rcases Rj.1 e with f | e;exact HD.out.2.1 f;exact HD.out.2.2 (aN e)));have al:Hid (ab ([y6]++zt :: M.blk.toList) b I):=(R.out.mono (S':=[y6]++zt :: M.blk.toList) (fun q e _=>RN _ e)).trans (k4.mono (fun q e _=>Se _ e));have az:Hid _:=(nC (some ⟨y,0,none⟩) (some ⟨b.heap.size,0,none⟩) H.length H.length H I (iG.src (a:=some y) ⟨(fun f=>by cases f),fun q f=>by cases f;exact O.out⟩) (iG.src (a:=some b.heap.size) ⟨(fun f=>by cases f),fun q f=>by cases f;exact K.out⟩) (by omega));clear Y k4 b4;go_wp2_with (go_at_call 26;refine QU az.out ?_;rintro e5 w5 ⟨rfl,n5,bd⟩);go_ret;have k5:ab [] I (I.drewN n5):=(ab.refl [] _).drewN n5;obtain⟨B,a4,a3⟩:=ar.out;exact⟨rfl,aT.out.Vb k5,⟨B,a4.Vb k5,a3⟩,al.out.trans (k5.mono (by simp))⟩
theorem Ey(K:dE b D H y8 y7 g)(u:dn b f H M t w g)(n:∀q,q∈D :: ie y8 y7->q∉f :: (M.blk.toList++ie t w)) :
  Calls prog 13 #[.pointer (some ⟨D,0,none⟩),.pointer (some ⟨f,0,none⟩),.slice none 0 0,.int .i64 0,.int .i64 0,.int .i64 0] b fun r a=>Dy b D f M y8 y7 t w (mb (dy []) g) (jt H []) r a:=by
 have HX:Hid (dE b D H y8 y7 g):=K;have Q:Hid (dn b f H M t w g):=u;have xz:=K.anyS.lt;have i:Hid (∀(a:World) ao,kR a ao []):=fun a ao j Z=>by cases Z
 have E:ld []:=fun j=>⟨by show(0:Nat)<=_;omega,by show(0:Nat)<=_;omega⟩
 have HC:Hid (∀m,Calls prog 29 #[.slice none 0 0] m fun e a=>e=.returned (.slice (some ⟨m.heap.size,0,none⟩) 0 0)/\a.heap[m.heap.size]?=some (.cells (qK []).toArray 68 (0,0))/\ab [] m a):=fun m=>jE none 0 [] m (i.out _ _) (by simp)
 have W:Hid (∀x,ab [] b x->Calls prog 30 #[.pointer (some ⟨D,0,none⟩),.slice none 0 0] x fun e a=>e=.returned (.int .i64 (dy []))/\dE a D (jt H []) y8 y7 (mb (dy []) g)/\ab [D] x a):=fun x k=>CL D H [] none 0 y8 y7 g x (K.Vb k) (i.out _ _) E
 have P:Hid (∀h I,dn h f H M t w g->h.heap[I]?=some (.cells (qK []).toArray 68 (0,0))->Calls prog 31 #[.pointer (some ⟨f,0,none⟩),.slice (some ⟨I,0,none⟩) 0 0] h fun e a=>e=.returned (.int .i64 (dy []))/\∃s,dn a f (jt H []) s t w (mb (dy []) g)/\ab (f :: M.blk.toList) h a/\∀q,s.blk=some q->M.blk=some q∨h.heap.size<=q):=fun h I J l=>by
  exact Bs f H [] M t w g (some ⟨I,0,none⟩) 0 h J (kR.srcF l) (fun e=>by cases e) (fun ad e=>by cases e;exact⟨_,rfl⟩) (fun j Z=>by cases Z)
 have ag:Hid (f<b.heap.size/\∀q,M.blk=some q->q<b.heap.size):=by
  obtain⟨on,p2,p3,p4,J⟩:=u.anyS;exact⟨ae J.d,fun q c=>J.own.lt c⟩
 generalize jt H []=p at *;generalize mb (dy []) g=v at *;generalize dy []=r at *;have B:Hid _:=n;clear K u n E;go_enter func13,ntmps13
 go_upto_region 2 with (go_at_call 29;refine QU (HC.out b) ?_;rintro e1 m ⟨rfl,Y,k1⟩)
 go_upto_region 3 with (go_at_call 29;refine QU (HC.out m) ?_;rintro e2 x ⟨rfl,l,k2⟩)
 have o:Hid _:=k1.trans k2;have N:Hid _:=l;have X:Hid (b.heap.size<=m.heap.size):=k1.size;clear Y l k1 k2
 go_upto_region 4 with (go_at_call 30;refine QU (W.out x o.out) ?_;rintro e3 h ⟨rfl,G,L⟩)
 have R:Hid (dn h f H M t w g):=(Q.out.Vb o.out).kept L (fun q c u=>B.out D Rn (by rw[<-Q9.1 u];exact c));have A:Hid _:=(L.get N.out (by have:=X.out;simp;omega));have U:Hid (dE h D p y8 y7 v):=G;have C:Hid _:=((o.out.mono (S':=[D]) (by simp)).trans L);clear G L
 go_upto_region 5 with (go_at_call 31;refine QU (P.out h _ R.out A.out) ?_;rintro e4 y ⟨rfl,h4,F,k4,b4⟩)
 have S:Hid (∃s,dn y f p s t w v/\∀q,s.blk=some q->M.blk=some q∨b.heap.size<=q):=⟨h4,F,fun q c=>(b4 q c).elim Q1 (fun z=>QV (Q3 C.out.size z))⟩;have V:Hid (dE y D p y8 y7 v):=U.out.kept k4 (fun q c u=>B.out q c (by rcases Rj.1 u with e | e;rw[e];exact Rn;exact Rm _ (RN _ e)));have O:Hid (ab ([D]++f :: M.blk.toList) b y):=(C.out.mono (S':=[D]++f :: M.blk.toList) (fun q c _=>RN _ c)).trans (k4.mono (fun q c _=>Se _ c));have T:Hid (Calls prog 26 #[.slice none 0 0,.slice (some ⟨b.heap.size,0,none⟩) 0 0] y _):=nC none (some ⟨b.heap.size,0,none⟩) 0 0 [] y (i.out _ _) (i.out _ _) (by simp);clear F k4 b4;go_wp2_with (go_at_call 26;refine QU T.out ?_;rintro e5 w5 ⟨rfl,n5,ai⟩);go_ret;have k5:ab [] y (y.drewN n5):=(ab.refl [] _).drewN n5;obtain⟨s,af,ac⟩:=S.out;exact⟨rfl,V.out.Vb k5,⟨s,af.Vb k5,ac⟩,O.out.trans (k5.mono (by simp))⟩
def ON(w:World)(x m:Nat)(h:Hd)(lo hi lo2 hi2:Nat)(fs:Fs)(e:Ending)(w':World):Prop :=
 e=.returned (.bool true)/\(∃st lo1 hi1 lo3 hi3,dE w' x fs lo1 hi1 st/\nH w.heap.size lo hi lo1 hi1/\dn w' m fs h lo3 hi3 st/\nH w.heap.size lo2 hi2 lo3 hi3/\(∀q,q∈x :: ie lo1 hi1->q∉m :: (h.blk.toList++ie lo3 hi3)))/\ab ([x]++m :: h.blk.toList) w w'
theorem AN(hx:dE b D H y8 y7 g)(h:dn b f H M t w g)(an:∀j,j<H.length->(ak H j).size<=1024)(x:∀q,q∈D :: ie y8 y7->q∉f :: (M.blk.toList++ie t w)) :
  Calls prog 16 #[.pointer (some ⟨D,0,none⟩),.pointer (some ⟨f,0,none⟩),.string y5] b fun e J=>ON b D f M y8 y7 t w H e J:=by
 have al:H.length<=4:=by obtain⟨on,p2,p3,p4,r⟩:=h.anyS;exact r.le
 obtain⟨⟨r,s,l,c⟩,q,i,h1,h2⟩:=KP D f H M y8 y7 t w g y5 b hx al an;have H1:Hid (Calls prog 36 #[.pointer (some ⟨D,0,none⟩),.string y5] b fun e J=>e=.returned (.tuple #[.agg #[.int .i64 r,.string s,.int .i64 l,.int .i64 c],.int .i64 q])/\(∃d a,dE J D H d a i/\nH b.heap.size y8 y7 d a)/\ab [D] b J):=h1;have H2:Hid (∀y,dn y f H M t w g->Calls prog 37 #[.pointer (some ⟨f,0,none⟩),.string y5] y fun e J=>e=.returned (.tuple #[.agg #[.int .i64 r,.string s,.int .i64 l,.int .i64 c],.int .i64 q])/\(∃d a,dn J f H M d a i/\nH y.heap.size t w d a)/\ab [f] y J):=h2;have Z:Hid (dn b f H M t w g):=h;have A:Hid _:=x;have U:Hid ((∀q,q∈D :: ie y8 y7->q<b.heap.size)/\∀q,q∈f :: (M.blk.toList++ie t w)->q<b.heap.size):=⟨hx.lt,h.lt⟩;clear h1 h2 hx h x;go_enter func16,ntmps16
 go_upto_region 2 with (go_at_call 36;refine QU H1.out ?_;rintro e1 K ⟨rfl,⟨d,a,I,n1⟩,k1⟩)
 obtain⟨k,E⟩:∃k,Hid (K.alloc (.cells #[.int .i64 r,.string s,.int .i64 l,.int .i64 c] 87)=k):=⟨_,rfl⟩
 have B:Hid (ab [] K k):=by show ab _ _ _;rw[<-E.out];exact(ab.refl [] _).alloc _
 have V:Hid (k.heap[K.heap.size]?=some (.cells #[.int .i64 r,.string s,.int .i64 l,.int .i64 c] 87 (0,0))):=by show _=_;rw[<-E.out];exact QS _ _
 have ag:Hid (dE k D H d a i):=I.Vb B.out;have Q:Hid (nH b.heap.size y8 y7 d a):=n1;have X:Hid (a<=K.heap.size):=I.z;have P:Hid (ab [D] b k):=k1.trans (B.out.mono (by simp));have ad:Hid (dn k f H M t w g):=Z.out.kept P.out (fun q m h=>A.out D Rn (by rw[<-Q9.1 h];exact m));have R:Hid (K.heap.size<=k.heap.size):=B.out.size;have G:Hid (b.heap.size<=K.heap.size):=k1.size;rw[E.out];clear I k1 n1
 go_upto_region 3 with (go_at_call 37;refine QU (H2.out k ad.out) ?_;rintro p y ⟨rfl,⟨o,n,S,n3⟩,k2⟩)
 obtain⟨u,F⟩:∃u,Hid (y.alloc (.cells #[.int .i64 r,.string s,.int .i64 l,.int .i64 c] 87)=u):=⟨_,rfl⟩
 have O:Hid (ab [] y u):=by show ab _ _ _;rw[<-F.out];exact(ab.refl [] _).alloc _
 have L:u.heap[y.heap.size]?=some (.cells #[.int .i64 r,.string s,.int .i64 l,.int .i64 c] 87 (0,0)):=by rw[<-F.out];exact QS _ _
 have C:Hid (ab [f] k u):=k2.trans (O.out.mono (by simp))
 have N:Hid (∀q,q∈D :: ie d a->q∈D :: ie y8 y7∨(b.heap.size<=q/\q<K.heap.size)):=fun q m=>by
  rcases Rj.1 m with e | e
  ·exact Q1 (by rw[e];exact Rn)
  ·rcases Q.out.mem e with p | p
   ·exact Q1 (Rm _ p)
   ·exact QV ⟨p,QX (ng.1 e).2 X.out⟩
 have ai:Hid (dE u D H d a i):=ag.out.kept C.out (fun q m h=>by
  rw[Q9.1 h]at m
  rcases N.out f m with e | e
  ·exact A.out f e Rn
  ·have:=U.out.2 f Rn;omega)
 have af:Hid (dn u f H M o n i):=S.Vb O.out
 have ac:Hid (nH b.heap.size t w o n):=by
  rcases n3 with e | e
  ·exact Q1 e
  ·exact QV (Q3 (Q3 G.out R.out) e)
 have W:Hid (∀q,q∈D :: ie d a->q∉f :: (M.blk.toList++ie o n)):=fun q m h=>by
  have T:∀q,q∈f :: (M.blk.toList++ie o n)->q∈f :: (M.blk.toList++ie t w)∨k.heap.size<=q:=fun q h=>by
   rcases Rj.1 h with e | e
   ·exact Q1 (by rw[e];exact Rn)
   ·rcases Rr.1 e with e | e
    ·exact Q1 (Rm _ (RN _ e))
    ·rcases nH.mem (z:=k.heap.size) (lo:=t) (hi:=w) n3 e with e | e
     ·exact Q1 (Rm _ (Se _ e))
     ·exact QV e
  have z1:=G.out;have z2:=R.out
  rcases N.out q m with e | e
  ·rcases T q h with p | p
   ·exact A.out q e p
   ·have:=U.out.1 q e;omega
  ·rcases T q h with p | p
   ·have:=U.out.2 q p;omega
   ·omega
 have v:=C.out.get V.out (by have:=U.out.2 f Rn;have:=G.out;simp;omega);have Y:Hid (ab ([D]++f :: M.blk.toList) b u):=(P.out.mono (fun q m _=>RN _ m)).trans (C.out.mono (fun q m _=>Se _ (by rw[Q9.1 m];exact Rn)));rw[F.out];clear S k2 n3;obtain⟨⟨a0,a1,a2,a3⟩,-,az⟩:=mz v;obtain⟨⟨b0,b1,b2,b3⟩,-,bz⟩:=mz L;clear v L;go_wp2;go_ret;exact⟨rfl,⟨i,d,a,o,n,ai.out,Q.out,af.out,ac.out,W.out⟩,Y.out⟩
end Go.Proofs.YtpddjjabfbfifaaGreat
