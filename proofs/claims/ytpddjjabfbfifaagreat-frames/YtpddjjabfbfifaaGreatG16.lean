import Derived.Deep.RegionHeld3
import Derived.Deep.RegionLaw
import Derived.Deep.CutRange
import Derived.Test.YtpddjjabfbfifaaGreatG07
import Derived.Test.YtpddjjabfbfifaaGreatG15
namespace Go.Proofs.YtpddjjabfbfifaaGreat
open Go.RowKit Tryz
set_option maxHeartbeats 0
variable{z4:List Tk}{zb:List Sm}{l T M vs:Nat}{ws:Nat->Bool}{yy:Db}{yz:List ik}{y9 yd:ByteArray}{wc:List St}{vb:Nat->Hd}{n N:World}{yu:List Nat}{y v3:Fs}{z6 x7:Option Nat}{L yf:Hd}{wd:Int}{a wz:Nat×Nat->It}{yg:Nat×Nat}{wu wv:dN}{vc:List Value}{x8:Program}{u3:Array Oper}{x5:Oper}{v5:Act}{u4:Exit->Act->World->Prop}(y6 zt S:Nat)(y4:ByteArray)(x:List Tk)(x6:Option Addr)(z3:Nat)(v:List Sm)(wq:Option Addr)(d:Nat)(o:List ik)(yv:Option Addr)(f:Nat)(ww va:Value)(ya:Fs)(yr:ByteArray)(H:Fs)(i:Hd)(y8:Nat)(v0:Option Addr)(y7 I w:Nat)(D:Option Nat)(ys yt:Value)(y5:ByteArray)(vd:List Nat)(k:Nat)(b:World)(g:Nat×Nat->It)
def jO(T:List Tk)(S:List Sm)(j k:Nat):ByteArray:=((bu T (au S j).h).take k).foldl (fun s x=>s++⟨#[32]⟩++x) (bG T (au S j)++⟨#[32]⟩++(au S j).k)
theorem sS(h:k<(bu x (au v w).h).length):jO x v w (k+1)=jO x v w k++⟨#[32]⟩++(bu x (au v w).h)[k]:=by
 unfold jO;rw[Td,QP h,Sw];rfl
theorem Ah(c:(bG z4 (au zb l)).size<=100000)(d:(au zb l).k.size<=100000)(a:∀x∈bu z4 (au zb l).h,x.size<=100000)(k:Nat)(e:k<=(bu z4 (au zb l).h).length):(jO z4 zb l k).size<=200001+k*100001:=by
 induction k with
 | zero =>
  unfold jO;simp only[List.take_zero,List.foldl_nil,ByteArray.size_append,mG];omega
 | succ k b =>
  have f:=a _ (Rb (show k<(bu z4 (au zb l).h).length by omega));rw[sS z4 zb l k (by omega)];simp only[ByteArray.size_append,mG];have:=b (by omega);omega
set_option maxRecDepth 100000
theorem IG(z:b.heap[y6]?=some (.cells #[ww,va,.pointer (some ⟨zt,0,none⟩),ys,yt] 85 (0,0)))(u:fz b zt x x6 z3 v yv f)(A:S<v.length)(hT:x.length<=10000)(Z:cU x v[S].h)(ha:v[S].a<x.length)(X:(bG x (au v S)).size<=100000)(Y:(au v S).k.size<=100000)(O:∀x∈bu x (au v S).h,x.size<=100000)(hl:(bu x (au v S).h).length<=10000) :
  Calls prog 63 #[.pointer (some ⟨y6,0,none⟩),.int .i64 S] b fun e U=>e=.returned (.string (kn x v S))/\ab [] b U:=by
 have N:au v S=v[S]:=by unfold au;rw[QQ,QP A];rfl
 have J:Hid _:=nQ zt S x x6 z3 v yv f b u A ha;have E:Hid (∀c,ab [] b c->Calls prog 72 #[.pointer (some ⟨zt,0,none⟩),.int .i64 S] c fun e U=>∃t,e=.returned (.slice t.ao (bu x v[S].h).length t.cap)/\vj c U t (bu x v[S].h)):=fun c k=>kD zt S x x6 z3 v yv f c (u.Vb k) A (by omega) Z
 have o:Hid (kn x v S=jO x v S (bu x (au v S).h).length):=by show _=_;unfold kn jO;rw[RK]
 have m:Hid _:=Ah X Y O;have p:Hid _:=sS x v S;have I:Hid (jO x v S 0=bG x v[S]++⟨#[32]⟩++v[S].k):=by show _=_;unfold jO;rw[N];rfl
 have G:Hid (fz b zt x x6 z3 v yv f):=u;have K:Hid _:=z;have W:Hid _:=O;rw[N]at X Y hl o m p W;obtain⟨r,rfl,w,q0,q1,q2,D⟩:=u.s.2 S v[S] (QP A);have R:b.cell? ⟨y6,2,none⟩=some (.pointer (some ⟨zt,0,none⟩)):=by rw[aa z];rfl
 have T:=ae z;have af:(S:Int)<(v.length:Int):=by omega
 have l:Hid (b.cell? ⟨r,S*4+3,none⟩=some (.string v[S].k)/\r<b.heap.size):=⟨D,w⟩;generalize v[S].k=kk at *;generalize bG x v[S]=Q at *;generalize bu x v[S].h=B at *;clear u z O N q0 q1 q2 D w Z;go_enter func63,ntmps63
 go_upto_region 2 with (go_at_call 87;refine QU J.out ?_;rintro e c ⟨rfl,C⟩)
 have d:Hid _:=C;have q:Hid _:=(C.get K.out (by simp));have F:Hid _:=G.out.Vb C;clear R T C;have R:c.cell? ⟨y6,2,none⟩=some (.pointer (some ⟨zt,0,none⟩)):=by rw[aa q.out];rfl
 have T:=ae q.out;obtain⟨-,d1,bz⟩:=F.out.cells;have D:c.cell? ⟨r,S*4+3,none⟩=some (.string kk):=by rw[Q6 (d.out.block r l.out.2 (by simp))];exact l.out.1
 have gz:r<c.heap.size:=QX l.out.2 d.out.size;have n:Hid _:=E.out c d.out;have z1:(Q++⟨#[32]⟩:ByteArray).size<=100001:=by simp only[ByteArray.size_append,mG];omega
 go_upto_region 3 with fail
 go_upto_region 4 with (go_at_call 72;refine QU n.out ?_;rintro e w2 ⟨t,rfl,V⟩)
 have L:Hid _:=V.own.srcX;have H:Hid _:=d.out.trans V.kept;rw[<-I.out];clear R T d1 bz D gz V z1;obtain⟨P,ac⟩:=t;go_wp2
 go_loopg [5,7] B.length (fun g tv i wr=>∃k:Nat,k<=B.length/\g=B.length-k/\i=.int .i64 k/\tv=.string (jO x v S k)/\w2=wr)
 case atStart=>exact⟨0,by omega,by omega,rfl,rfl,rfl⟩
 case round =>
  obtain⟨k,hk,hg,rfl,rfl,rfl⟩:=hrel
  by_cases j:k<B.length
  ·have an:=m.out k hk
   have al:=m.out (k+1) j;have hx:=W.out _ (Rb j);have HT:Hid _:=(p.out k j).symm;have ag:(k:Int)<(B.length:Int):=by omega
   obtain⟨gB,M,ad,cB⟩:=L.out k _ (QP j);replace M:P=some ⟨gB,0,none⟩:=M;subst M;generalize B[k]=y at *;have ap:(jO x v S k++⟨#[32]⟩:ByteArray).size<=200002+k*100001:=by simp only[ByteArray.size_append,mG];omega
   generalize jO x v S k=tx at *;go_wp2
   go_roundg (B.length-(k+1))
   case measure=>omega
   case rel=>exact⟨k+1,by omega,rfl,by go_num,congrArg Value.string HT.out,rfl⟩
  ·have e:k=B.length:=by omega
   subst e;have ai:¬(B.length:Int)<(B.length:Int):=by omega
   go_wp2;go_ret;exact⟨congrArg (fun s=>Ending.returned (Value.string s)) o.out.symm,H.out⟩
def Na(RS:List ik)(lab:ByteArray)(a:Nat):Bool:=(bne (ff RS a).Vc 0)&&((ff RS a).label.toList==lab.toList)
def uZ(RS:List ik)(lab:ByteArray):Option Nat:=(List.range RS.length).find? (Na RS lab)
theorem D0(c:T<l)(a:∀i,i<T->ws i=false)(h:ws T=true):(List.range l).find? ws=some T:=by
 rw[Up];refine⟨h,T,by rw[Tf];exact c,by rw[Ub],fun j b=>?_⟩;rw[Ub,a j b];rfl
theorem Lk(a:∀i,i<l->ws i=false):(List.range l).find? ws=none:=by
 rw[Sk];intro i b;rw[a i (Ra.1 b)];simp
set_option maxRecDepth 512
theorem Ky(a:b.heap[S]?=some (.cells #[ww,.bool false,va,ys,yt] 85 (0,0))) :
  Calls prog 61 #[.pointer (some ⟨S,0,none⟩),.string y4] b fun e c=>e=.returned (.tuple #[.int .i64 0,.int .i64 7])/\c=b:=by
 have d:b.cell? ⟨S,1,none⟩=some (.bool false):=by rw[aa a];rfl
 have f:=ae a;clear a;go_enter func61,ntmps61;go_wp2;exact QY (v:=.tuple #[.int .i64 0,.int .i64 7]) (by simp[results,results61,go_sem]) rfl ⟨rfl,rfl⟩
def MY(RS:List ik)(lab:ByteArray)(w:World)(e:Ending)(w':World):Prop:=e=.returned (.tuple #[.int .i64 ((uZ RS lab).getD 0:Nat),.int .i64 (if(uZ RS lab).isSome=true then 0 else 8)])/\w'=w
set_option maxRecDepth 100000
theorem Bb(j:b.heap[S]?=some (.cells #[va,.bool true,ys,yt,.slice yv o.length f] 85 (0,0)))(t:cm b yv 6 jJ o)(H:o.length<=100000) :
  Calls prog 61 #[.pointer (some ⟨S,0,none⟩),.string y4] b fun e D=>MY o y4 b e D:=by
 have M:b.cell? ⟨S,1,none⟩=some (.bool true):=by rw[aa j];rfl
 have N:b.cell? ⟨S,4,none⟩=some (.slice yv o.length f):=by rw[aa j];rfl
 have O:=ae j;have v:=(show Hid (cm b yv 6 jJ o) from t);clear j t;go_enter func61,ntmps61;go_wp2
 go_loopg [6] o.length (fun g i wr=>∃k:Nat,k<=o.length/\g=o.length-k/\i=.int .i64 k/\Hid (∀i,i<k->Na o y4 i=false)/\b=wr)
 case atStart=>exact⟨0,by omega,by omega,rfl,(fun i h=>by omega),rfl⟩
 case round =>
  obtain⟨k,G,F,rfl,d,rfl⟩:=hrel
  by_cases a:k<o.length
  ·have z:(k:Int)<(o.length:Int):=by omega
   have s:o[k]?=some (ff o k):=by unfold ff;rw[QQ,QP a];rfl
   obtain⟨E,rfl,x,n⟩:=v.out k _ s;have q:=n 0 _ rfl;have w:=n 1 _ rfl;rw[Tg]at q;have c:Hid (Na o y4 k=((bne (ff o k).Vc 0)&&((ff o k).label.toList==y4.toList))):=rfl;clear n s;generalize ff o k=r at *;obtain⟨B,C,L,J,K,I⟩:=r;simp only at c q w
   cases p:(C != 0)
   ·have l:Hid (∀i,i<k+1->Na o y4 i=false):=fun i y=>by
     by_cases e:i=k
     ·rw[e,c.out,p];rfl
     ·exact d.out i (by omega)
    go_wp2
    go_roundg (o.length-(k+1))
    case measure=>omega
    case rel=>exact⟨k+1,by omega,rfl,by go_num,l,rfl⟩
   ·cases u:(B.toList==y4.toList)
    ·have l:Hid (∀i,i<k+1->Na o y4 i=false):=fun i y=>by
      by_cases e:i=k
      ·rw[e,c.out,p,u];rfl
      ·exact d.out i (by omega)
     go_wp2
     go_roundg (o.length-(k+1))
     case measure=>omega
     case rel=>exact⟨k+1,by omega,rfl,by go_num,l,rfl⟩
    ·have m:Hid (uZ o y4=some k):=D0 a d.out (by rw[c.out,p,u];rfl)
     go_wp2;exact QY (v:=.tuple #[.int .i64 k,.int .i64 0]) (by simp[results,results61,go_sem]) rfl ⟨by rw[m.out];rfl,rfl⟩
  ·have e:k=o.length:=by omega
   subst e;have A:¬(o.length:Int)<(o.length:Int):=by omega
   have m:Hid (uZ o y4=none):=Lk d.out;go_wp2;exact QY (v:=.tuple #[.int .i64 0,.int .i64 8]) (by simp[results,results61,go_sem]) rfl ⟨by rw[m.out];rfl,rfl⟩
def Km(L:List ByteArray)(w:World)(e:Ending)(w':World):Prop:=∃h',e=.returned (.tuple #[.slice h'.ao L.length h'.cap,.int .i64 0])/\gw w w' h' (aB L)
theorem Ee(hd:b.heap[y6]?=some (.cells #[ys,.bool true,.pointer (some ⟨zt,0,none⟩),yt,.slice v0 o.length w] 85 (0,0)))(hS:cm b v0 6 jJ o)(hl:o.length<=100000)(hD:fz b zt x x6 z3 v wq d)(ok:nK x v S)(hn:S<v.length)(hE:cU x (au v S).h)(ha:uZ o y4=some S)(an:∀J,ab [] b J->∀j,(j∈bW x v S∨j=S)->Calls prog 63 #[.pointer (some ⟨y6,0,none⟩),.int .i64 j] J fun e F=>e=.returned (.string (kn x v j))/\ab [] J F)(hp:∀p∈fH x v S,p.1.size<=100000/\p.2.size<=100000)(hh:(bW x v S).length<=10000)(hq:(fH x v S).length<=100000000) :
  Calls prog 40 #[.pointer (some ⟨y6,0,none⟩),.string y4] b fun e F=>Km (pL x v S) b e F:=by
 have ar:Hid (Calls prog 61 #[.pointer (some ⟨y6,0,none⟩),.string y4] b fun e F=>e=.returned (.tuple #[.int .i64 S,.int .i64 0])/\F=b):=(Bb y6 y4 o v0 w ys _ yt b hd hS hl).mono (fun e F h=>by
  obtain⟨h1,z⟩:=h;rw[ha]at h1;exact⟨h1,z⟩)
 have aT:Hid _:=nP zt S x x6 z3 v wq d b hD ok hn hE;have bd:Hid (∀J,ab [] b J->Calls prog 64 #[.pointer (some ⟨zt,0,none⟩),.int .i64 S] J fun e F=>∃t,e=.returned (.slice t.ao (fH x v S).length t.cap)/\gw J F t (lz (fH x v S))):=fun J k=>wI zt S x x6 z3 v wq d J (hD.Vb k) ok hn hE
 have Z:Hid _:=an;have be:Hid _:=hp;have HV:Hid _:=hd;have v2:b.cell? ⟨y6,2,none⟩=some (.pointer (some ⟨zt,0,none⟩)):=by rw[aa hd];rfl
 have vz:=ae hd;have Y:Hid (pL x v S=(bW x v S).map (kn x v)++(fH x v S).map fh++[kn x v S]):=rfl;obtain⟨iS,T,C,D,E⟩:=Re js;generalize pL x v S=LL at *;generalize bW x v S=a at *;generalize fH x v S=c at *;clear hd hS hD ok hE an hp ha;go_enter func40,ntmps40
 go_upto_region 5 with (go_at_call 61;refine QU ar.out ?_;rintro e w9 ⟨rfl,ap⟩;rw[ap];clear ap)
 go_upto_region 6 with (go_at_call 62;refine QU aT.out ?_;rintro e w1 ⟨h1,rfl,x1⟩)
 have M:Hid _:=x1.kept;have a4:Hid _:=x1.own.srcN;obtain⟨bg,bv⟩:=h1;have a6:Hid (gw w1 w1 ⟨none,0⟩ (aB [])):=⟨QZ _ _ _ _,(by intro k hk;cases hk),ab.refl _ _⟩;clear x1 v2 vz;go_wp2
 go_loopg [8,10] a.length (fun g bp i wr=>∃(k:Nat) (t:Hd),k<=a.length/\g=a.length-k/\bp=.slice t.ao k t.cap/\i=.int .i64 k/\Hid (gw w1 wr t (aB ((a.take k).map (kn x v)))))
 case atStart=>exact⟨0,⟨none,0⟩,by omega,rfl,rfl,rfl,a6⟩
 case round =>
  obtain⟨k,t,hk,hg,rfl,rfl,W⟩:=hrel;have N:Hid _:=M.out.trans W.out.kept
  by_cases s:k<a.length
  ·have bo:(k:Int)<(a.length:Int):=by omega
   obtain⟨gH,eH,bk,cH⟩:=(qD.Vb a4.out W.out.kept) k _ (QP s);replace eH:bg=some ⟨gH,0,none⟩:=eH;subst eH;have a3:Hid _:=Z.out wr N.out a[k] (Q1 (Rb s));have Q:Hid ((a.take k).map (kn x v)++[kn x v a[k]]=(a.take (k+1)).map (kn x v)):=by show _=_;rw[Td,QP s,Ry];rfl
   have q:Hid (((a.take k).map (kn x v)).length=k):=by show _=_;rw[Ri,RQ];omega
   generalize (a.take k).map (kn x v)=O at *;generalize kn x v a[k]=ln at *;generalize a[k]=j at *
   go_upto_region 10 with (go_at_call 63;refine QU a3.out ?_;rintro e w2 ⟨rfl,k2⟩)
   have H:Hid _:=W.out.Vb k2;have A:=H.out.own;have B:Hid ((aB O).n<=900000000):=by show O.length<=_;rw[q.out];omega
   have r:Hid ((aB O).n=k):=q.out;clear cH bk k2;go_wp2_with (at_builtin;refine bN w2 rfl (.tmp 42) (.tmp 44) 61 rfl iS (.string ⟨#[]⟩) 16 t (aB O) [.string ln] underlying61 T C D E rfl Rc (by rw[r.out];simp[Act.eval]) A B.out (by omega) (by simp[Act.eval]) rfl (by simp[Value.oneCell']) ?_;intro h5 w5 m l;rw[dr]at m;have P:Hid _:=H.out.Vl l m;clear m l)
   go_roundg (a.length-(k+1))
   case measure=>omega
   case rel=>exact⟨k+1,h5,by omega,rfl,by rw[r.out],by go_num,by rw[<-Q.out];exact P⟩
  ·have e:k=a.length:=by omega
   subst e;have bx:¬(a.length:Int)<(a.length:Int):=by omega
   rw[RK]at W;have af:Hid _:=(N.out.get HV.out (by simp));have v2:wr.cell? ⟨y6,2,none⟩=some (.pointer (some ⟨zt,0,none⟩)):=by rw[aa af.out];rfl
   have vz:=ae af.out;have bf:Hid _:=bd.out wr N.out
   go_upto_region 12 with (go_at_call 64;refine QU bf.out ?_;rintro e w2 ⟨hP,rfl,x2⟩)
   have ba:Hid (cm w2 hP.ao 2 CJ c):=aw.srcG (f:=CJ) x2.own (fun _=>rfl);have H:Hid _:=W.out.Vb x2.kept
   have ax:Hid (∀g,hP.ao=some ⟨g,0,none⟩->t.blk≠some g):=fun g G hb=>by
    have h1:=x2.far g (tK G);have z:=W.out.own.lt hb;omega
   have aS:Hid (∀g,hP.ao=some ⟨g,0,none⟩->g<w2.heap.size):=fun g G=>x2.own.lt (tK G)
   obtain⟨R,bs⟩:=hP;clear v2 vz x2;have a7:Hid ((a.map (kn x v)).length=a.length):=Ri _;generalize a.map (kn x v)=O at *;have ag:Hid (gw w1 w2 t (aB (O++(c.take 0).map fh))):=by show gw _ _ _ _;rw[Tq,UA,Rl];exact H.out
   go_wp2
   go_loopg [8,13] c.length (fun g bp i V=>∃(k:Nat) (z:Hd),k<=c.length/\g=c.length-k/\bp=.slice z.ao (a.length+k) z.cap/\i=.int .i64 k/\Hid (gw w1 V z (aB (O++(c.take k).map fh)))/\Hid (cm V R 2 CJ c)/\Hid (∀g,R=some ⟨g,0,none⟩->z.blk≠some g/\g<V.heap.size))
   case atStart=>exact⟨0,t,by omega,rfl,rfl,rfl,ag,ba,fun g G=>⟨ax.out g G,aS.out g G⟩⟩
   case round =>
    obtain⟨k,z,bw,bj,rfl,rfl,u,ad,L⟩:=hrel;have a0:Hid _:=M.out.trans u.out.kept;have q:Hid ((O++(c.take k).map fh).length=a.length+k):=by show _=_;rw[Q0,a7.out,Ri,RQ];omega
    by_cases s:k<c.length
    ·have bo:(k:Int)<(c.length:Int):=by omega
     obtain⟨I,eP,bl,hc⟩:=ad.out k _ (QP s);replace eP:R=some ⟨I,0,none⟩:=eP;subst eP;have c0:=hc 0 _ rfl;have c1:=hc 1 _ rfl;rw[Tg]at c0;obtain⟨z0,z1⟩:=be.out _ (Rb s);have Q:Hid (O++(c.take k).map fh++[fh c[k]]=O++(c.take (k+1)).map fh):=by show _=_;rw[Td,QP s,Ry,Sy];rfl
     have ac:Hid (fh c[k]=⟨#[36,100,32]⟩++c[k].1++⟨#[32]⟩++c[k].2):=rfl;clear hc;generalize c[k]=pp at *;obtain⟨U,py⟩:=pp;simp only at ac z0 z1 c0 c1;generalize O++(c.take k).map fh=y at *;have s3:(⟨#[36,100,32]⟩:ByteArray).size=3:=rfl;have y1:(⟨#[36,100,32]⟩++U:ByteArray).size<=100003:=by simp only[ByteArray.size_append,s3];omega
     have y2:(⟨#[36,100,32]⟩++U++⟨#[32]⟩:ByteArray).size<=100004:=by simp only[ByteArray.size_append,s3,mG];omega
     have n1:¬9223372036854775807<3+U.size:=by omega
     have n2:¬9223372036854775807<3+U.size+1:=by omega
     have n3:¬9223372036854775807<3+U.size+1+py.size:=by omega
     have A:=u.out.own;have B:Hid ((aB y).n<=900000000):=by show y.length<=_;rw[q.out];omega
     have r:Hid ((aB y).n=a.length+k):=q.out
     have HS:Hid (∀(X:World) (h6:Hd),bt wr X z h6->X.cell? ⟨I,k*2,none⟩=some (.string U)/\X.cell? ⟨I,k*2+1,none⟩=some (.string py)):=fun X h6 gr=>by
      have hb:=gr.kept.block I bl (fun hm=>(L.out I rfl).1 (aN hm));exact⟨by rw[Q6 hb];exact c0,by rw[Q6 hb];exact c1⟩
     go_upto_region 15 with fail
     go_region_held3 (fun F=>F.cell? ⟨I,k*2,none⟩=some (.string U)/\F.cell? ⟨I,k*2+1,none⟩=some (.string py)) (go_keep) ((refine bH wr (by rfl) (.tmp 58) (.tmp 72) 61 (by rfl) iS (.string ⟨#[]⟩) 16 z (aB y) [.string _] underlying61 T C D E rfl Rc (by rw[r.out];simp[Act.eval]) A B.out (by omega) (by simp[Act.eval]) rfl (by simp[Value.oneCell']) ?_;intro al K w5 m l;obtain⟨y0,y3⟩:=HS.out w5 _ l))
     all_goals
      rw[dr,<-ac.out,Q.out]at m;have a5:Hid _:=u.out.Vl l m;have bc:Hid (cm w5 (some ⟨I,0,none⟩) 2 CJ c):=ad.out.keptS l.kept (fun g G hm=>(L.out g G).1 (aN hm))
      have az:Hid (∀g,(some ⟨I,0,none⟩:Option Addr)=some ⟨g,0,none⟩->(⟨al,K⟩:Hd).blk≠some g/\g<w5.heap.size):=fun g G=>by
       obtain⟨f1,f2⟩:=L.out g G;have hs:=l.kept.size;refine⟨fun e=>?_,by omega⟩
       rcases l.blk with e2 | ⟨g2,e2,bj⟩
       ·rw[e2]at e;exact f1 e
       ·rw[e2]at e;cases e;omega
      clear m l;go_wp2
      go_roundg (c.length-(k+1))
      case measure=>omega
      case rel=>exact⟨k+1,⟨al,K⟩,by omega,rfl,by rw[r.out];rfl,by go_num,a5,bc,az⟩
    ·have e:k=c.length:=by omega
     subst e;have br:¬(c.length:Int)<(c.length:Int):=by omega
     rw[RK]at u q;have a1:Hid _:=Z.out wr a0.out S (QV rfl);generalize O++c.map fh=y at *;generalize kn x v S=la at *
     go_upto_region 17 with (go_at_call 63;refine QU a1.out ?_;rintro e X ⟨rfl,k6⟩)
     have ai:Hid _:=u.out.Vb k6;have A:=ai.out.own;have B:Hid ((aB y).n<=900000000):=by show y.length<=_;rw[q.out];omega
     have r:Hid ((aB y).n=a.length+c.length):=q.out;clear k6;go_wp2_with (at_builtin;refine bN X rfl (.tmp 77) (.tmp 79) 61 rfl iS (.string ⟨#[]⟩) 16 z (aB y) [.string la] underlying61 T C D E rfl Rc (by rw[r.out];simp[Act.eval]) A B.out (by omega) (by simp[Act.eval]) rfl (by simp[Value.oneCell']) ?_;intro h5 w5 m l;rw[dr]at m;have P:Hid _:=ai.out.Vl l m;clear m l);have a2:Hid (LL.length=(aB y).n+1):=by show _=_;rw[Y.out,Q0];rfl
     exact QY (v:=.tuple #[.slice h5.ao ((aB y).n+1) h5.cap,.int .i64 0]) (by simp[results,results40,go_sem]) rfl ⟨h5,by rw[a2.out],by rw[Y.out];exact P.out.base M.out⟩
structure Qp(T:List Tk)(S:List Sm)(RS:List ik):Prop where
 len:RS.length=S.length
 yes:∀a,a<S.length->aC (au S a).k=true->(bne (ff RS a).Vc 0)=true/\(ff RS a).label=bG T (au S a)
 no:∀a,a<S.length->aC (au S a).k=false->(bne (ff RS a).Vc 0)=false
theorem kP.find(R:kP z4 yy)(E:Qp z4 (aj z4) yz)(b:ByteArray):uZ yz b=(gC yy.Vn b).map (bR (aj z4)):=by
 have c:((List.range yy.Vn.length).filter (mD yy.Vn b)).map (bR (aj z4))=(List.range (aj z4).length).filter (Na yz b):=by
  refine ub R.hel.len (fun j m h=>?_) (fun n e=>?_)
  ·unfold Na at h
   simp only[Bool.and_eq_true]at h
   cases a:aC (au (aj z4) j).k
   ·rw[E.no j m a]at h;cases h.1
   ·unfold aC at a
    simp only[Bool.or_eq_true]at a;unfold nu
    rcases a with a | a <;> rw[a] <;> simp
  ·obtain⟨s,p,l,o,-⟩:=R.get e
   have d:=R.hel.at_ e;unfold mD Na;rw[p];simp only;have f:=(fS l).2.2.2
   cases a:aC (au (aj z4) (bR (aj z4) n)).k
   ·rw[E.no _ d a]
    unfold aC at a;rw[f,a];simp
   ·obtain⟨g,i⟩:=E.yes _ d a
    rw[g,i];unfold aC at a;rw[f,a,o];simp
 unfold uZ gC;rw[E.len,<-List.head?_filter,<-c,List.head?_map,List.head?_filter]
theorem Ef(G:oj z4 yy)(E:Qp z4 (aj z4) yz)(a:ByteArray):(gC yy.Vn a=none->uZ yz a=none)/\∀n,gC yy.Vn a=some n->uZ yz a=some (bR (aj z4) n)/\cW yy.Vn n=pL z4 (aj z4) (bR (aj z4) n):=by
 have h:=G.r.find E a;refine⟨fun e=>by rw[h,e];rfl,fun n e=>⟨by rw[h,e];rfl,?_⟩⟩
 have b:n<yy.Vn.length:=by
  unfold gC at e;exact Ra.1 (Rz e)
 refine G.r.frame G.f b (fun s c=>?_);unfold gC at e;have:=Tm e;unfold mD at this;rw[c]at this;simp only[Bool.and_eq_true]at this;exact this.2
theorem FC(P:List dj)(a:ByteArray)(t:Tk):∀(f b:Nat) (M:List (List ByteArray)),(bne (po x v k P a t f b M).Vc 0)=true/\(po x v k P a t f b M).label=a:=by
 intro f
 induction f with
 | zero =>
  intro b M;unfold po xt
  repeat' split
  all_goals exact⟨rfl,rfl⟩
 | succ f c =>
  intro b M;unfold po
  repeat' split
  all_goals first
   | exact⟨rfl,rfl⟩
   | exact c _ _
theorem AM(p:jS)(t:Tk):(bne (mR x v k p t).Vc 0)=true/\(mR x v k p t).label=bG x (au v k):=by
 unfold mR
 split
 ·exact⟨rfl,rfl⟩
 ·split
  ·exact⟨rfl,rfl⟩
  ·exact FC x v k _ _ t _ _ _
theorem zf:(aC (au v k).k=true->(bne (oO x v (JJ x v) k).Vc 0)=true/\(oO x v (JJ x v) k).label=bG x (au v k))/\(aC (au v k).k=false->(bne (oO x v (JJ x v) k).Vc 0)=false):=by
 unfold oO aC
 cases a:NB v k
 ·cases b:tY v k
  ·unfold NB at a
   unfold tY at b;rw[a,b];exact⟨(fun h=>by cases h),fun _=>rfl⟩
  ·unfold tY at b
   rw[b,Bool.or_true];refine⟨fun _=>?_,fun h=>by cases h⟩;exact AM x v k _ _
 ·unfold NB at a
  rw[a,Ts];exact⟨fun _=>⟨rfl,rfl⟩,fun h=>by cases h⟩
theorem pv.tell{i:List (jS×Hd)}(h:pv zb i ((List.range zb.length).map (oO z4 zb (JJ z4 zb))) yz zb.length):Qp z4 zb yz:=by
 have o:yz.length=zb.length:=by rw[h.len,Ri,Tf]
 have d:∀a,a<zb.length->ff ((List.range zb.length).map (oO z4 zb (JJ z4 zb))) a=oO z4 zb (JJ z4 zb) a:=fun a b=>by
  unfold ff;rw[QQ,Rq,Uy b];rfl
 have f:∀a,a<zb.length->(ff yz a).label=(oO z4 zb (JJ z4 zb) a).label/\(bne (ff yz a).Vc 0)=(bne (oO z4 zb (JJ z4 zb) a).Vc 0):=fun a b=>by
  by_cases c:(ff ((List.range zb.length).map (oO z4 zb (JJ z4 zb))) a).Vc=4/\vB zb i ((List.range zb.length).map (oO z4 zb (JJ z4 zb))) a
  ·have e:=h.yes a b c.1 c.2
   have j:=c.1;rw[d a b]at e j;rw[e];exact⟨rfl,by simp only;rw[j];rfl⟩
  ·rw[h.no a b c,d a b]
   exact⟨rfl,rfl⟩
 refine⟨o,fun a b g=>?_,fun a b g=>?_⟩
 ·obtain⟨k,l⟩:=f a b
  obtain⟨m,n⟩:=(zf z4 zb a).1 g;exact⟨by rw[l];exact m,by rw[k];exact n⟩
 ·rw[(f a b).2];exact(zf z4 zb a).2 g
def uT(RS:List ik):List ik:=RS.filter (fun r=>bne r.Vc 0)
theorem Mq(r:ik):∀u∈jJ r,u.oneCell'=true:=by
 intro u a;simp only[jJ,List.mem_cons,List.not_mem_nil,or_false]at a
 rcases a with rfl | rfl | rfl | rfl | rfl | rfl <;> rfl
set_option maxRecDepth 512
theorem JH(a:b.heap[f]?=some (.cells #[ww,.bool false,va,ys,yt] 85 (0,0))) :
  Calls prog 22 #[.pointer (some ⟨f,0,none⟩)] b fun e c=>e=.returned (.slice none 0 0)/\c=b:=by
 have d:b.cell? ⟨f,1,none⟩=some (.bool false):=by rw[aa a];rfl
 have g:=ae a;clear a;go_enter func22,ntmps22;go_wp2;go_ret;exact⟨rfl,rfl⟩
def M4(RS:List ik)(w:World)(e:Ending)(w':World):Prop:=∃h',e=.returned (.slice h'.ao (uT RS).length h'.cap)/\gw w w' h' (fM (uT RS))
set_option maxRecDepth 100000
theorem JG(y:b.heap[d]?=some (.cells #[va,.bool true,ys,yt,.slice yv o.length f] 85 (0,0)))(N:cm b yv 6 jJ o)(hl:o.length<=100000) :
  Calls prog 22 #[.pointer (some ⟨d,0,none⟩)] b fun e w'=>M4 o b e w':=by
 have v1:b.cell? ⟨d,1,none⟩=some (.bool true):=by rw[aa y];rfl
 have Q:=ae y;have S:Hid _:=y;have R:=(show Hid (cm b yv 6 jJ o) from N);have C:Hid (gw b b ⟨none,0⟩ (fM (uT (o.take 0)))):=⟨QZ _ _ _ _,(by intro k O;cases O),ab.refl _ _⟩;obtain⟨iR,F,u,v,w⟩:=Re Gp;clear y N;go_enter func22,ntmps22;go_wp2;clear v1 Q
 go_loopg [3,4] o.length (fun g ag i wr=>∃(k:Nat) (c:Hd) (L:List ik),k<=o.length/\g=o.length-k/\ag=.slice c.ao L.length c.cap/\i=.int .i64 k/\L.length<=k/\Hid (L=uT (o.take k))/\Hid (gw b wr c (fM L)))
 case atStart=>exact⟨0,⟨none,0⟩,[],by omega,rfl,rfl,rfl,QR _,rfl,C⟩
 case round =>
  obtain⟨k,c,L,O,hg,rfl,rfl,Z,x,m⟩:=hrel;have q:Hid _:=(m.out.kept.get S.out (by simp));have v4:wr.cell? ⟨d,4,none⟩=some (.slice yv o.length f):=by rw[aa q.out];rfl
  have Q:=ae q.out
  by_cases t:k<o.length
  ·have ad:(k:Int)<(o.length:Int):=by omega
   obtain⟨g0,rfl,ac,j⟩:=(cm.Vb R.out m.out.kept) k _ (QP t);have M:=j 0 _ rfl;have T:=j 1 _ rfl;have U:=j 2 _ rfl;have V:=j 3 _ rfl;have W:=j 4 _ rfl;have X:=j 5 _ rfl;rw[Tg]at M
   have a:Hid (uT (o.take (k+1))=L++(if(bne o[k].Vc 0)=true then [o[k]] else [])):=by
    show _=_
    rw[x.out];unfold uT;rw[Td,QP t,RV]
    congr 1
    cases h:(bne o[k].Vc 0) <;> simp[h]
   clear j;generalize o[k]=r at *;obtain⟨I,z,K,H,J,G⟩:=r;simp only at a M T U V W X
   cases P:(z != 0)
   ·have A:Hid (L=uT (o.take (k+1))):=by show _=_;rw[a.out,P,QT (by simp),Rl]
    go_wp2
    go_roundg (o.length-(k+1))
    case measure=>omega
    case rel=>exact⟨k+1,c,L,by omega,rfl,rfl,by go_num,by omega,A,m⟩
   ·have A:Hid (L++[⟨I,z,K,H,J,G⟩]=uT (o.take (k+1))):=by show _=_;rw[a.out,P,QW rfl]
    have D:=m.out.own;have E:Hid ((fM L).n<=900000000):=by show L.length<=_;omega
    have p:Hid ((fM L).n=L.length):=rfl;go_wp2_with (at_builtin;refine bN wr rfl (.tmp 28) (.tmp 36) 54 rfl iR (.agg #[.string ⟨#[]⟩,.int .i64 0,.int .i64 0,.string ⟨#[]⟩,.int .i64 0,.int .i64 0]) 64 c (fM L) (jJ ⟨I,z,K,H,J,G⟩) underlying54 F u v w rfl (show 0<6 by omega) (by rw[p.out];simp[Act.eval]) D E.out (by omega) (by simp[Act.eval]) rfl (Mq _) ?_;intro Y w5 l s;rw[fM,gM]at l;have B:Hid _:=m.out.Vl s l;clear l s)
    go_roundg (o.length-(k+1))
    case measure=>omega
    case rel=>exact⟨k+1,Y,L++[(⟨I,z,K,H,J,G⟩:ik)],by omega,rfl,by rw[p.out,Q0];rfl,by go_num,by rw[Q0];show _+1<=_;omega,A,B⟩
  ·have e:k=o.length:=by omega
   subst e;have af:¬(o.length:Int)<(o.length:Int):=by omega
   rw[RK]at x;go_wp2;go_ret;exact⟨c,by rw[<-x.out];rfl,by rw[<-x.out];exact m.out⟩
section
variable {T:List Tk}
theorem zS(h:dC T)(i:Nat):(tS T i).size<=1024:=by
 unfold tS;rw[QQ]
 cases e:T[i]? with
 | none=>show(0:Nat)<=_;omega
 | some t=>exact(h t (R4 e)).1
theorem KO{L:List Tk}(h:y9∈ke L):∃t∈L,t.s=y9:=by
 induction L with
 | nil=>cases h
 | cons t r c =>
  rw[ke]at h
  split at h
  ·cases h
  ·rcases Rj.1 h with e | e
   ·exact⟨t,Rn,e.symm⟩
   ·obtain⟨u,a,b⟩:=c e
    exact⟨u,Rm _ a,b⟩
theorem Bh(h:dC T)(i:Nat):∀x∈bu T i,x.size<=100000:=fun x c=>by
 obtain⟨t,a,b⟩:=KO c;have:=(h t (List.mem_of_mem_drop a)).1;rw[b]at this;omega
theorem yL(h:dC T)(s:Sm):(bG T s).size<=100000:=by
 unfold bG
 split
 ·have:=zS h s.a;omega
 ·show(0:Nat)<=_;omega
theorem ND(h:dC T)(j:Nat)(c:j<(aj T).length):(au (aj T) j).k.size<=100000:=by
 have b:=((fw T).s j c).1.k;have d:=zS h (au (aj T) j).a;have f:=zS h ((au (aj T) j).a+1);unfold ew at b
 split at b
 ·have e:=congrArg Prod.fst b
  replace e:(au (aj T) j).k=tS T (au (aj T) j).a:=e;rw[e];omega
 ·have e:=congrArg Prod.fst b
  replace e:(au (aj T) j).k=tS T ((au (aj T) j).a+1):=e;rw[e];omega
theorem rZ(h:aC y9=true):bS y9=false:=by
 unfold aC at h;rw[RB]at h
 rcases h with h | h <;> exact fX h (by decide)
theorem zE(h:aG y9=true):bS y9=false:=by
 unfold aG at h;rw[RB]at h
 rcases h with h | h <;> exact fX h (by decide)
theorem Cb(h:T∈bW T zb l):T<l/\aG (au zb T).k=true:=by
 unfold bW at h;obtain⟨d,a⟩:=RH.1 h;refine⟨Ra.1 d,?_⟩;unfold sJ at a;unfold aG
 cases b:((au zb T).k.toList == [36,102])
 ·cases c:((au zb T).k.toList == [36,101])
  ·rw[b,c]at a;simp at a
  ·simp
 ·simp
theorem IR:(fO T v vd k).length<=vd.length:=by
 unfold fO;rw[Ri];refine Q3 (Sc _ _) ?_;rw[RQ];omega
theorem yP(h:dC T)(S:List Sm)(a:List Nat)(k i:Nat):((fO T S a k).getD i ⟨#[]⟩).size<=100000:=by
 rw[QQ];unfold fO;rw[Rq]
 cases ((a.take k).filter (fun j=>((au S j).k.toList == [36,102])))[i]? with
 | none=>show(0:Nat)<=_;omega
 | some j=>have:=zS h ((au S j).h+1);show(tS T ((au S j).h+1)).size<=_;omega
theorem EO(h:dC T)(S:List Sm)(a:Nat):∀p∈fH T S a,p.1.size<=100000/\p.2.size<=100000:=by
 intro p c;unfold fH lg at c;obtain⟨i,-,b⟩:=TT.1 c;unfold jY at b;obtain⟨j,-,rfl⟩:=Si.1 b;exact⟨yP h S _ _ i,yP h S _ _ j⟩
theorem EP(c:k<=10000):(fH T v k).length<=100000000:=by
 unfold fH;have a:=IR (T:=T) v (bW T v k) (bW T v k).length;have b:=kj T v k;refine Q3 (yX T v k _ (by omega) _) ?_;omega
end
theorem Iq(v:b.heap[y6]?=some (.cells #[ys,.bool true,.pointer (some ⟨zt,0,none⟩),yt,.slice v0 o.length w] 85 (0,0)))(A:cm b v0 6 jJ o)(u:fz b zt x x6 z3 (aj x) wq d)(n:x.length<=10000)(m:dC x)(c:∀q,q<x.length->bh x (aj x) q=0)(r:Qp x (aj x) o)(i:uZ o y4=some S) :
  Calls prog 40 #[.pointer (some ⟨y6,0,none⟩),.string y4] b fun e D=>Km (pL x (aj x) S) b e D:=by
 have F:(aj x).length<=x.length:=oG x x.length
 have B:S<o.length:=by
  unfold uZ at i;exact Ra.1 (Rz i)
 have p:S<(aj x).length:=by rw[<-r.len];exact B
 have t:aC (au (aj x) S).k=true:=by
  cases e:aC (au (aj x) S).k
  ·unfold uZ at i
   have l:=Tm i;unfold Na at l;rw[r.no S p e]at l
   cases l
  ·rfl
 have f:∀j,j<(aj x).length->bS (au (aj x) j).k=false->cU x (au (aj x) j).h:=fun j g e=>qz (oQ (fw x) c j g e)
 have C:=J9 x n c S (by omega);have s:=(J9 x n c _ (QR _)).ok.a;have y:∀j (g:j<(aj x).length),au (aj x) j=(aj x)[j]:=fun j g=>by unfold au;rw[QQ,QP g];rfl
 refine Ee y6 zt S y4 x x6 z3 (aj x) wq d o v0 w ys yt b v A (by rw[r.len];omega) u C p (f S p (rZ t)) i (fun E k j g=>?_) (EO m _ _) (Q3 (kj _ _ _) (by omega)) (EP _ _ (by omega))
 have a:j<(aj x).length/\bS (au (aj x) j).k=false:=by
  rcases g with g | rfl
  ·obtain⟨l,z⟩:=Cb g
   exact⟨by omega,zE z⟩
  ·exact⟨p,rZ t⟩
 exact IG y6 zt j x x6 z3 (aj x) wq d ys _ yt _ E (k.get v (by simp)) (u.Vb k) a.1 n (by rw[<-y j a.1];exact f j a.1 a.2) (by rw[<-y j a.1];exact s j a.1) (yL m _) (ND m j a.1) (Bh m _) (Q3 (kg x _) n)
theorem yC(c:Int)(h:(c==0)=false)(b:World)(f:Calls prog 61 #[.pointer (some ⟨w,0,none⟩),.string y5] b fun e d=>e=.returned (.tuple #[.int .i64 0,.int .i64 c])/\d=b) :
  Calls prog 40 #[.pointer (some ⟨w,0,none⟩),.string y5] b fun e d=>e=.returned (.tuple #[.slice none 0 0,.int .i64 c])/\d=b:=by
 have g:Hid _:=f;have i:(c != 0)=true:=by unfold bne;rw[h];rfl
 clear f;go_enter func40,ntmps40;go_wp2_with (go_at_call 61;refine QU g.out ?_;rintro e j ⟨rfl,a⟩;rw[a];clear a);exact QY (v:=.tuple #[.slice none 0 0,.int .i64 c]) (by simp[results,results40,go_sem]) rfl ⟨rfl,rfl⟩
def wD(bo:Option Nat):Option Addr:=bo.map (fun b=>⟨b,0,none⟩)
def ie(lo hi:Nat):List Nat:=List.range' lo (hi-lo)
theorem ng:M∈ie l T ↔ l<=M/\M<T:=by
 unfold ie;rw[List.mem_range'_1];omega
def PV(l:List St)(H:Nat->Hd)(q:Nat):Prop:=(H 6).blk=some q∨∃i s,l[i]?=some s/\((H (10+2*i)).blk=some q∨(H (11+2*i)).blk=some q)
theorem PV.inH(h:PV wc vb l):f9 vb l:=by
 rcases h with h | ⟨i,s,-,h | h⟩
 ·exact⟨6,h⟩
 ·exact⟨_,h⟩
 ·exact⟨_,h⟩
theorem gj.ltU(h:gj n wc vb)(u:PV wc vb l):l<n.heap.size:=by
 rcases u with u | ⟨i,s,a,u | u⟩
 ·exact h.own.lt u
 ·exact(h.syms i s a).lt u
 ·exact(h.prfs i s a).lt u
theorem gj.keptU(h:gj n wc vb)(k:ab yu n N)(c:∀x,PV wc vb x->x∉yu):gj N wc vb :=
 ⟨h.own.Vg (fun x a=>k.block x (h.own.lt a) (c x (Q1 a))),fun i s b=>(h.syms i s b).Vg (fun x a=>k.block x ((h.syms i s b).lt a) (c x (QV ⟨i,s,b,Q1 a⟩))),fun i s b=>(h.prfs i s b).Vg (fun x a=>k.block x ((h.prfs i s b).lt a) (c x (QV ⟨i,s,b,QV a⟩)))⟩
def Qt(w:World)(x:Nat)(fs:Fs)(lo hi:Nat):Option Nat->Prop
 | none=>jR w x fs
 | some k=>(k<fs.length/\((fE fs k).1==0)=true)/\∃H g,nI w x fs (bK fs k).2.2.Vn H g/\(lo<=g/\g<hi)/\∀q,PV (bK fs k).2.2.Vn H q->lo<=q/\q<hi
structure dE(w:World)(x:Nat)(fs:Fs)(lo hi:Nat)(st:Option Nat):Prop where
 z:hi<=w.heap.size
 s:Qt w x fs lo hi st
def Qr(w:World)(v:Nat)(fs:Fs)(h:Hd)(lo hi:Nat):Option Nat->Prop
 | none=>∃p2 p3 p4,fB w v fs h false p2 p3 p4
 | some k=>xF w v fs h (cC fs k).1 lo hi
structure dn(w:World)(v:Nat)(fs:Fs)(h:Hd)(lo hi:Nat)(st:Option Nat):Prop where
 z:hi<=w.heap.size
 s:Qr w v fs h lo hi st
theorem dE.anyS(a:dE n l y T M z6):li n l y:=by
 have:=a.s
 cases z6 with
 | none=>exact jR.anyR this
 | some k=>obtain⟨-,H,g,h,-⟩:=this;exact h.anyR
theorem dn.anyS(a:dn n l y L T M z6):∃b c d e,fB n l y L b c d e:=by
 have:=a.s
 cases z6 with
 | none=>exact⟨false,this⟩
 | some k=>exact⟨true,xF.rvAt this⟩
theorem dE.kept(a:dE n l y T M z6)(k:ab yu n N)(c:∀q,q∈l :: ie T M->q∉yu):dE N l y T M z6:=by
 refine⟨Q3 a.z k.size,?_⟩;have i:=c l Rn;have e:∀q,T<=q/\q<M->q∉yu:=fun q b=>c q (Rm _ (ng.2 b))
 have:=a.s
 cases z6 with
 | none=>exact jR.kept this k i
 | some j =>
  obtain⟨p,H,g,h,d,f⟩:=this;obtain⟨m,t,o,r⟩:=h.ver;exact⟨p,H,g,⟨⟨m,t,o,bi.kept r k i⟩,h.Vn.keptU k (fun q b=>e q (f q b)),k.get h.arr (e g d),h.far⟩,d,f⟩
theorem dn.kept(a:dn n l y L T M z6)(k:ab yu n N)(b:∀q,q∈l :: (L.blk.toList++ie T M)->q∉yu):dn N l y L T M z6:=by
 refine⟨Q3 a.z k.size,?_⟩;have d:=b l Rn;have c:∀q,L.blk=some q->q∉yu:=fun q g=>b q (Rm _ (RN _ (by rw[g];simp)))
 have h:∀q,T<=q->q<M->q∉yu:=fun q e f=>b q (Rm _ (Se _ (ng.2 ⟨e,f⟩)))
 have:=a.s
 cases z6 with
 | none=>obtain⟨i,m,o,r⟩:=this;exact⟨i,m,o,r.keptS k d c⟩
 | some j=>exact xF.kept this k d c h
theorem dn.Vb(a:dn n l y L T M z6)(k:ab [] n N):dn N l y L T M z6:=a.kept k (fun _ _ b=>by cases b)
theorem dE.Vb(a:dE n l y T M z6)(k:ab [] n N):dE N l y T M z6:=a.kept k (fun _ _ b=>by cases b)
theorem dE.lt(a:dE n l y T M z6)(q:Nat)(b:q∈l :: ie T M):q<n.heap.size:=by
 rcases Rj.1 b with e | e
 ·rw[e];exact a.anyS.lt
 ·have:=ng.1 e;have:=a.z;omega
theorem dn.lt{h:Hd}(a:dn n l y h T M z6)(q:Nat)(b:q∈l :: (h.blk.toList++ie T M)):q<n.heap.size:=by
 obtain⟨c,f,g,i,r⟩:=a.anyS
 rcases Rj.1 b with e | e
 ·rw[e];exact ae r.d
 ·rcases Rr.1 e with e | e
  ·exact r.own.lt (aN e)
  ·have:=ng.1 e;have:=a.z;omega
theorem dE.same(a:dE n l y T M z6):∃b f i m,iI n l y b f i m/\∀c,iI c l y b f i m->ab [l] n c->dE c l y T M z6:=by
 have h:=a.s
 cases z6 with
 | none=>exact⟨_,_,_,_,h,fun c d k=>⟨Q3 a.z k.size,d⟩⟩
 | some j =>
  obtain⟨t,H,g,r,u,w⟩:=h;obtain⟨o,x,p,d⟩:=r.ver;refine⟨_,_,_,_,d,fun c e k=>⟨Q3 a.z k.size,t,H,g,⟨⟨o,x,p,e⟩,r.Vn.keptU k (fun q v=>by simp;exact r.far.2 q v.inH),k.get r.arr (by simp;exact Ne.symm r.far.1),r.far⟩,u,w⟩⟩
def mb(c:Int)(st:Option Nat):Option Nat:=if c=0 then none else st
theorem qe(h:wd=0):mb wd z6=none:=QW h
theorem rX(h:wd≠0):mb wd z6=z6:=QT h
theorem GD(h:(fc y y9 yd).1≠0):(fc y y9 yd).2=y:=by
 unfold fc at h ⊢
 split
 ·rfl
 ·next c =>
  rw[QT c]at h
  split
  ·next a=>rw[QW a]at h;exact absurd rfl h
  ·next a =>
   rw[QT a]at h
   split
   ·rfl
   ·next b=>rw[QT b]at h;exact absurd rfl h
theorem NW(h:dE b S H I w D)(g:y4.size<=1073741824)(f:yr.size<=4294967296) :
  Calls prog 14 #[.pointer (some ⟨S,0,none⟩),.string y4,.string yr] b fun e c=>e=.returned (.int .i64 (fc H y4 yr).1)/\dE c S (fc H y4 yr).2 I w (mb (fc H y4 yr).1 D)/\ab [S] b c:=by
 by_cases a:(fc H y4 yr).1=0
 ·refine(MS S y4 yr H b h.anyS g f).mono (fun e c q=>⟨q.1,?_,q.2.2.2⟩)
  rw[qe a];exact⟨Q3 h.z q.2.2.2.size,q.2.2.1 a⟩
 ·obtain⟨d,l,m,n,k,j⟩:=h.same
  refine(Oi S y4 yr H d l m n b k g f a).mono (fun e c q=>⟨q.1,?_,q.2.2⟩);have i:=q.2.1;rw[GD a]at i ⊢;rw[rX a];exact j c i q.2.2
theorem CL(h:dE b f ya I w D)(i:kR b v0 H)(d:ld H) :
  Calls prog 30 #[.pointer (some ⟨f,0,none⟩),.slice v0 H.length y7] b fun e c=>e=.returned (.int .i64 (dy H))/\dE c f (jt ya H) I w (mb (dy H) D)/\ab [f] b c:=by
 obtain⟨g,n,o,p,k,j⟩:=h.same;refine(J8 f ya H g n o p v0 y7 b k i d).mono (fun e c q=>⟨q.1,?_,q.2.2⟩);obtain⟨l,m⟩:=q.2.1
 by_cases a:dy H=0
 ·rw[qe a]
  exact⟨Q3 h.z q.2.2.size,l a⟩
 ·have:=m a
  rw[pM rfl a]at this ⊢;rw[rX a];exact j c this q.2.2
theorem Ni(a:dn b S H i I w D)(m:y4.size<=1073741824)(j:yr.size<=4294967296) :
  Calls prog 15 #[.pointer (some ⟨S,0,none⟩),.string y4,.string yr] b fun e h=>e=.returned (.int .i64 (fc H y4 yr).1)/\∃d,dn h S (fc H y4 yr).2 d I w (mb (fc H y4 yr).1 D)/\ab (S :: i.blk.toList) b h/\∀q,d.blk=some q->i.blk=some q∨b.heap.size<=q:=by
 obtain⟨n,o,p,s,r⟩:=a.anyS;refine(Jm S H i n o p s y4 yr b r m j).mono (fun e h q=>⟨q.1,?_⟩)
 by_cases c:(fc H y4 yr).1=0
 ·obtain⟨d,t,g⟩:=q.2.1 c
  rw[qe c];refine⟨d,⟨Q3 a.z g.kept.size,_,_,_,t⟩,g.kept,fun q f=>?_⟩
  rcases g.blk with e | ⟨u,e,l⟩
  ·exact Q1 (by rw[<-e];exact f)
  ·rw[e]at f;cases f;exact QV l
 ·have k:=q.2.2 c
  rw[rX c,GD c];exact⟨i,a.Vb k,k.mono (by simp),fun _ e=>Q1 e⟩
theorem Bs(d:Option Addr)(b:Nat)(c:World)(a:dn c f ya i I w D)(p:mV c d b H)(t:d=none->H.length=0/\b=0)(s:∀o,d=some o->∃g,o=⟨g,0,none⟩)(m:∀j,j<H.length->(aE H j).size<=1073741824/\(ak H j).size<=1073741824) :
  Calls prog 31 #[.pointer (some ⟨f,0,none⟩),.slice d H.length b] c fun e n=>e=.returned (.int .i64 (dy H))/\∃l,dn n f (jt ya H) l I w (mb (dy H) D)/\ab (f :: i.blk.toList) c n/\∀q,l.blk=some q->i.blk=some q∨c.heap.size<=q:=by
 obtain⟨v,x,y,A,r⟩:=a.anyS;refine(Ev f ya H i v x y A d b c r p t s m).mono (fun e n q=>⟨q.1,?_⟩)
 by_cases h:dy H=0
 ·obtain⟨l,B,g,u⟩:=q.2.1 h
  rw[qe h];exact⟨l,⟨Q3 a.z g.size,_,_,_,B⟩,g,u⟩
 ·have k:=q.2.2 h
  rw[rX h,pM rfl h];exact⟨i,a.Vb k,k.mono (by simp),fun _ e=>Q1 e⟩
theorem Bz(a:H.length<=4)(b:∀j,j<H.length->(ak H j).size<=1024)(d:k<H.length)(h:((fE H k).1==0)=true):fE H k=cY:=by
 have f:=h;unfold fE at h
 split at h
 ·next c =>
  have e:(Lj (yp (cC H k).1 (aj (cC H k).1))).1=(yp (cC H k).1 (aj (cC H k).1)).rule:=rfl;rw[e,c]at h
  cases h
 ·next c =>
  exact(v8 H k a b d (by cases q:((yp (cC H k).1 (aj (cC H k).1)).rule==0);exact absurd q c;rfl) h).1
def nH(z lo hi lo1 hi1:Nat):Prop:=(lo1=lo/\hi1=hi)∨z<=lo1
theorem nH.mem{z lo hi:Nat}(h:nH z lo hi l T)(a:M∈ie l T):M∈ie lo hi∨z<=M:=by
 rcases h with ⟨rfl,rfl⟩ | h
 ·exact Q1 a
 ·exact QV (Q3 h (ng.1 a).1)
def QH(w:World)(x:Nat)(fs:Fs)(lo hi:Nat)(f:pA)(q:Int)(st:Option Nat)(e:Ending)(w':World):Prop :=
 e=.returned (.tuple #[gU f,.int .i64 q])/\(∃lo1 hi1,dE w' x fs lo1 hi1 st/\nH w.heap.size lo hi lo1 hi1)/\ab [x] w w'
def QG(w:World)(m:Nat)(fs:Fs)(h:Hd)(lo hi:Nat)(f:pA)(q:Int)(st:Option Nat)(e:Ending)(w':World):Prop :=
 e=.returned (.tuple #[gU f,.int .i64 q])/\(∃lo1 hi1,dn w' m fs h lo1 hi1 st/\nH w.heap.size lo hi lo1 hi1)/\ab [m] w w'
theorem KP(B:dE b d H y8 y7 D)(t:H.length<=4)(m:∀j,j<H.length->(ak H j).size<=1024) :
  ∃(M:pA) (q:Int) (x:Option Nat),Calls prog 36 #[.pointer (some ⟨d,0,none⟩),.string y5] b (fun e h=>QH b d H y8 y7 M q x e h) /\
   ∀a,dn a f H i I w D->Calls prog 37 #[.pointer (some ⟨f,0,none⟩),.string y5] a (fun e h=>QG a f H i I w M q x e h):=by
 rcases pI y5 H with p | ⟨k,s,p⟩
 ·obtain⟨K,X,Y,Z,U,T⟩:=B.same
  refine⟨cY,5,D,(Dn d H y5 K X Y Z b U (by rw[p];decide)).mono (fun e h q=>⟨q.1,⟨y8,y7,T h q.2.1 q.2.2,Q1 ⟨rfl,rfl⟩⟩,q.2.2⟩),fun a c=>?_⟩;obtain⟨C,E,F,G,r⟩:=c.anyS;exact(xZ f H i C E F G y5 a r (by rw[p];decide)).mono (fun e h q=>⟨q.1,⟨I,w,c.Vb q.2,Q1 ⟨rfl,rfl⟩⟩,q.2.mono (by simp)⟩)
 ·obtain⟨L,-⟩:=v7 H k t m s
  have v:=FD d k H y5 b B.anyS p s m
  have u:∀a,dn a f H i I w D->Calls prog 37 #[.pointer (some ⟨f,0,none⟩),.string y5] a fun e h=>Qu H k f i (fE H k) (if((fE H k).1==0)=true then 0 else 6) a e h:=fun a c=>by
   obtain⟨C,E,F,G,r⟩:=c.anyS;exact AQ f k H i C E F G y5 a r p s m
  cases o:((fE H k).1==0)
  ·refine⟨fE H k,6,none,v.mono (fun e h q=>?_),fun a c=>(u a c).mono (fun e h q=>?_)⟩
   ·obtain⟨n,c⟩:=q
    rw[L,o,QT (by simp)]at n;exact⟨n.1,⟨y8,y7,⟨Q3 B.z c.size,n.2⟩,Q1 ⟨rfl,rfl⟩⟩,c⟩
   ·rw[o,QT (by simp)]at q
    obtain⟨J,⟨-,W⟩,y⟩:=q;exact⟨J,⟨I,w,⟨Q3 c.z y.size,W (by decide)⟩,Q1 ⟨rfl,rfl⟩⟩,y⟩
  ·refine⟨fE H k,0,some k,v.mono (fun e h q=>?_),fun a c=>(u a c).mono (fun e h q=>?_)⟩
   ·obtain⟨n,c⟩:=q
    rw[L,o,QW rfl]at n;obtain⟨n,O,g,A,Q,R⟩:=n;exact⟨by rw[n,Bz H k t m s o],⟨b.heap.size,h.heap.size,⟨QR _,⟨s,o⟩,O,g,A,⟨Q,ae A.arr⟩,fun P N=>⟨R P N.inH,A.Vn.ltU N⟩⟩,QV (QR _)⟩,c⟩
   ·rw[o,QW rfl]at q
    obtain⟨J,⟨V,-⟩,y⟩:=q;obtain⟨l,S,r⟩:=V rfl;exact⟨J,⟨l,h.heap.size,⟨QR _,r⟩,QV S⟩,y⟩
def vG(fs:Fs)(st:Option Nat)(lab:ByteArray):List ByteArray×Int :=
 match st with
 | none=>([],7)
 | some k=>match gC (bK fs k).2.2.Vn lab with
  | none=>([],8)
  | some n=>(cW (bK fs k).2.2.Vn n,0)
structure vF(w:World)(bo:Option Nat)(L:List ByteArray):Prop where
 nil:bo=none ↔ L=[]
 blk:∀b,bo=some b->w.heap[b]?=some (.cells (cN L).toArray 9 (0,0))
set_option maxRecDepth 512
theorem Do(h:jR b f H) :
  Calls prog 39 #[.pointer (some ⟨f,0,none⟩),.string y5] b fun e a=>e=.returned (.tuple #[.slice none 0 0,.int .i64 7])/\ab [] b a:=by
 have c:Hid (Calls prog 59 #[.pointer (some ⟨f,0,none⟩),.string y5] b fun e a=>e=.returned (.tuple #[.int .i64 0,.int .i64 7])/\ab [] b a):=by
  show Calls _ _ _ _ _
  obtain⟨i,-⟩:=iI.cells h;have d:=bi.lt h;clear h;go_enter func59,ntmps59;go_wp2;go_ret2;exact⟨rfl,ab.refl _ _⟩
 clear h;go_enter func39,ntmps39;go_wp2_with (go_at_call 59;refine QU c.out ?_;rintro e j ⟨rfl,g⟩);go_ret2;exact⟨rfl,g⟩
theorem oj.szs(G:oj z4 yy)(a:dC z4):A7 yy.Vn:=fun s f _=>by
 obtain⟨n,b,rfl⟩:=R0 f;obtain⟨g,e,-,c,d⟩:=G.r.get b;rw[QP b]at e
 cases e
 exact⟨by rw[c];exact yL a _,by rw[d];exact Bh a _⟩
theorem LE(l:List St)(n:Nat):cW l n≠[]:=fun e=>by have:=t8 l n;rw[e]at this;simp at this
def QC(L:List ByteArray)(c:Int)(w:World)(e:Ending)(w':World):Prop:=∃bo,e=.returned (.tuple #[.slice (wD bo) L.length L.length,.int .i64 c])/\vF w' bo L/\(∀b,bo=some b->w.heap.size<=b)/\ab [] w w'
def Qy(L:List ByteArray)(c:Int)(w:World)(e:Ending)(w':World):Prop:=∃h',e=.returned (.tuple #[.slice h'.ao L.length h'.cap,.int .i64 c])/\gw w w' h' (aB L)
theorem zX(b:y.length<=4)(a:∀j,j<y.length->(ak y j).size<=1024)(h:l<y.length)(f:((fE y l).1==0)=true):oj (cC y l).1 (bK y l).2.2/\(cC y l).1.length<=10000/\dC (cC y l).1:=by
 obtain⟨c,g⟩:=v7 y l b a h;obtain⟨d,e⟩:=g (by rw[c];exact f);exact⟨d,e,BG y l (sD a)⟩
theorem Jk(C:dE b f H I w D)(l:H.length<=4)(d:∀j,j<H.length->(ak H j).size<=1024) :
  Calls prog 39 #[.pointer (some ⟨f,0,none⟩),.string y5] b fun e i=>QC (vG H D y5).1 (vG H D y5).2 b e i:=by
 have p:=C.s
 cases D with
 | none=>exact(Do f H y5 b p).mono (fun e i q=>⟨none,q.1,⟨⟨fun _=>rfl,fun _=>rfl⟩,fun a e=>by cases e⟩,(fun a e=>by cases e),q.2⟩)
 | some k =>
  obtain⟨⟨B,v⟩,u,g,r,-⟩:=p;obtain⟨G,-,A⟩:=zX l d B v;refine(FE f H _ u g y5 b r (wT H d k).ok (G.szs A)).mono (fun e i q=>?_);obtain⟨t,h⟩:=q;unfold vG;simp only
  cases o:gC (bK H k).2.2.Vn y5 with
  | none =>
   rw[o]at h;exact⟨none,h,⟨⟨fun _=>rfl,fun _=>rfl⟩,fun a e=>by cases e⟩,(fun a e=>by cases e),t⟩
  | some n =>
   rw[o]at h;obtain⟨m,x,y,z⟩:=h;have c:i.heap[m]?=some (.cells (cN (pk (cW (bK H k).2.2.Vn n) (cW (bK H k).2.2.Vn n).length)).toArray 9 (0,0)):=y;rw[Je]at c;exact⟨some m,x,⟨⟨(fun e=>by cases e),fun e=>absurd e (LE _ _)⟩,fun a e=>by cases e;exact c⟩,(fun a e=>by cases e;exact z),t⟩
theorem Gy(L:List ByteArray)(a:L=[]):gw b b ⟨none,0⟩ (aB L):=by subst a;exact⟨QZ _ _ _ _,(by intro k c;cases c),ab.refl _ _⟩
theorem Ia(P:dn b f H i I w D)(o:∀k,D=some k->k<H.length/\((fE H k).1==0)=true)(m:H.length<=4)(p:∀j,j<H.length->(ak H j).size<=1024) :
  Calls prog 40 #[.pointer (some ⟨f,0,none⟩),.string y5] b fun e g=>Qy (vG H D y5).1 (vG H D y5).2 b e g:=by
 have x:=P.s
 cases D with
 | none =>
  obtain⟨Q,R,S,r⟩:=x;refine(yC f y5 7 (by decide) b (Ky f y5 _ Q R S b r.d)).mono (fun e g q=>⟨⟨none,0⟩,q.1,?_⟩);rw[q.2];exact Gy b _ rfl
 | some k =>
  obtain⟨O,K⟩:=o k rfl;obtain⟨G,N,M⟩:=zX m p O K;obtain⟨B,A,E,z,C,U,V,t,c,r⟩:=x;have h:=r.fin.tell;have a:=aw.srcG (f:=jJ) r.s2 (fun _=>rfl);have W:(aj (cC H k).1).length<=(cC H k).1.length:=oG _ _;obtain⟨F,J⟩:=Ef G h y5;unfold vG;simp only
  cases v:gC (bK H k).2.2.Vn y5 with
  | none =>
   have l:=F v;refine(yC f y5 8 (by decide) b ((Bb f y5 t c.ao c.cap _ _ _ b r.rv.d a (by rw[h.len];omega)).mono (fun e g q=>?_))).mono (fun e g q=>⟨⟨none,0⟩,q.1,?_⟩)
   ·obtain⟨y,T⟩:=q
    rw[l]at y;exact⟨y,T⟩
   ·rw[q.2];exact Gy b _ rfl
  | some n =>
   obtain⟨l,L⟩:=J n v;simp only;rw[L];exact Iq f B _ y5 _ A E z C t c.ao c.cap _ _ b r.rv.d a r.db N M G.u h l
def QD(w:World)(e:Ending)(w':World):Prop:=∃(L:List ik) (h':Hd),e=.returned (.slice h'.ao L.length h'.cap)/\gw w w' h' (fM L)/\L.length<=100000
theorem K0(x:dn b f H i I w D)(h:∀k,D=some k->k<H.length/\((fE H k).1==0)=true)(g:H.length<=4)(l:∀j,j<H.length->(ak H j).size<=1024) :
  Calls prog 22 #[.pointer (some ⟨f,0,none⟩)] b fun e m=>QD b e m:=by
 have p:=x.s
 cases D with
 | none =>
  obtain⟨y,z,A,r⟩:=p;refine(JH f _ y z A b r.d).mono (fun e m q=>⟨[],⟨none,0⟩,q.1,?_,by simp⟩);rw[q.2];exact⟨QZ _ _ _ _,(by intro k c;cases c),ab.refl _ _⟩
 | some k =>
  obtain⟨c,u⟩:=h k rfl;obtain⟨G,P,O⟩:=zX g l c u;obtain⟨K,J,M,F,L,E,N,n,o,r⟩:=p;have v:=r.fin.tell;have Q:(aj (cC H k).1).length<=(cC H k).1.length:=oG _ _;have a:n.length<=100000:=by rw[v.len];omega
  refine(JG f n o.ao o.cap _ _ _ b r.rv.d (aw.srcG (f:=jJ) r.s2 (fun _=>rfl)) a).mono (fun e m q=>?_);obtain⟨t,B,C⟩:=q;exact⟨_,t,B,C,Q3 (Sc _ _) a⟩
def rB(b t:Nat)(c:List Value):It where
 B:=[b]
 P w:=w.heap[b]?=some (.cells c.toArray t (0,0))
 lt w h q hq:=by rw[Q9.1 hq];exact ae h
 ok S w w' h k hb:=k.get h (hb b (by simp))
def ce(h:Hd)(r:dN):It where
 B:=h.blk.toList
 P w:=aw w h r
 lt w o q hq:=o.lt (aN hq)
 ok S w w' o k hb:=o.Vg (fun q hq=>k.block q (o.lt hq) (hb q (by rw[hq];simp)))
def O6(x:Nat)(fs:Fs)(lo hi:Nat)(st:Option Nat):It where
 B:=x :: ie lo hi
 P w:=dE w x fs lo hi st
 lt _ a q hq:=a.lt q hq
 ok _ _ _ a k hb:=a.kept k hb
def O4(v:Nat)(h:Hd)(fs:Fs)(lo hi:Nat)(st:Option Nat):It where
 B:=v :: (h.blk.toList++ie lo hi)
 P w:=dn w v fs h lo hi st
 lt _ a q hq:=a.lt q hq
 ok _ _ _ a k hb:=a.kept k hb
def zw(fs:Fs):Prop:=∀j,j<fs.length->(ak fs j).size<=1024
structure iG(w:World)(bo:Option Nat)(fs:Fs):Prop where
 nil:bo=none->fs=[]
 blk:∀b,bo=some b->w.heap[b]?=some (.cells (qK fs).toArray 68 (0,0))
def uI(bo:Option Nat)(fs:Fs):It where
 B:=bo.toList
 P w:=iG w bo fs
 lt w a q hq:=by
  cases bo with
  | none=>cases hq
  | some b=>rw[UI,Q9]at hq;rw[hq];exact ae (a.blk b rfl)
 ok S w w' a k hb:=⟨a.nil,fun b e=>k.get (a.blk b e) (hb b (by rw[e];simp))⟩
def Aj(x:Option Nat×Fs):Value:=.slice (wD x.1) x.2.length x.2.length
def ig(l:List (Option Nat×Fs)):dN:=⟨33,1,l.length,l.map Aj⟩
def NY(x:Nat):Value:=.pointer (some ⟨x,0,none⟩)
def lB(t:Nat)(l:List Nat):dN:=⟨t,1,l.length,l.map NY⟩
structure Mc where
 hx:Hd
 hm:Hd
 hr:Hd
 hl:Hd
 hc:Hd
 V:List (Nat×Nat×Fs)
 reg:Fs
 L:List (Option Nat×Option Nat×Fs)
 a:Int
 n:Int
 e:Int
 u:Int
 s:ByteArray
 p:Int
 q:Int
 f:ByteArray
 i:Int
 j:Int
 qv:Value
 tv:Value
def Mc.cells(M:Mc):List Value:=[.slice M.hx.ao M.V.length M.hx.cap,.slice M.hm.ao M.V.length M.hm.cap,.slice M.hr.ao M.reg.length M.hr.cap,.slice M.hl.ao M.L.length M.hl.cap,.slice M.hc.ao M.L.length M.hc.cap,.int .i64 M.a,.int .i64 M.n,.int .i64 M.e,.int .i64 M.u,.string M.s,.int .i64 M.p,.int .i64 M.q,.string M.f,.int .i64 M.i,.int .i64 M.j,M.qv,M.tv]
structure bZ(w:World)(b:Nat)(I:Nat×Nat->It)(M:Mc)(N:Nat):Prop where
 sep:nJ w I
 w0:I (0,0)=rB b 42 M.cells
 x:I (1,0)=ce M.hx (lB 46 (M.V.map (·.1)))
 m:I (2,0)=ce M.hm (lB 47 (M.V.map (·.2.1)))
 r:I (3,0)=ce M.hr (cr M.reg)
 ls:I (4,0)=ce M.hl (ig (M.L.map (fun l=>(l.1,l.2.2))))
 lw:I (5,0)=ce M.hc (ig (M.L.map (fun l=>(l.2.1,l.2.2))))
 v:∀i x m fs,M.V[i]?=some (x,m,fs)->(∃st h lo hi lo2 hi2,I (6,i)=O6 x fs lo hi st/\I (7,i)=O4 m h fs lo2 hi2 st)/\zw fs
 l:∀k a c fs,M.L[k]?=some (a,c,fs)->I (8,k)=uI a fs/\I (9,k)=uI c fs/\ld fs/\fs.length<=N
 fit:ld M.reg
 len:M.V.length<=N/\M.reg.length<=N/\M.L.length<=N
 rng:qB M.a/\qB M.n/\qB M.e
structure rh(I:Nat×Nat->It)(M:Mc)(I':Nat×Nat->It)(M':Mc):Prop where
 k:∀j i,10<=j->I' (j,i)=I (j,i)
 q:M'.qv=M.qv
 t:M'.tv=M.tv
theorem rh.refl(M:Mc):rh g M g M:=⟨fun _ _ _=>rfl,rfl,rfl⟩
theorem oY{b:It}(c:l<10)(d:10<=M):fk a (l,T) b (M,vs)=a (M,vs):=aq _ _ (bn (by omega))
theorem bZ.Vb{M:Mc}(h:bZ n l a M T)(k:ab [] n N):bZ N l a M T:={ h with sep:=h.sep.Vb k }
theorem bZ.more{M:Mc}(h:bZ n l a M T):bZ n l a M (T+1) :=
 { h with l:=fun k g c i e=>by obtain⟨b,d,f,j⟩:=h.l k g c i e;exact⟨b,d,f,by omega⟩,len:=by obtain⟨b,d,f⟩:=h.len;exact⟨by omega,by omega,by omega⟩ }
theorem bZ.blk{M:Mc}(h:bZ n l a M T):n.heap[l]?=some (.cells M.cells.toArray 42 (0,0)):=by
 have:=h.sep.all (0,0);rw[h.w0]at this;exact this
theorem bZ.ownX{M:Mc}(h:bZ n l a M T):aw n M.hx (lB 46 (M.V.map (·.1))):=by have:=h.sep.all (1,0);rw[h.x]at this;exact this
theorem bZ.ownM{M:Mc}(h:bZ n l a M T):aw n M.hm (lB 47 (M.V.map (·.2.1))):=by have:=h.sep.all (2,0);rw[h.m]at this;exact this
theorem bZ.ownR{M:Mc}(h:bZ n l a M T):aw n M.hr (cr M.reg):=by have:=h.sep.all (3,0);rw[h.r]at this;exact this
theorem bZ.ownL{M:Mc}(h:bZ n l a M T):aw n M.hl (ig (M.L.map (fun b=>(b.1,b.2.2)))):=by have:=h.sep.all (4,0);rw[h.ls]at this;exact this
theorem bZ.ownC{M:Mc}(h:bZ n l a M T):aw n M.hc (ig (M.L.map (fun b=>(b.2.1,b.2.2)))):=by have:=h.sep.all (5,0);rw[h.lw]at this;exact this
theorem nJ.grow(s:nJ n a)(e:a yg=ce L wu)(g:bt n N L yf)(o:aw N yf wv):nJ N (fk a yg (ce yf wv)):=by
 refine s.put yg _ (by rw[e];exact g.kept) o (fun q b=>?_);have b:=aN b
 rcases g.blk with c | ⟨f,c,d⟩
 ·left;rw[e];show q∈L.blk.toList;rw[<-c,b];simp
 ·right;rw[c]at b;cases b;exact d
theorem nJ.turn{b:List Value}(s:nJ n a)(e:a yg=rB l T vc)(g:ab [l] n N)(o:N.heap[l]?=some (.cells b.toArray T (0,0))):nJ N (fk a yg (rB l T b)) :=
 s.put yg _ (by rw[e];exact g) o (fun q c=>by rw[e];exact Q1 c)
def iB(b:Nat)(I:Nat×Nat->It)(M:Mc)(N:Nat)(r:Bool)(e:Ending)(w':World):Prop:=e=.returned (.bool r)/\∃I' M',bZ w' b I' M' (N+1)/\rh I M I' M'
theorem bZ.turn0{M M':Mc}(h:bZ n l a M T)(e:(M'.hx=M.hx/\M'.hm=M.hm/\M'.hr=M.hr/\M'.hl=M.hl/\M'.hc=M.hc)/\M'.V=M.V/\M'.reg=M.reg/\M'.L=M.L)(k:ab [l] n N)(o:N.heap[l]?=some (.cells M'.cells.toArray 42 (0,0)))(z:qB M'.a/\qB M'.n/\qB M'.e):bZ N l (fk a (0,0) (rB l 42 M'.cells)) M' T:=by
 obtain⟨⟨p,s,t,u,w⟩,d,g,f⟩:=e;have q:∀c i,c≠0->fk a (0,0) (rB l 42 M'.cells) (c,i)=a (c,i):=fun c i y=>aq _ _ (bn y)
 exact {
  sep:=h.sep.turn h.w0 k o
  w0:=bJ _ _ _
  x:=by rw[q 1 0 (by decide),p,d];exact h.x
  m:=by rw[q 2 0 (by decide),s,d];exact h.m
  r:=by rw[q 3 0 (by decide),t,g];exact h.r
  ls:=by rw[q 4 0 (by decide),u,f];exact h.ls
  lw:=by rw[q 5 0 (by decide),w,f];exact h.lw
  v:=fun i x m j b=>by rw[q 6 i (by decide),q 7 i (by decide)];rw[d]at b;exact h.v i x m j b
  l:=fun i x m j b=>by rw[q 8 i (by decide),q 9 i (by decide)];rw[f]at b;exact h.l i x m j b
  fit:=by rw[g];exact h.fit
  len:=by rw[d,g,f];exact h.len
  rng:=z }
theorem bZ.boxed{M:Mc}(h:bZ n l a M T)(k b c d:Int)(s t:ByteArray)(W:World)(e:n.alloc (.cells #[.int .i64 k,.int .i64 b,.int .i64 c,.int .i64 d,.string s,.string t] 28)=W) :
  bZ W l a M T/\W.heap[n.heap.size]?=some (.cells #[.int .i64 k,.int .i64 b,.int .i64 c,.int .i64 d,.string s,.string t] 28 (0,0))/\l<n.heap.size/\ab [] n W:=by
 have f:ab [] n W:=by rw[<-e];exact(ab.refl [] _).alloc _
 exact⟨h.Vb f,by rw[<-e];exact QS _ _,ae h.blk,f⟩
theorem cQ{a c d:Int}(h:n.heap[l]?=some (.cells #[.int .i64 wd,.int .i64 a,.int .i64 c,.int .i64 d,.string y9,.string yd] 28 (0,0))) :
  n.cell? ⟨l,0,none⟩=some (.int .i64 wd)/\n.cell? ⟨l,1,none⟩=some (.int .i64 a)/\n.cell? ⟨l,2,none⟩=some (.int .i64 c)/\n.cell? ⟨l,3,none⟩=some (.int .i64 d)/\n.cell? ⟨l,4,none⟩=some (.string y9)/\n.cell? ⟨l,5,none⟩=some (.string yd)/\l<n.heap.size:=by
 refine⟨?_,?_,?_,?_,?_,?_,ae h⟩ <;> (rw[aa h];rfl)
set_option maxRecDepth 100000
theorem Pg(M:Mc)(A C D:Int)(s t:ByteArray)(c:World)(h:bZ c w g M k)(o:qB A)(p:qB C)(q:qB D) :
  Calls prog 11 #[.pointer (some ⟨w,0,none⟩),.agg #[.int .i64 7,.int .i64 A,.int .i64 C,.int .i64 D,.string s,.string t]] c fun e x=>iB w g M k true e x:=by
 obtain⟨W,d⟩:∃W,Hid (c.alloc (.cells #[.int .i64 7,.int .i64 A,.int .i64 C,.int .i64 D,.string s,.string t] 28)=W):=⟨_,rfl⟩
 obtain⟨b,f,r,-⟩:=h.boxed 7 A C D s t W d.out;obtain⟨G,H,I,J,K,L,N⟩:=cQ f;have z:W.cell? ⟨w,5,none⟩=some (.int .i64 M.a):=by rw[aa b.blk];rfl
 have B:W.cell? ⟨w,6,none⟩=some (.int .i64 M.n):=by rw[aa b.blk];rfl
 have E:W.cell? ⟨w,7,none⟩=some (.int .i64 M.e):=by rw[aa b.blk];rfl
 have F:=am b.blk;have y:=ae b.blk;have v:w≠c.heap.size:=by omega
 have l:c.heap.size≠w:=by omega
 have m:Hid (bZ (((W.setCell ⟨w,5,none⟩ (.int .i64 A)).setCell ⟨w,6,none⟩ (.int .i64 C)).setCell ⟨w,7,none⟩ (.int .i64 D)) w _ { M with a:=A,n:=C,e:=D } k) :=
  b.turn0 (M':={ M with a:=A,n:=C,e:=D }) ⟨⟨rfl,rfl,rfl,rfl,rfl⟩,rfl,rfl,rfl⟩ ((((ab.refl [w] _).setCell (Q1 (by simp)) _).setCell (Q1 (by simp)) _).setCell (Q1 (by simp)) _) (by rw[ah (ah (ah b.blk 5 _) 6 _) 7 _];rfl) ⟨o,p,q⟩
 clear h b f;go_enter func11,ntmps11
 go_upto_region 1 with fail
 rw[d.out];go_wp2;go_ret;exact⟨rfl,_,_,m.out.more,⟨fun j i u=>oY (by decide) u,rfl,rfl⟩⟩
theorem NI(M:Mc)(A C D:Int)(s t:ByteArray)(b:World)(h:bZ b w g M k) :
  Calls prog 11 #[.pointer (some ⟨w,0,none⟩),.agg #[.int .i64 16,.int .i64 A,.int .i64 C,.int .i64 D,.string s,.string t]] b fun e p=>iB w g M k true e p:=by
 obtain⟨W,c⟩:∃W,Hid (b.alloc (.cells #[.int .i64 16,.int .i64 A,.int .i64 C,.int .i64 D,.string s,.string t] 28)=W):=⟨_,rfl⟩
 obtain⟨a,d,m,-⟩:=h.boxed 16 A C D s t W c.out;obtain⟨x,y,z,B,E,F,G⟩:=cQ d;have v:=am a.blk;have q:=ae a.blk;have o:w≠b.heap.size:=by omega
 have f:b.heap.size≠w:=by omega
 have r:W.cell? ⟨w,8,none⟩=some (.int .i64 M.u):=by rw[aa a.blk];rfl
 have l:Hid (bZ (W.setCell ⟨w,8,none⟩ (.int .i64 A)) w _ { M with u:=A } k) :=
  a.turn0 (M':={ M with u:=A }) ⟨⟨rfl,rfl,rfl,rfl,rfl⟩,rfl,rfl,rfl⟩ ((ab.refl [w] _).setCell (Q1 (by simp)) _) (by rw[ah a.blk 8 _];rfl) a.rng
 clear h a d;go_enter func11,ntmps11
 go_upto_region 1 with fail
 rw[c.out];go_wp2;go_ret;exact⟨rfl,_,_,l.out.more,⟨fun j i n=>oY (by decide) n,rfl,rfl⟩⟩
theorem NJ(M:Mc)(A C D:Int)(s t:ByteArray)(b:World)(h:bZ b w g M k)(n:M.qv=.slice none 0 0) :
  Calls prog 11 #[.pointer (some ⟨w,0,none⟩),.agg #[.int .i64 17,.int .i64 A,.int .i64 C,.int .i64 D,.string s,.string t]] b fun e o=>iB w g M k true e o:=by
 obtain⟨W,c⟩:∃W,Hid (b.alloc (.cells #[.int .i64 17,.int .i64 A,.int .i64 C,.int .i64 D,.string s,.string t] 28)=W):=⟨_,rfl⟩
 obtain⟨a,d,l,-⟩:=h.boxed 17 A C D s t W c.out;obtain⟨r,u,v,x,y,z,B⟩:=cQ d;have q:=am a.blk;have p:=ae a.blk;have m:w≠b.heap.size:=by omega
 have f:b.heap.size≠w:=by omega
 have j:W.cell? ⟨w,15,none⟩=some (.slice none 0 0):=by rw[aa a.blk,<-n];rfl
 have i:Hid (bZ W w g M k):=a;clear h a d;go_enter func11,ntmps11
 go_upto_region 1 with fail
 rw[c.out];go_wp2;go_ret;exact⟨rfl,_,_,i.out.more,rh.refl _ _⟩
theorem lq(M:Mc)(b A C D:Int)(s t:ByteArray)(d:World)(h:bZ d w g M k)(o:(8<=b/\b<=14)∨19<=b) :
  Calls prog 11 #[.pointer (some ⟨w,0,none⟩),.agg #[.int .i64 b,.int .i64 A,.int .i64 C,.int .i64 D,.string s,.string t]] d fun e x=>e=.returned (.bool false)/\ab [] d x:=by
 obtain⟨W,i⟩:∃W,Hid (d.alloc (.cells #[.int .i64 b,.int .i64 A,.int .i64 C,.int .i64 D,.string s,.string t] 28)=W):=⟨_,rfl⟩
 obtain⟨l,f,n,c⟩:=h.boxed b A C D s t W i.out;obtain⟨I,-⟩:=cQ f;have j:Hid (ab [] d W):=c;have J:=ae f;have a:∀m:Int,(b=m->False)->(b==m)=false:=fun m p=>Rh.2 p
 have y:=a 1 (by omega);have z:=a 2 (by omega);have B:=a 3 (by omega);have E:=a 4 (by omega);have F:=a 5 (by omega);have G:=a 6 (by omega);have H:=a 7 (by omega);have q:=a 15 (by omega);have r:=a 16 (by omega);have u:=a 17 (by omega);have v:=a 18 (by omega);clear h l f a o c;go_enter func11,ntmps11
 go_upto_region 1 with fail
 rw[i.out];go_wp2;go_ret;exact⟨rfl,j.out⟩
theorem NH(M:Mc)(A C D:Int)(s t:ByteArray)(b:World)(h:bZ b w g M k) :
  Calls prog 11 #[.pointer (some ⟨w,0,none⟩),.agg #[.int .i64 15,.int .i64 A,.int .i64 C,.int .i64 D,.string s,.string t]] b fun e E=>iB w g M k true e E:=by
 obtain⟨W,c⟩:∃W,Hid (b.alloc (.cells #[.int .i64 15,.int .i64 A,.int .i64 C,.int .i64 D,.string s,.string t] 28)=W):=⟨_,rfl⟩
 obtain⟨a,d,y,-⟩:=h.boxed 15 A C D s t W c.out;obtain⟨J,K,L,N,O,P,Q⟩:=cQ d;have I:=am a.blk;have F:=ae a.blk;have B:w≠b.heap.size:=by omega
 have l:b.heap.size≠w:=by omega
 have G:W.cell? ⟨w,8,none⟩=some (.int .i64 M.u):=by rw[aa a.blk];rfl
 have H:W.cell? ⟨w,9,none⟩=some (.string M.s):=by rw[aa a.blk];rfl
 have n:W.cell? ⟨w,10,none⟩=some (.int .i64 M.p):=by rw[aa a.blk];rfl
 have o:W.cell? ⟨w,11,none⟩=some (.int .i64 M.q):=by rw[aa a.blk];rfl
 have r:W.cell? ⟨w,12,none⟩=some (.string M.f):=by rw[aa a.blk];rfl
 have v:W.cell? ⟨w,13,none⟩=some (.int .i64 M.i):=by rw[aa a.blk];rfl
 have x:W.cell? ⟨w,14,none⟩=some (.int .i64 M.j):=by rw[aa a.blk];rfl
 have m:Hid (bZ (((((((W.setCell ⟨w,9,none⟩ (.string s)).setCell ⟨w,10,none⟩ (.int .i64 A)).setCell ⟨w,11,none⟩ (.int .i64 C)).setCell ⟨w,12,none⟩ (.string t)).setCell ⟨w,13,none⟩ (.int .i64 D)).setCell ⟨w,14,none⟩ (.int .i64 M.u)).drew) w _ { M with s:=s,p:=A,q:=C,f:=t,i:=D,j:=M.u } k) :=
  (a.turn0 (M':={ M with s:=s,p:=A,q:=C,f:=t,i:=D,j:=M.u }) ⟨⟨rfl,rfl,rfl,rfl,rfl⟩,rfl,rfl,rfl⟩ ((((((((ab.refl [w] _).setCell (Q1 (by simp)) _).setCell (Q1 (by simp)) _).setCell (Q1 (by simp)) _).setCell (Q1 (by simp)) _).setCell (Q1 (by simp)) _).setCell (Q1 (by simp)) _)) (by rw[ah (ah (ah (ah (ah (ah a.blk 9 _) 10 _) 11 _) 12 _) 13 _) 14 _];rfl) a.rng).Vb (ab.refl [] _).drew
 clear h a d;go_enter func11,ntmps11
 go_upto_region 1 with fail
 rw[c.out]
 go_upto_region 38 with fail
 go_region
 all_goals go_wp2
 all_goals go_ret
 all_goals exact⟨rfl,_,_,m.out.more,⟨fun j i z=>oY (by decide) z,rfl,rfl⟩⟩
theorem bZ.clear{M:Mc}(h:bZ n l a M T)(k:ab [l] n N)(o:N.heap[l]?=some (.cells ({ M with hr:=⟨none,0⟩,reg:=[] }:Mc).cells.toArray 42 (0,0))):∃f,bZ N l f { M with hr:=⟨none,0⟩,reg:=[] } T/\rh a M f { M with hr:=⟨none,0⟩,reg:=[] }:=by
 have w:=h.sep.turn h.w0 k o;have y:=w.put (3,0) (ce ⟨none,0⟩ (cr [])) ((ab.refl _ N).mono (fun _ u _=>u)) (QZ _ _ _ _) (fun q t=>by cases t);refine⟨fk (fk a (0,0) (rB l 42 ({ M with hr:=⟨none,0⟩,reg:=[] }:Mc).cells)) (3,0) (ce ⟨none,0⟩ (cr [])),?_,?_⟩
 rotate_left
 ·exact⟨fun j i s=>by(repeat rw[oY (by decide) s]),rfl,rfl⟩
 have q:∀b i,b≠0->b≠3->(fk (fk a (0,0) (rB l 42 ({ M with hr:=⟨none,0⟩,reg:=[] }:Mc).cells)) (3,0) (ce ⟨none,0⟩ (cr []))) (b,i)=a (b,i):=fun b i g p=>by rw[aq _ _ (bn p),aq _ _ (bn g)]
 exact {
  sep:=y
  w0:=by rw[aq _ _ (bn (by decide))];exact bJ _ _ _
  x:=by rw[q 1 0 (by decide) (by decide)];exact h.x
  m:=by rw[q 2 0 (by decide) (by decide)];exact h.m
  r:=bJ _ _ _
  ls:=by rw[q 4 0 (by decide) (by decide)];exact h.ls
  lw:=by rw[q 5 0 (by decide) (by decide)];exact h.lw
  v:=fun i x m d e=>by rw[q 6 i (by decide) (by decide),q 7 i (by decide) (by decide)];exact h.v i x m d e
  l:=fun i x m d e=>by rw[q 8 i (by decide) (by decide),q 9 i (by decide) (by decide)];exact h.l i x m d e
  fit:=fun j=>⟨by show(0:Nat)<=_;omega,by show(0:Nat)<=_;omega⟩
  len:=⟨h.len.1,Ro _,h.len.2.2⟩
  rng:=h.rng }
theorem Pc(b N:Nat)(I:Nat×Nat->It)(M:Mc)(A C D:Int)(s t:ByteArray)(w:World)(h:bZ w b I M N) :
  Calls prog 11 #[.pointer (some ⟨b,0,none⟩),.agg #[.int .i64 3,.int .i64 A,.int .i64 C,.int .i64 D,.string s,.string t]] w fun e o=>iB b I M N true e o:=by
 obtain⟨W,f⟩:∃W,Hid (w.alloc (.cells #[.int .i64 3,.int .i64 A,.int .i64 C,.int .i64 D,.string s,.string t] 28)=W):=⟨_,rfl⟩
 obtain⟨a,g,l,-⟩:=h.boxed 3 A C D s t W f.out;obtain⟨u,v,x,y,z,B,E⟩:=cQ g;have r:=am a.blk;have p:=ae a.blk;have m:b≠w.heap.size:=by omega
 have i:w.heap.size≠b:=by omega
 have q:W.cell? ⟨b,2,none⟩=some (.slice M.hr.ao M.reg.length M.hr.cap):=by rw[aa a.blk];rfl
 have j:Hid (∃c,bZ (W.setCell ⟨b,2,none⟩ (.slice none 0 0)) b c { M with hr:=⟨none,0⟩,reg:=[] } N/\rh I M c { M with hr:=⟨none,0⟩,reg:=[] }) :=
  a.clear ((ab.refl [b] _).setCell (Q1 (by simp)) _) (by rw[ah a.blk 2 _];rfl)
 clear h a g;go_enter func11,ntmps11
 go_upto_region 1 with fail
 rw[f.out];go_wp2;go_ret;obtain⟨c,k,d⟩:=j.out;exact⟨rfl,c,_,k.more,d⟩
theorem cZ{d:List Oper}(H:x5.guard=none)(s x:Operand)(t:TypeId)(q:x5.op=Op.call { callee:=Callee.builtin Builtin.append,args:=#[s,x],argTypes:=#[t,t] })(i:TypeInfo)(z:Value)(c:Nat)(h:Hd)(r:dN)(a:List Value)(w:x8.underlying t=some (.slice r.e))(y:x8.info? r.e=some i)(A:i.zero=some z)(B:i.size=r.size)(C:i.bytes=c)(D:z.cells.size=r.size)(E:0<r.size)(L:v5.eval s=.slice h.ao r.n h.cap)(f:aw b h r)(Q:r.n<=4294967296)(G:c<=1000)(M:v5.eval x=.slice (some ⟨b.heap.size,0,none⟩) 1 1)(R:a.length=r.size)(m:∀u∈a,u.oneCell'=true)(F:∀l k,aw k l ⟨r.e,r.size,r.n+1,r.xs++a⟩->bt b k h l->wpList x8 u3 u4 d (v5.put x5.dst (.slice l.ao (r.n+1) l.cap)) k) :
  wpList x8 u3 u4 (x5 :: d) v5 (b.alloc (.cells a.toArray r.e)):=by
 have v:ab [] b (b.alloc (.cells a.toArray r.e)):=(ab.refl [] _).alloc _;have J:(b.alloc (.cells a.toArray r.e)).heap[b.heap.size]?=some (.cells a.toArray r.e (0,0)):=QS _ _;obtain⟨p,k,g,N,O⟩:=pE (P:=x8) (b.alloc (.cells a.toArray r.e)) t x5.type i z c h r w y A B C D E (f.Vb v) (some ⟨b.heap.size,0,none⟩) 1 1 a (by omega) (fun e=>by cases e) (fun P e j u I=>by cases e;rw[bL,aa J];simpa using I) m (by unfold maxLen;omega) (Q3 (SL (show r.n+1<=4294967297 by omega) G) (by omega));refine wpList_plain H fun K o=>?_
 unfold Oper.wp;simp[execOp,q,resolve,invoke,builtin,L,M,g,Result.andThen];exact o _ _ (F p k N ((bt.Vb v).trans O))
theorem uo{K:Act->World->Prop}{E:Prop}(H:x5.guard=none)(s x:Operand)(t:TypeId)(p:x5.op=Op.call { callee:=Callee.builtin Builtin.append,args:=#[s,x],argTypes:=#[t,t] })(i:TypeInfo)(z:Value)(c:Nat)(h:Hd)(r:dN)(a:List Value)(v:x8.underlying t=some (.slice r.e))(w:x8.info? r.e=some i)(y:i.zero=some z)(A:i.size=r.size)(B:i.bytes=c)(C:z.cells.size=r.size)(D:0<r.size)(L:v5.eval s=.slice h.ao r.n h.cap)(k:aw b h r)(R:r.n<=4294967296)(G:c<=1000)(N:v5.eval x=.slice (some ⟨b.heap.size,0,none⟩) 1 1)(S:a.length=r.size)(o:∀u∈a,u.oneCell'=true)(F:∀f d m,aw m ⟨f,d⟩ ⟨r.e,r.size,r.n+1,r.xs++a⟩->bt b m h ⟨f,d⟩->K (v5.put x5.dst (.slice f (r.n+1) d)) m) :
  if Region.wanted x5 (yielded u3 v5.tmps)=true then Oper.wp x8 x5 v5 (b.alloc (.cells a.toArray r.e)).drew K u4 else E:=by
 have q:ab [] b (b.alloc (.cells a.toArray r.e)).drew:=((ab.refl [] _).alloc _).drew;have J:(b.alloc (.cells a.toArray r.e)).drew.heap[b.heap.size]?=some (.cells a.toArray r.e (0,0)):=QS _ _;obtain⟨g,m,l,O,P⟩:=pE (P:=x8) (b.alloc (.cells a.toArray r.e)).drew t x5.type i z c h r v w y A B C D (k.Vb q) (some ⟨b.heap.size,0,none⟩) 1 1 a (by omega) (fun e=>by cases e) (fun Q e j u I=>by cases e;rw[bL,aa J];simpa using I) o (by unfold maxLen;omega) (Q3 (SL (show r.n+1<=4294967297 by omega) G) (by omega));have M:Region.wanted x5 (yielded u3 v5.tmps)=true:=by simp[Region.wanted,H]
 rw[QW M];unfold Oper.wp;simp[execOp,p,resolve,invoke,builtin,L,N,l,Result.andThen];exact F g.ao g.cap m O ((bt.Vb q).trans P)
theorem nJ.grown(s:nJ n a)(f:a (0,0)=rB l T vc)(h:yg≠(0,0))(e:a yg=ce L wu)(g:bt n N L yf)(o:aw N yf wv)(j:Nat)(v:Value) :
  nJ (N.setCell ⟨l,j,none⟩ v) (fk (fk a yg (ce yf wv)) (0,0) (rB l T (vc.set j v))):=by
 have d:=s.grow e g o;have b:fk a yg (ce yf wv) (0,0)=rB l T vc:=by rw[aq _ _ (Ne.symm h)];exact f
 refine d.turn b ((ab.refl [l] _).setCell (Q1 (by simp)) _) ?_;have c:=d.all (0,0);rw[b]at c;rw[ah (show N.heap[l]?=some (.cells vc.toArray T (0,0)) from c) j v,Ru]
theorem JC(f:ByteArray×ByteArray):∀u∈Ou f,u.oneCell'=true:=by
 intro u a;simp only[Ou,List.mem_cons,List.not_mem_nil,or_false]at a
 rcases a with rfl | rfl <;> rfl
theorem zR(h:ld y)(b:y9.size<=1073741824)(a:yd.size<=1073741824):ld (y++[(y9,yd)]):=by
 intro j;have:=h j;unfold aE ak at *;rw[QQ]at *
 by_cases e:j<y.length
 ·rw[Q7 e];exact this
 ·rw[Q5 (by omega)]
  cases c:j-y.length with
  | zero=>exact⟨b,a⟩
  | succ q=>exact⟨by show(0:Nat)<=_;omega,by show(0:Nat)<=_;omega⟩
theorem bZ.addR{M:Mc}(h:bZ n l a M T)(g:bt n N M.hr L)(o:aw N L (cr (M.reg++[(y9,yd)])))(w:y9.size<=1073741824)(t:yd.size<=1073741824):∃f k,bZ (N.setCell ⟨l,2,none⟩ (.slice L.ao (M.reg.length+1) L.cap)) l f k (T+1)/\rh a M f k:=by
 have y:=h.sep.grown h.w0 (bn (by decide)) h.r g o 2 (.slice L.ao (M.reg.length+1) L.cap);refine⟨fk (fk a (3,0) (ce L (cr (M.reg++[(y9,yd)])))) (0,0) (rB l 42 (M.cells.set 2 (.slice L.ao (M.reg.length+1) L.cap))),{ M with hr:=L,reg:=M.reg++[(y9,yd)] },?_,?_⟩
 rotate_left
 ·exact⟨fun j i u=>by(repeat rw[oY (by decide) u]),rfl,rfl⟩
 have q:∀b i,b≠0->b≠3->(fk (fk a (3,0) (ce L (cr (M.reg++[(y9,yd)])))) (0,0) (rB l 42 (M.cells.set 2 (.slice L.ao (M.reg.length+1) L.cap)))) (b,i)=a (b,i):=fun b i p s=>by rw[aq _ _ (bn p),aq _ _ (bn s)]
 have d:=h.more
 exact {
  sep:=y
  w0:=by rw[bJ];unfold Mc.cells;rw[Q0];rfl
  x:=by rw[q 1 0 (by decide) (by decide)];exact h.x
  m:=by rw[q 2 0 (by decide) (by decide)];exact h.m
  r:=by rw[aq _ _ (bn (by decide))];exact bJ _ _ _
  ls:=by rw[q 4 0 (by decide) (by decide)];exact h.ls
  lw:=by rw[q 5 0 (by decide) (by decide)];exact h.lw
  v:=fun i x m c e=>by rw[q 6 i (by decide) (by decide),q 7 i (by decide) (by decide)];exact h.v i x m c e
  l:=fun i x m c e=>by rw[q 8 i (by decide) (by decide),q 9 i (by decide) (by decide)];exact d.l i x m c e
  fit:=zR h.fit w t
  len:=⟨d.len.1,by have:=h.len.2.1;show(M.reg++[(y9,yd)]).length<=_;rw[Q0];show _+1<=_;omega,d.len.2.2⟩
  rng:=h.rng }
theorem Pb(M:Mc)(A C D:Int)(s t:ByteArray)(m:World)(h:bZ m w g M k)(Z:k<=1073741824)(O:s.size<=1073741824)(P:t.size<=1073741824) :
  Calls prog 11 #[.pointer (some ⟨w,0,none⟩),.agg #[.int .i64 2,.int .i64 A,.int .i64 C,.int .i64 D,.string s,.string t]] m fun e R=>iB w g M k true e R:=by
 obtain⟨W,x⟩:∃W,Hid (m.alloc (.cells #[.int .i64 2,.int .i64 A,.int .i64 C,.int .i64 D,.string s,.string t] 28)=W):=⟨_,rfl⟩
 obtain⟨a,z,K,-⟩:=h.boxed 2 A C D s t W x.out;obtain⟨o0,o1,o2,o3,o4,o5,oz⟩:=cQ z;obtain⟨Q,q,i,j,l⟩:=Re zZ;have Y:=am a.blk;have T:=ae a.blk;have L:w≠m.heap.size:=by omega
 have B:m.heap.size≠w:=by omega
 have U:W.cell? ⟨w,2,none⟩=some (.slice M.hr.ao M.reg.length M.hr.cap):=by rw[aa a.blk];rfl
 have v:Hid (bZ W w g M k):=a;have o:=a.ownR;have p:Hid ((cr M.reg).n<=4294967296):=by show M.reg.length<=_;have:=h.len.2.1;omega
 have c:Hid ((cr M.reg).n=M.reg.length):=rfl;have b:Hid (w∉M.hr.blk.toList):=fun N=>a.sep.far (0,0) (3,0) (bn (by decide)) w (by rw[a.w0];exact Q9.2 rfl) (by rw[a.r];exact N)
 clear h a z;go_enter func11,ntmps11
 go_upto_region 1 with fail
 rw[x.out]
 go_upto_region 9 with fail
 go_region_law (refine uo W rfl (.tmp 51) (.tmp 57) 33 rfl Q (.agg #[.string ⟨#[]⟩,.string ⟨#[]⟩]) 32 M.hr (cr M.reg) (Ou (s,t)) underlying33 q i j l rfl Uq (by rw[c.out];simp[Act.eval]) o p.out (by omega) (by simp[Act.eval]) rfl (JC (s,t)) ?_;intro H y S f d;have u:=d.kept.get v.out.blk b.out;have X:=am u 2;have V:S.cell? ⟨w,2,none⟩=some (.slice M.hr.ao M.reg.length M.hr.cap):=(by rw[aa u];rfl);have z5:=ae u)
 all_goals
  rw[wX]at f;have E:Hid _:=v.out.addR d f O P;rw[c.out];go_wp2;go_ret;obtain⟨F,G,I,J⟩:=E.out;exact⟨rfl,F,G,I,J⟩
theorem OZ:(prog.info? 46).map (fun i=>(i.zero,i.size,i.bytes))=some (some (.pointer none),1,8):=by kernel_rfl
theorem OX:(prog.info? 47).map (fun i=>(i.zero,i.size,i.bytes))=some (some (.pointer none),1,8):=by kernel_rfl
theorem zd:(⟨(lB w vd).e,(lB w vd).size,(lB w vd).n+1,(lB w vd).xs++[NY k]⟩:dN)=lB w (vd++[k]):=by
 simp[lB]
theorem bZ.addV{b:Mc}(h:bZ n l a b T)(d:wz=fk (fk a (6,b.V.length) (O6 M [] 0 0 none)) (7,b.V.length) (O4 vs ⟨none,0⟩ [] 0 0 none))(q:nJ N (fk (fk (fk (fk wz (1,0) (ce L (lB 46 (b.V.map (·.1)++[M])))) (0,0) (rB l 42 (b.cells.set 0 (.slice L.ao (b.V.length+1) L.cap)))) (2,0) (ce yf (lB 47 (b.V.map (·.2.1)++[vs])))) (0,0) (rB l 42 ((b.cells.set 0 (.slice L.ao (b.V.length+1) L.cap)).set 1 (.slice yf.ao (b.V.length+1) yf.cap))))) :
  ∃k o,bZ N l k o (T+1)/\rh a b k o:=by
 refine⟨_,{ b with hx:=L,hm:=yf,V:=b.V++[(M,vs,[])] },⟨q,?_,?_,?_,?_,?_,?_,?_,?_,?_,?_,?_⟩,?_⟩
 ·rw[bJ];unfold Mc.cells;rw[Q0];rfl
 ·rw[aq _ _ (bn (by decide)),aq _ _ (bn (by decide)),aq _ _ (bn (by decide)),bJ,Ry];rfl
 ·rw[aq _ _ (bn (by decide)),bJ,Ry];rfl
 ·subst d;simp only[fk];exact h.r
 ·subst d;simp only[fk];exact h.ls
 ·subst d;simp only[fk];exact h.lw
 ·intro i x m f c
  rw[aq _ _ (bn (by decide)),aq _ _ (bn (by decide)),aq _ _ (bn (by decide)),aq _ _ (bn (by decide)),aq _ _ (bn (by decide)),aq _ _ (bn (by decide)),aq _ _ (bn (by decide)),aq _ _ (bn (by decide))];replace c:(b.V++[(M,vs,[])])[i]?=some (x,m,f):=c;subst d
  by_cases e:i<b.V.length
  ·rw[Q7 e]at c
   rw[aq _ _ (bn (by decide)),aq _ _ (rC (by omega)),aq _ _ (rC (by omega)),aq _ _ (bn (by decide))];exact h.v i x m f c
  ·have p:i=b.V.length:=by
    have:=(Q8.1 c).1;rw[Q0]at this;have:i<b.V.length+1:=this;omega
   subst p;rw[Q5 (QR _),RY]at c
   cases c
   rw[aq _ _ (bn (by decide)),bJ,bJ];exact⟨⟨none,⟨none,0⟩,0,0,0,0,rfl,rfl⟩,fun j g=>by cases g⟩
 ·intro i x m f c
  subst d;simp only[fk];exact h.more.l i x m f c
 ·exact h.fit
 ·refine⟨?_,h.more.len.2.1,h.more.len.2.2⟩
  have:=h.len.1
  show(b.V++[(M,vs,[])]).length<=_
  rw[Q0];show _+1<=_;omega
 ·exact h.rng
 ·subst d;exact⟨fun j i g=>by(repeat rw[oY (by decide) g]),rfl,rfl⟩
theorem Pa(M:Mc)(A C D:Int)(s t:ByteArray)(ar:World)(h:bZ ar w g M k)(hN:k<=1073741824) :
  Calls prog 11 #[.pointer (some ⟨w,0,none⟩),.agg #[.int .i64 1,.int .i64 A,.int .i64 C,.int .i64 D,.string s,.string t]] ar fun e w'=>iB w g M k true e w':=by
 obtain⟨W,HW⟩:∃W,Hid (ar.alloc (.cells #[.int .i64 1,.int .i64 A,.int .i64 C,.int .i64 D,.string s,.string t] 28)=W):=⟨_,rfl⟩
 obtain⟨hM,hB,ax,-⟩:=h.boxed 1 A C D s t W HW.out;obtain⟨o0,-⟩:=cQ hB;have oz:=ae hB;obtain⟨iX,ap,Q,R,S⟩:=Re OZ;obtain⟨iM,an,N,O,P⟩:=Re OX;have r:Hid (bZ W w g M k):=hM;have al:Hid ((lB 46 (M.V.map (·.1))).n<=4294967296):=by show(M.V.map _).length<=_;rw[Ri];have:=h.len.1;omega
 have ai:Hid ((lB 47 (M.V.map (·.2.1))).n<=4294967296):=by show(M.V.map _).length<=_;rw[Ri];have:=h.len.1;omega
 have E:Hid ((lB 46 (M.V.map (·.1))).n=M.V.length):=Ri _;have z:Hid ((lB 47 (M.V.map (·.2.1))).n=M.V.length):=Ri _;clear h hM hB;go_enter func11,ntmps11
 go_upto_region 1 with fail
 rw[HW.out]
 go_upto_region 5 with (go_at_call 27;refine QU (NN W) ?_;rintro e U ⟨rfl,hX,k1⟩)
 have S1:Hid _:=r.out.sep.put (6,M.V.length) (O6 W.heap.size [] 0 0 none) (k1.mono (by simp)) ⟨Ro _,hX⟩ (fun q l=>QV (by rcases Rj.1 l with e | e;exact US e.symm;exact absurd (ng.1 e).2 (T0 _)))
 go_upto_region 6 with (go_at_call 28;refine QU (IX U) ?_;rintro e w2 ⟨rfl,hY,k2⟩)
 have S2:Hid _:=(S1.out.put (7,M.V.length) (O4 U.heap.size ⟨none,0⟩ [] 0 0 none) (k2.mono (by simp)) ⟨Ro _,_,_,_,hY⟩ (fun q l=>QV (by rcases Rj.1 l with e | e;exact US e.symm;exact absurd (ng.1 (show q∈ie 0 0 from e)).2 (T0 _))));have a:Hid _:=(r.out.Vb k1).Vb k2;clear hX hY k1 k2;have c0:w2.cell? ⟨w,0,none⟩=some (.slice M.hx.ao M.V.length M.hx.cap):=by rw[aa a.out.blk];rfl
 have fb:=am a.out.blk;have bz:=ae a.out.blk;have H:=a.out.ownX;have y:Hid (w∉M.hx.blk.toList):=fun l=>a.out.sep.far (0,0) (1,0) (bn (by decide)) w (by rw[a.out.w0];exact Q9.2 rfl) (by rw[a.out.x];exact l)
 obtain⟨J,p⟩:∃J,Hid (J=fk (fk g (6,M.V.length) (O6 W.heap.size [] 0 0 none)) (7,M.V.length) (O4 U.heap.size ⟨none,0⟩ [] 0 0 none)):=⟨_,rfl⟩
 rw[<-p.out]at S2;have ad:Hid (J (0,0)=rB w 42 M.cells):=by show _=_;rw[p.out,aq _ _ (bn (by decide)),aq _ _ (bn (by decide))];exact r.out.w0
 have af:Hid (J (1,0)=ce M.hx (lB 46 (M.V.map (·.1)))):=by show _=_;rw[p.out,aq _ _ (bn (by decide)),aq _ _ (bn (by decide))];exact r.out.x
 have ag:Hid (J (2,0)=ce M.hm (lB 47 (M.V.map (·.2.1)))):=by show _=_;rw[p.out,aq _ _ (bn (by decide)),aq _ _ (bn (by decide))];exact r.out.m
 obtain⟨X,B⟩:∃X,Hid (W.heap.size=X):=⟨_,rfl⟩
 obtain⟨Y,F⟩:∃Y,Hid (U.heap.size=Y):=⟨_,rfl⟩
 rw[B.out,F.out]at p;rw[B.out,F.out]
 go_upto_region 7 with (at_builtin;refine cZ w2 rfl (.tmp 29) (.tmp 31) 31 rfl iX (.pointer none) 8 M.hx (lB 46 (M.V.map (·.1))) [NY X] underlying31 ap Q R S rfl Rc (by rw[E.out];simp[Act.eval]) H al.out (by omega) (by simp[Act.eval]) rfl (by simp[NY,Value.oneCell']) ?_;intro b w5 o j;rw[zd]at o;have T:=j.kept.get a.out.blk y.out;have f5:=am T;have c5:w5.cell? ⟨w,0,none⟩=some (.slice M.hx.ao M.V.length M.hx.cap):=(by rw[aa T];rfl);have z5:=ae T)
 rw[E.out];have u:Hid _:=(S2.out.grown ad.out (bn (by decide)) af.out j o 0 (.slice b.ao (M.V.length+1) b.cap));obtain⟨v,ac⟩:∃v,Hid (w5.setCell ⟨w,0,none⟩ (.slice b.ao (M.V.length+1) b.cap)=v):=⟨_,rfl⟩
 rw[ac.out]at u ⊢;have c:Hid _:=bJ (fk J (1,0) (ce b (lB 46 (M.V.map (·.1)++[X])))) (0,0) (rB w 42 (M.cells.set 0 (.slice b.ao (M.V.length+1) b.cap)));obtain⟨J6,f⟩:∃J6,Hid (fk (fk J (1,0) (ce b (lB 46 (M.V.map (·.1)++[X])))) (0,0) (rB w 42 (M.cells.set 0 (.slice b.ao (M.V.length+1) b.cap)))=J6):=⟨_,rfl⟩
 have i:Hid (J6 (2,0)=ce M.hm (lB 47 (M.V.map (·.2.1)))):=by show _=_;rw[<-f.out,aq _ _ (bn (by decide)),aq _ _ (bn (by decide))];exact ag.out
 rw[f.out]at u c
 have G:v.heap[w]?=some (.cells (M.cells.set 0 (.slice b.ao (M.V.length+1) b.cap)).toArray 42 (0,0)):=by
  have:=u.out.all (0,0);rw[c.out]at this;exact this
 have Z:Hid _:=G
 have I:aw v M.hm (lB 47 (M.V.map (·.2.1))):=by
  have:=u.out.all (2,0);rw[i.out]at this;exact this
 have d:Hid (w∉M.hm.blk.toList):=fun l=>u.out.far (0,0) (2,0) (bn (by decide)) w (by rw[c.out];exact Q9.2 rfl) (by rw[i.out];exact l)
 clear T f5 c5 z5 o j c0 fb bz H;have c1:v.cell? ⟨w,1,none⟩=some (.slice M.hm.ao M.V.length M.hm.cap):=by rw[aa G];rfl
 have fb:=am G;have bz:=ae G;clear G;go_wp2_with (at_builtin;refine cZ v rfl (.tmp 39) (.tmp 41) 32 rfl iM (.pointer none) 8 M.hm (lB 47 (M.V.map (·.2.1))) [NY Y] underlying32 an N O P rfl Rc (by rw[z.out];simp[Act.eval]) I ai.out (by omega) (by simp[Act.eval]) rfl (by simp[NY,Value.oneCell']) ?_;intro h7 w7 L K;rw[zd]at L;have p7:=K.kept.get Z.out d.out;have f7:=am p7;have c7:w7.cell? ⟨w,1,none⟩=some (.slice M.hm.ao M.V.length M.hm.cap):=(by rw[aa p7];rfl);have z7:=ae p7;rw[z.out]);go_ret;have S7:=u.out.grown c.out (bn (by decide)) i.out K L 1 (.slice h7.ao (M.V.length+1) h7.cap);rw[<-f.out]at S7;exact⟨rfl,r.out.addV p.out S7⟩
theorem Lw:(prog.info? 33).map (fun i=>(i.zero,i.size,i.bytes))=some (some (.slice none 0 0),1,24):=by kernel_rfl
theorem qt(L:List (Option Nat×Fs))(x:Option Nat×Fs):(⟨(ig L).e,(ig L).size,(ig L).n+1,(ig L).xs++[Aj x]⟩:dN)=ig (L++[x]):=by
 simp[ig]
theorem aw.srcO(o:aw n L (cr y)):kR n L.ao y:=by
 intro k d;obtain⟨g,e,c,a,b⟩:=o.srcFi.2 k d;exact⟨g,0,e,c,by rw[SJ];exact a,by rw[SJ];exact b⟩
theorem bZ.addL{a c:Option Nat}{fs:Fs}{M:Mc}(h:bZ n l a M T)(s:ld fs)(p:fs.length<=T+1)(d:wz=fk (fk (fk a (8,M.L.length) (uI a fs)) (4,0) (ce L (ig (M.L.map (fun g=>(g.1,g.2.2))++[(a,fs)])))) (0,0) (rB l 42 (M.cells.set 3 (.slice L.ao (M.L.length+1) L.cap))))(u:nJ N (fk (fk (fk wz (9,M.L.length) (uI c fs)) (5,0) (ce yf (ig (M.L.map (fun g=>(g.2.1,g.2.2))++[(c,fs)])))) (0,0) (rB l 42 ((M.cells.set 3 (.slice L.ao (M.L.length+1) L.cap)).set 4 (.slice yf.ao (M.L.length+1) yf.cap))))) :
  ∃k o,bZ N l k o (T+1)/\rh a M k o:=by
 refine⟨_,{ M with hl:=L,hc:=yf,L:=M.L++[(a,c,fs)] },⟨u,?_,?_,?_,?_,?_,?_,?_,?_,?_,?_,?_⟩,?_⟩
 ·rw[bJ];unfold Mc.cells;rw[Q0];rfl
 ·subst d;simp only[fk];exact h.x
 ·subst d;simp only[fk];exact h.m
 ·subst d;simp only[fk];exact h.r
 ·subst d;rw[aq _ _ (bn (by decide)),aq _ _ (bn (by decide)),aq _ _ (bn (by decide)),aq _ _ (bn (by decide)),bJ,Ry];rfl
 ·rw[aq _ _ (bn (by decide)),bJ,Ry];rfl
 ·intro i x m fs b
  subst d;simp only[fk];exact h.v i x m fs b
 ·intro i x m f b
  rw[aq _ _ (bn (by decide)),aq _ _ (bn (by decide)),aq _ _ (bn (by decide)),aq _ _ (bn (by decide)),aq _ _ (bn (by decide))];replace b:(M.L++[(a,c,fs)])[i]?=some (x,m,f):=b;subst d;rw[aq _ _ (bn (by decide)),aq _ _ (bn (by decide))]
  by_cases e:i<M.L.length
  ·rw[Q7 e]at b
   rw[aq _ _ (rC (by omega)),aq _ _ (rC (by omega)),aq _ _ (bn (by decide)),aq _ _ (bn (by decide)),aq _ _ (bn (by decide))];exact h.more.l i x m f b
  ·have q:i=M.L.length:=by
    have:=(Q8.1 b).1;rw[Q0]at this;have:i<M.L.length+1:=this;omega
   subst q;rw[Q5 (QR _),RY]at b
   cases b
   rw[bJ,bJ];exact⟨rfl,rfl,s,p⟩
 ·exact h.fit
 ·refine⟨h.more.len.1,h.more.len.2.1,?_⟩
  have:=h.len.2.2
  show(M.L++[(a,c,fs)]).length<=_
  rw[Q0];show _+1<=_;omega
 ·exact h.rng
 ·subst d;exact⟨fun j i t=>by(repeat rw[oY (by decide) t]),rfl,rfl⟩
theorem nJ.rowAt(s:nJ n a)(b:a (0,0)=rB l T vc)(c:yg≠(0,0))(e:a yg=ce L wu):n.heap[l]?=some (.cells vc.toArray T (0,0))/\aw n L wu/\l∉L.blk.toList:=by
 refine⟨?_,?_,fun d=>s.far (0,0) yg (Ne.symm c) l (by rw[b];exact Q9.2 rfl) (by rw[e];exact d)⟩
 ·have:=s.all (0,0);rw[b]at this;exact this
 ·have:=s.all yg;rw[e]at this;exact this
theorem Pe(M:Mc)(A C D:Int)(s t:ByteArray)(ag:World)(h:bZ ag w g M k)(hN:k<=1073741824) :
  Calls prog 11 #[.pointer (some ⟨w,0,none⟩),.agg #[.int .i64 5,.int .i64 A,.int .i64 C,.int .i64 D,.string s,.string t]] ag fun e w'=>iB w g M k true e w':=by
 obtain⟨W,HW⟩:∃W,Hid (ag.alloc (.cells #[.int .i64 5,.int .i64 A,.int .i64 C,.int .i64 D,.string s,.string t] 28)=W):=⟨_,rfl⟩
 obtain⟨v,hB,ai,-⟩:=h.boxed 5 A C D s t W HW.out;obtain⟨o0,-⟩:=cQ hB;have oz:=ae hB;obtain⟨iX,T,m,o,p⟩:=Re Lw;have HM:Hid (bZ W w g M k):=v;have af:Hid ((ig (M.L.map (fun l=>(l.1,l.2.2)))).n<=4294967296):=by show(M.L.map _).length<=_;rw[Ri];have:=h.len.2.2;omega
 have ad:Hid ((ig (M.L.map (fun l=>(l.2.1,l.2.2)))).n<=4294967296):=by show(M.L.map _).length<=_;rw[Ri];have:=h.len.2.2;omega
 have F:Hid ((ig (M.L.map (fun l=>(l.1,l.2.2)))).n=M.L.length):=Ri _;have z:Hid ((ig (M.L.map (fun l=>(l.2.1,l.2.2)))).n=M.L.length):=Ri _;have Z:Hid (nJ W (fk g (8,M.L.length) (uI none []))):=v.sep.put _ _ (ab.refl _ _) ⟨fun _=>rfl,fun w e=>by cases e⟩ (fun q hq=>by cases hq);obtain⟨J,y⟩:∃J,Hid (J=fk g (8,M.L.length) (uI none [])):=⟨_,rfl⟩
 rw[<-y.out]at Z;have N:Hid (J (0,0)=rB w 42 M.cells):=by show _=_;rw[y.out,aq _ _ (bn (by decide))];exact v.w0
 have O:Hid (J (4,0)=ce M.hl (ig (M.L.map (fun l=>(l.1,l.2.2))))):=by show _=_;rw[y.out,aq _ _ (bn (by decide))];exact v.ls
 have ac:Hid (J (5,0)=ce M.hc (ig (M.L.map (fun l=>(l.2.1,l.2.2))))):=by show _=_;rw[y.out,aq _ _ (bn (by decide))];exact v.lw
 obtain⟨V,Q,f⟩:=Z.out.rowAt N.out (bn (by decide)) O.out;have B:Hid (W.heap[w]?=some (.cells M.cells.toArray 42 (0,0))/\w∉M.hl.blk.toList):=⟨V,f⟩;have c0:W.cell? ⟨w,3,none⟩=some (.slice M.hl.ao M.L.length M.hl.cap):=by rw[aa V];rfl
 have fb:=am V;have bz:=ae V;clear h v hB V f;go_enter func11,ntmps11
 go_upto_region 1 with fail
 rw[HW.out]
 go_upto_region 22 with (at_builtin;refine cZ W rfl (.tmp 105) (.tmp 106) 34 rfl iX (.slice none 0 0) 24 M.hl (ig (M.L.map (fun l=>(l.1,l.2.2)))) [Aj (none,[])] underlying34 T m o p rfl Rc (by rw[F.out];simp[Act.eval]) Q af.out (by omega) (by simp[Act.eval]) rfl (by simp[Aj,Value.oneCell']) ?_;intro b w5 u r;rw[qt]at u;have X:=r.kept.get B.out.1 B.out.2;have f5:=am X;have c5:w5.cell? ⟨w,3,none⟩=some (.slice M.hl.ao M.L.length M.hl.cap):=(by rw[aa X];rfl);have z5:=ae X)
 rw[F.out];have S5:Hid _:=(Z.out.grown N.out (bn (by decide)) O.out r u 3 (.slice b.ao (M.L.length+1) b.cap));obtain⟨x,Y⟩:∃x,Hid (w5.setCell ⟨w,3,none⟩ (.slice b.ao (M.L.length+1) b.cap)=x):=⟨_,rfl⟩
 rw[Y.out]at S5 ⊢;obtain⟨G,P⟩:∃G,G=fk (fk J (4,0) (ce b (ig (M.L.map (fun l=>(l.1,l.2.2))++[(none,[])])))) (0,0) (rB w 42 (M.cells.set 3 (.slice b.ao (M.L.length+1) b.cap))):=⟨_,rfl⟩
 have d:Hid _:=P;clear P;rw[<-d.out]at S5;have S6:Hid (nJ x (fk G (9,M.L.length) (uI none []))):=S5.out.put _ _ (ab.refl _ _) ⟨fun _=>rfl,fun w e=>by cases e⟩ (fun q hq=>by cases hq);have I:Hid (fk G (9,M.L.length) (uI none []) (0,0)=rB w 42 (M.cells.set 3 (.slice b.ao (M.L.length+1) b.cap))):=by show _=_;rw[aq _ _ (bn (by decide)),d.out,bJ]
 have K:Hid (fk G (9,M.L.length) (uI none []) (5,0)=ce M.hc (ig (M.L.map (fun l=>(l.2.1,l.2.2))))):=by show _=_;rw[aq _ _ (bn (by decide)),d.out,aq _ _ (bn (by decide)),aq _ _ (bn (by decide))];exact ac.out
 obtain⟨H,R,i⟩:=S6.out.rowAt I.out (bn (by decide)) K.out;have E:Hid (x.heap[w]?=some (.cells (M.cells.set 3 (.slice b.ao (M.L.length+1) b.cap)).toArray 42 (0,0))/\w∉M.hc.blk.toList):=⟨H,i⟩;clear X f5 c5 z5 u r c0 fb bz Q;have c1:x.cell? ⟨w,4,none⟩=some (.slice M.hc.ao M.L.length M.hc.cap):=by rw[aa H];rfl
 have fb:=am H;have bz:=ae H;clear H i;go_wp2_with (at_builtin;refine cZ x rfl (.tmp 115) (.tmp 116) 34 rfl iX (.slice none 0 0) 24 M.hc (ig (M.L.map (fun l=>(l.2.1,l.2.2)))) [Aj (none,[])] underlying34 T m o p rfl Rc (by rw[z.out];simp[Act.eval]) R ad.out (by omega) (by simp[Act.eval]) rfl (by simp[Aj,Value.oneCell']) ?_;intro h7 w7 U S;rw[qt]at U;have p7:=S.kept.get E.out.1 E.out.2;have f7:=am p7;have c7:w7.cell? ⟨w,4,none⟩=some (.slice M.hc.ao M.L.length M.hc.cap):=(by rw[aa p7];rfl);have z7:=ae p7;rw[z.out]);go_ret;have S7:=S6.out.grown I.out (bn (by decide)) K.out S U 4 (.slice h7.ao (M.L.length+1) h7.cap);exact⟨rfl,HM.out.addL (a:=none) (c:=none) (fs:=[]) (fun j=>⟨by show(0:Nat)<=_;omega,by show(0:Nat)<=_;omega⟩) (Ro _) (by rw[d.out,y.out]) S7⟩
theorem Pd(M:Mc)(A C D:Int)(s t:ByteArray)(a2:World)(h:bZ a2 w g M k)(hN:k<=1073741824) :
  Calls prog 11 #[.pointer (some ⟨w,0,none⟩),.agg #[.int .i64 4,.int .i64 A,.int .i64 C,.int .i64 D,.string s,.string t]] a2 fun e w'=>iB w g M k true e w':=by
 obtain⟨W,HW⟩:∃W,Hid (a2.alloc (.cells #[.int .i64 4,.int .i64 A,.int .i64 C,.int .i64 D,.string s,.string t] 28)=W):=⟨_,rfl⟩
 obtain⟨Y,hB,a3,-⟩:=h.boxed 4 A C D s t W HW.out;obtain⟨o0,-⟩:=cQ hB;have oz:=ae hB;obtain⟨iX,ai,p,u,v⟩:=Re Lw;have x:Hid (bZ W w g M k):=Y;have y:Hid (M.reg.length<=k):=h.len.2.1;have a1:Hid ((ig (M.L.map (fun l=>(l.1,l.2.2)))).n<=4294967296):=by show(M.L.map _).length<=_;rw[Ri];have:=h.len.2.2;omega
 have a0:Hid ((ig (M.L.map (fun l=>(l.2.1,l.2.2)))).n<=4294967296):=by show(M.L.map _).length<=_;rw[Ri];have:=h.len.2.2;omega
 have R:Hid ((ig (M.L.map (fun l=>(l.1,l.2.2)))).n=M.L.length):=Ri _;have O:Hid ((ig (M.L.map (fun l=>(l.2.1,l.2.2)))).n=M.L.length):=Ri _;have ar:Hid (Calls prog 29 #[.slice M.hr.ao M.reg.length M.hr.cap] W _):=jE M.hr.ao M.hr.cap M.reg W Y.ownR.srcO (by have:=y.out;omega);have c2:W.cell? ⟨w,2,none⟩=some (.slice M.hr.ao M.reg.length M.hr.cap):=by rw[aa Y.blk];rfl
 have K:=ae Y.blk;clear h Y hB;go_enter func11,ntmps11
 go_upto_region 1 with fail
 rw[HW.out]
 go_upto_region 14 with (go_at_call 29;refine QU ar.out ?_;rintro e w1 ⟨rfl,ad,k1⟩)
 have S1:Hid (nJ w1 (fk g (8,M.L.length) (uI (some W.heap.size) M.reg))):=x.out.sep.put _ _ (k1.mono (by simp)) ⟨(fun e=>by cases e),(fun q e=>by cases e;exact ad)⟩ (fun q hq=>QV (by rw[Q9.1 hq];exact QR _));obtain⟨G,an⟩:∃G,Hid (W.heap.size=G):=⟨_,rfl⟩
 rw[an.out]at S1 ⊢;obtain⟨J,I⟩:∃J,Hid (J=fk g (8,M.L.length) (uI (some G) M.reg)):=⟨_,rfl⟩
 rw[<-I.out]at S1;have U:Hid (J (0,0)=rB w 42 M.cells):=by show _=_;rw[I.out,aq _ _ (bn (by decide))];exact x.out.w0
 have aS:Hid (J (3,0)=ce M.hr (cr M.reg)):=by show _=_;rw[I.out,aq _ _ (bn (by decide))];exact x.out.r
 have V:Hid (J (4,0)=ce M.hl (ig (M.L.map (fun l=>(l.1,l.2.2))))):=by show _=_;rw[I.out,aq _ _ (bn (by decide))];exact x.out.ls
 have aT:Hid (J (5,0)=ce M.hc (ig (M.L.map (fun l=>(l.2.1,l.2.2))))):=by show _=_;rw[I.out,aq _ _ (bn (by decide))];exact x.out.lw
 obtain⟨p1,Z,j⟩:=S1.out.rowAt U.out (bn (by decide)) V.out;have P:Hid (w1.heap[w]?=some (.cells M.cells.toArray 42 (0,0))/\w∉M.hl.blk.toList):=⟨p1,j⟩;have c0:w1.cell? ⟨w,3,none⟩=some (.slice M.hl.ao M.L.length M.hl.cap):=by rw[aa p1];rfl
 have fb:=am p1;clear K;have K:=ae p1;clear p1 j c2 k1 ad
 go_upto_region 16 with (at_builtin;refine cZ w1 rfl (.tmp 76) (.tmp 78) 34 rfl iX (.slice none 0 0) 24 M.hl (ig (M.L.map (fun l=>(l.1,l.2.2)))) [Aj (some G,M.reg)] underlying34 ai p u v rfl Rc (by rw[R.out];simp[Act.eval]) Z a1.out (by omega) (by simp[Act.eval]) rfl (by simp[Aj,Value.oneCell']) ?_;intro b w5 E B;rw[qt]at E;have p5:=B.kept.get P.out.1 P.out.2;have f5:=am p5;have c5:w5.cell? ⟨w,3,none⟩=some (.slice M.hl.ao M.L.length M.hl.cap):=(by rw[aa p5];rfl);have z5:=ae p5)
 rw[R.out];have S5:Hid _:=(S1.out.grown U.out (bn (by decide)) V.out B E 3 (.slice b.ao (M.L.length+1) b.cap));obtain⟨F,ax⟩:∃F,Hid (w5.setCell ⟨w,3,none⟩ (.slice b.ao (M.L.length+1) b.cap)=F):=⟨_,rfl⟩
 rw[ax.out]at S5 ⊢;obtain⟨z,X⟩:∃z,z=fk (fk J (4,0) (ce b (ig (M.L.map (fun l=>(l.1,l.2.2))++[(some G,M.reg)])))) (0,0) (rB w 42 (M.cells.set 3 (.slice b.ao (M.L.length+1) b.cap))):=⟨_,rfl⟩
 have d:Hid _:=X;clear X;rw[<-d.out]at S5;have az:Hid (z (3,0)=ce M.hr (cr M.reg)):=by show _=_;rw[d.out,aq _ _ (bn (by decide)),aq _ _ (bn (by decide))];exact aS.out
 have i:Hid (z (0,0)=rB w 42 (M.cells.set 3 (.slice b.ao (M.L.length+1) b.cap))):=by show _=_;rw[d.out,bJ]
 obtain⟨f,o,-⟩:=S5.out.rowAt i.out (bn (by decide)) az.out;have N:Hid (Calls prog 29 #[.slice M.hr.ao M.reg.length M.hr.cap] F _):=jE M.hr.ao M.hr.cap M.reg F o.srcO (by have:=y.out;omega);clear p5 f5 c5 z5 E B c0 fb K Z o;have c2:F.cell? ⟨w,2,none⟩=some (.slice M.hr.ao M.reg.length M.hr.cap):=by rw[aa f];rfl
 have K:=ae f;clear f
 go_upto_region 17 with (go_at_call 29;refine QU N.out ?_;rintro e w8 ⟨rfl,af,k2⟩)
 have S6:Hid (nJ w8 (fk z (9,M.L.length) (uI (some F.heap.size) M.reg))):=S5.out.put _ _ (k2.mono (by simp)) ⟨(fun e=>by cases e),(fun q e=>by cases e;exact af)⟩ (fun q hq=>QV (by rw[Q9.1 hq];exact QR _));obtain⟨H,ap⟩:∃H,Hid (F.heap.size=H):=⟨_,rfl⟩
 rw[ap.out]at S6 ⊢;clear c2 K k2 af;have S:Hid (fk z (9,M.L.length) (uI (some H) M.reg) (0,0)=rB w 42 (M.cells.set 3 (.slice b.ao (M.L.length+1) b.cap))):=by show _=_;rw[aq _ _ (bn (by decide))];exact i.out
 have T:Hid (fk z (9,M.L.length) (uI (some H) M.reg) (5,0)=ce M.hc (ig (M.L.map (fun l=>(l.2.1,l.2.2))))):=by show _=_;rw[aq _ _ (bn (by decide)),d.out,aq _ _ (bn (by decide)),aq _ _ (bn (by decide))];exact aT.out
 obtain⟨f,ac,m⟩:=S6.out.rowAt S.out (bn (by decide)) T.out;have Q:Hid (w8.heap[w]?=some (.cells (M.cells.set 3 (.slice b.ao (M.L.length+1) b.cap)).toArray 42 (0,0))/\w∉M.hc.blk.toList):=⟨f,m⟩;have c1:w8.cell? ⟨w,4,none⟩=some (.slice M.hc.ao M.L.length M.hc.cap):=by rw[aa f];rfl
 have fb:=am f;have K:=ae f;clear f m;go_wp2_with (at_builtin;refine cZ w8 rfl (.tmp 92) (.tmp 94) 34 rfl iX (.slice none 0 0) 24 M.hc (ig (M.L.map (fun l=>(l.2.1,l.2.2)))) [Aj (some H,M.reg)] underlying34 ai p u v rfl Rc (by rw[O.out];simp[Act.eval]) ac a0.out (by omega) (by simp[Act.eval]) rfl (by simp[Aj,Value.oneCell']) ?_;intro h7 w7 al ag;rw[qt]at al;have p7:=ag.kept.get Q.out.1 Q.out.2;have f7:=am p7;have c7:w7.cell? ⟨w,4,none⟩=some (.slice M.hc.ao M.L.length M.hc.cap):=(by rw[aa p7];rfl);have z7:=ae p7;rw[O.out]);go_ret;have S7:=S6.out.grown S.out (bn (by decide)) T.out ag al 4 (.slice h7.ao (M.L.length+1) h7.cap);exact⟨rfl,x.out.addL (a:=some G) (c:=some H) (fs:=M.reg) x.out.fit (by have:=y.out;omega) (by rw[d.out,I.out]) S7⟩
theorem Gv{L:List (Option Nat×Option Nat×Fs)}(b:L[l]?=some (z6,x7,y))(f:Option Nat×Option Nat×Fs->Option Nat×Fs)(c:Aj (f (z6,x7,v3))=Aj (f (z6,x7,y))):ig ((L.set l (z6,x7,v3)).map f)=ig (L.map f):=by
 unfold ig
 have e:((L.set l (z6,x7,v3)).map f).map Aj=(L.map f).map Aj:=by
  rw[Tn,Tn,c]
  apply Sq
  intro j;rw[RU]
  by_cases a:l=j
  ·subst a
   rw[QW rfl,Rq,Rq,b];have:=(Q8.1 b).1;simp[this]
  ·rw[QT a]
 rw[e,Ri,Rv,Ri]
theorem Ir(h:ld y)(i:Nat)(b:y9.size<=1073741824)(a:yd.size<=1073741824):ld (y.set i (y9,yd)):=by
 intro j;have:=h j;unfold aE ak at *;rw[QQ]at *;rw[RU]
 by_cases e:i=j
 ·subst e
  rw[QW rfl]
  split
  ·exact⟨b,a⟩
  ·exact⟨by show(0:Nat)<=_;omega,by show(0:Nat)<=_;omega⟩
 ·rw[QT e];exact this
theorem bZ.wrote{c:Mc}(h:bZ n l a c T)(g:c.L[M]?=some (z6,x7,y))(p:v3.length=y.length)(u:ld v3)(z:nJ N (fk (fk a (8,M) (uI z6 v3)) (9,M) (uI x7 v3))):∃k o,bZ N l k o (T+1)/\rh a c k o:=by
 refine⟨_,{ c with L:=c.L.set M (z6,x7,v3) },⟨z,?_,?_,?_,?_,?_,?_,?_,?_,?_,?_,?_⟩,?_⟩
 ·rw[aq _ _ (bn (by decide)),aq _ _ (bn (by decide)),h.w0];unfold Mc.cells;rw[Rv]
 ·simp only[fk];exact h.x
 ·simp only[fk];exact h.m
 ·simp only[fk];exact h.r
 ·rw[aq _ _ (bn (by decide)),aq _ _ (bn (by decide)),h.ls]
  congr 1
  exact(Gv g (fun f=>(f.1,f.2.2)) (by simp only[Aj,p])).symm
 ·rw[aq _ _ (bn (by decide)),aq _ _ (bn (by decide)),h.lw]
  congr 1
  exact(Gv g (fun f=>(f.2.1,f.2.2)) (by simp only[Aj,p])).symm
 ·intro i x m y b
  simp only[fk];exact h.v i x m y b
 ·intro i x m d b
  replace b:(c.L.set M (z6,x7,v3))[i]?=some (x,m,d):=b;rw[RU]at b;rw[aq _ _ (bn (by decide))]
  by_cases e:M=i
  ·subst e
   rw[QW rfl,QW (Q8.1 g).1]at b
   cases b
   obtain⟨-,-,-,A⟩:=h.l M z6 x7 y g;rw[bJ,bJ];exact⟨rfl,rfl,u,by omega⟩
  ·rw[QT e]at b
   rw[aq _ _ (rC (Ne.symm e)),aq _ _ (rC (Ne.symm e)),aq _ _ (bn (by decide))];exact h.more.l i x m d b
 ·exact h.fit
 ·obtain⟨q,s,t⟩:=h.more.len
  exact⟨q,s,by show(c.L.set M (z6,x7,v3)).length<=_;rw[Rv];exact t⟩
 ·exact h.rng
 ·exact⟨fun j i w=>by(repeat rw[oY (by decide) w]),rfl,rfl⟩
theorem iG.wrote(h:iG n (some l) y)(b:T<y.length)(a d:ByteArray):iG ((n.setCell ⟨l,T*2,none⟩ (.string a)).setCell ⟨l,T*2+1,none⟩ (.string d)) (some l) (y.set T (a,d))/\ab [l] n ((n.setCell ⟨l,T*2,none⟩ (.string a)).setCell ⟨l,T*2+1,none⟩ (.string d)):=by
 refine⟨⟨(fun e=>by cases e),fun q e=>?_⟩,((ab.refl _ _).setCell (Q1 (by simp)) _).setCell (Q1 (by simp)) _⟩
 cases e
 rw[ah (ah (h.blk l rfl) _ _) _ _,Ru,Ru,Gk y T a d b]
theorem iG.cells(h:iG n (some l) y)(d:T<y.length):(n.cell? ⟨l,T*2,none⟩=some (.string (aE y T))/\n.cell? ⟨l,T*2+1,none⟩=some (.string (ak y T)))/\(∀j,n.frozen? ⟨l,j,none⟩=false)/\l<n.heap.size:=by
 have a:=h.blk l rfl;obtain⟨b,c⟩:=v9 y T d;exact⟨⟨by rw[aa a];simpa using b,by rw[aa a];simpa using c⟩,am a,ae a⟩
theorem n8{a:List (Option Nat×Fs)}(o:aw n L (ig a)){k:Nat}{x:Option Nat×Fs}(d:a[k]?=some x):∃g,L.ao=some ⟨g,0,none⟩/\g<n.heap.size/\n.cell? ⟨g,k,none⟩=some (Aj x):=by
 have i:=(Q8.1 d).1
 rcases o.Vm with ⟨_,c,_⟩ | ⟨g,e,b,f,h,-⟩
 ·have c:a.length=0:=c
  omega
 ·exact⟨g,b,ae f,o.cell b k (Aj x) (by show(a.map Aj)[k]?=_;rw[Rq,d];rfl)⟩
theorem Pf(M:Mc)(A C D:Int)(s t:ByteArray)(F:World)(h:bZ F w g M k)(hN:k<=1073741824)(hA:qB A)(hC:qB C)(hs:s.size<=1073741824)(ht:t.size<=1073741824) :
  Calls prog 11 #[.pointer (some ⟨w,0,none⟩),.agg #[.int .i64 6,.int .i64 A,.int .i64 C,.int .i64 D,.string s,.string t]] F fun e w'=>iB w g M k true e w':=by
 obtain⟨W,HW⟩:∃W,Hid (F.alloc (.cells #[.int .i64 6,.int .i64 A,.int .i64 C,.int .i64 D,.string s,.string t] 28)=W):=⟨_,rfl⟩
 obtain⟨p,hB,bd,-⟩:=h.boxed 6 A C D s t W HW.out;obtain⟨o0,o1,o2,o3,Y,Z,E⟩:=cQ hB;have T:=ae p.blk;have J:W.cell? ⟨w,3,none⟩=some (.slice M.hl.ao M.L.length M.hl.cap):=by rw[aa p.blk];rfl
 by_cases hL:M.L.length=0
 ·have HF:Hid (bZ W w g M k):=p
  rw[hL]at J;clear h p hB;go_enter func11,ntmps11
  go_upto_region 1 with fail
  rw[HW.out];go_wp2;go_ret;exact⟨rfl,_,_,HF.out.more,rh.refl _ _⟩
 ·have a7:=h.len.2.2
  have Q:Hid (∀G,Calls prog 12 #[.int .i64 A,.int .i64 M.L.length] G fun e w'=>e=.returned (.int .i64 (eG A M.L.length:Nat))/\w'=G):=fun G=>eQ A M.L.length G hA ⟨by omega,by omega⟩
  have aS:=fY A M.L.length (by omega);obtain⟨d,Hk⟩:∃d,Hid (eG A M.L.length=d):=⟨_,rfl⟩
  rw[Hk.out]at Q aS;obtain⟨⟨a,c,b⟩,hk⟩:∃x,M.L[d]?=some x:=⟨M.L[d],QP aS⟩
  have HM:Hid (bZ W w g M k):=p;obtain⟨y,B,u,bf⟩:=p.l d a c b hk;obtain⟨gl,X,gz,o⟩:=n8 p.ownL (k:=d) (x:=(a,b)) (by rw[Rq,hk];rfl);replace o:W.cell? ⟨gl,d,none⟩=some (.slice (wD a) b.length b.length):=o;rw[X]at J;have bj:(d:Int)<(M.L.length:Int):=by omega
  have a6:(0:Int)<(M.L.length:Int):=by omega
  have ag:Hid _:=hk;have H8:Hid _:=y;have H9:Hid _:=B
  by_cases r:b.length=0
  ·rw[r]at o
   clear h p hB hk y B u X;go_enter func11,ntmps11
   go_upto_region 1 with fail
   rw[HW.out]
   go_upto_region 26 with fail
   go_quiet ((go_at_call 12;exact Rd (Q.out _)))
   have HF:Hid (bZ (W.drewN nq) w g M k):=HM.out.Vb ((ab.refl [] _).drewN nq);go_wp2;go_ret;exact⟨rfl,_,_,HF.out.more,rh.refl _ _⟩
  ·have al:Hid (∀G,Calls prog 12 #[.int .i64 C,.int .i64 b.length] G fun e w'=>e=.returned (.int .i64 (eG C b.length:Nat))/\w'=G):=fun G=>eQ C b.length G hC ⟨by omega,by omega⟩
   have j:=fY C b.length (by omega);obtain⟨i,Hi⟩:∃i,Hid (eG C b.length=i):=⟨_,rfl⟩
   rw[Hi.out]at al j;have V:iG W a b:=by have:=p.sep.all (8,d);rw[y]at this;exact this
   have ax:iG W c b:=by have:=p.sep.all (9,d);rw[B]at this;exact this
   obtain⟨f,rfl⟩:∃f,a=some f:=by
    cases a with
    | none=>rw[V.nil rfl]at r;exact absurd rfl r
    | some f=>exact⟨f,rfl⟩
   obtain⟨m,rfl⟩:∃m,c=some m:=by
    cases c with
    | none=>rw[ax.nil rfl]at r;exact absurd rfl r
    | some m=>exact⟨m,rfl⟩
   have a5:=(V.cells j).2.2
   have K:f≠F.heap.size:=by
    intro e;have:=(uI (some f) b).lt F (by have:=h.sep.all (8,d);rw[(h.l d _ _ b hk).1]at this;exact this) f (Q9.2 rfl);omega
   have a0:Hid _:=hB;have ac:Hid (ld (b.set i (s,t))):=Ir u i hs ht;replace o:W.cell? ⟨gl,d,none⟩=some (.slice (some ⟨f,0,none⟩) b.length b.length):=o;have bg:(i:Int)<(b.length:Int):=by omega
   have be:(0:Int)<(b.length:Int):=by omega
   have a2:Hid _:=K
   have H:Hid (∀n,ab [] W n->(n.cell? ⟨F.heap.size,2,none⟩=some (.int .i64 C)/\n.cell? ⟨F.heap.size,4,none⟩=some (.string s)/\n.cell? ⟨F.heap.size,5,none⟩=some (.string t)/\F.heap.size<n.heap.size)/\(n.cell? ⟨w,3,none⟩=some (.slice (some ⟨gl,0,none⟩) M.L.length M.hl.cap)/\w<n.heap.size)/\n.cell? ⟨gl,d,none⟩=some (.slice (some ⟨f,0,none⟩) b.length b.length)/\gl<n.heap.size):=fun n kw=>by
    have q:∀ar i,ar<W.heap.size->n.cell? ⟨ar,i,none⟩=W.cell? ⟨ar,i,none⟩:=fun ar i hg=>Q6 (kw.block ar hg (by simp))
    have z:=kw.size;exact⟨⟨by rw[q _ _ E];exact o2,by rw[q _ _ E];exact Y,by rw[q _ _ E];exact Z,by omega⟩,⟨by rw[q _ _ T];exact J,by omega⟩,by rw[q _ _ gz];exact o,by omega⟩
   clear h p hB hk y B u X V ax K a5;go_enter func11,ntmps11
   go_upto_region 1 with fail
   rw[HW.out]
   go_upto_region 26 with fail
   go_quiet ((go_at_call 12;exact Rd (Q.out _)))
   go_upto_region 28 with fail
   obtain⟨W2,an⟩:∃W2,Hid (W.drewN nq=W2):=⟨_,rfl⟩
   rw[an.out];have ad:Hid (ab [] W W2):=by show ab _ _ _;rw[<-an.out];exact(ab.refl [] _).drewN nq
   clear o0 o1 o2 o3 Y Z E J T o gz;obtain⟨⟨o2,Y,Z,E⟩,⟨J,T⟩,o,gz⟩:=H.out W2 ad.out
   go_quiet ((go_at_call 12;exact Rd (al.out _)))
   go_upto_region 29 with fail
   obtain⟨I,ap⟩:∃I,Hid (W2.drewN nq=I):=⟨_,rfl⟩
   rw[ap.out];have N:Hid (ab [] W I):=by show ab _ _ _;rw[<-ap.out];exact ad.out.drewN nq
   have ai:Hid (bZ I w g M k):=HM.out.Vb N.out;have O:Hid (iG I (some f) b):=by show iG _ _ _;have:=ai.out.sep.all (8,d);rw[H8.out]at this;exact this
   clear o2 Y Z E J T o gz;obtain⟨⟨o2,Y,Z,E⟩,⟨J,T⟩,o,gz⟩:=H.out I N.out;obtain⟨⟨d0,d1⟩,df,dz⟩:=O.out.cells j
   go_region
   all_goals
    obtain⟨v,R⟩:∃v,Hid (((I.setCell ⟨f,i*2,none⟩ (.string s)).setCell ⟨f,i*2+1,none⟩ (.string t)).drew=v):=⟨_,rfl⟩
    rw[R.out];have af:Hid (ab [f] I v):=by show ab _ _ _;rw[<-R.out];exact(O.out.wrote j s t).2.drew
    have S4:Hid (nJ v (fk g (8,d) (uI (some f) (b.set i (s,t))))):=by
     show nJ _ _
     refine ai.out.sep.put _ _ (by rw[H8.out];exact af.out) ?_ (fun q hq=>Q1 (by rw[H8.out];exact hq));rw[<-R.out];exact(uI _ _).ok [] _ _ (O.out.wrote j s t).1 (ab.refl [] _).drew (by simp)
    have a3:Hid (fk g (8,d) (uI (some f) (b.set i (s,t))) (0,0)=rB w 42 M.cells):=by show _=_;rw[aq _ _ (bn (by decide))];exact HM.out.w0
    have a4:Hid (fk g (8,d) (uI (some f) (b.set i (s,t))) (5,0)=ce M.hc (ig (M.L.map (fun l=>(l.2.1,l.2.2))))):=by show _=_;rw[aq _ _ (bn (by decide))];exact HM.out.lw
    have U:Hid (fk g (8,d) (uI (some f) (b.set i (s,t))) (9,d)=uI (some m) b):=by show _=_;rw[aq _ _ (bn (by decide))];exact H9.out
    obtain⟨b4,aT,-⟩:=S4.out.rowAt a3.out (bn (by decide)) a4.out;have P:Hid (iG v (some m) b):=by show iG _ _ _;have:=S4.out.all (9,d);rw[U.out]at this;exact this
    obtain⟨gr,az,rz,rc⟩:=n8 aT (k:=d) (x:=(some m,b)) (by rw[Rq,ag.out];rfl);replace rc:v.cell? ⟨gr,d,none⟩=some (.slice (some ⟨m,0,none⟩) b.length b.length):=rc;have c4:v.cell? ⟨w,4,none⟩=some (.slice (some ⟨gr,0,none⟩) M.L.length M.hc.cap):=by rw[aa b4,<-az];rfl
    clear d0 d1 df dz o2 Y Z E J T o gz;obtain⟨⟨d0,d1⟩,df,dz⟩:=P.out.cells j;have T:=ae b4;have B4:=af.out.get (N.out.get a0.out (by simp)) (by simp;exact fun e=>a2.out e.symm);obtain⟨-,-,-,-,Y,Z,E⟩:=cQ B4;clear b4 aT az B4
    go_upto_region 30 with fail
    go_region
    all_goals
     obtain⟨W5,S⟩:∃W5,Hid (((v.setCell ⟨m,i*2,none⟩ (.string s)).setCell ⟨m,i*2+1,none⟩ (.string t)).drew=W5):=⟨_,rfl⟩
     rw[S.out];have a1:Hid (ab [m] v W5):=by show ab _ _ _;rw[<-S.out];exact(P.out.wrote j s t).2.drew
     have S5:Hid (nJ W5 (fk (fk g (8,d) (uI (some f) (b.set i (s,t)))) (9,d) (uI (some m) (b.set i (s,t))))):=by
      show nJ _ _
      refine S4.out.put _ _ (by rw[U.out];exact a1.out) ?_ (fun q hq=>Q1 (by rw[U.out];exact hq));rw[<-S.out];exact(uI _ _).ok [] _ _ (P.out.wrote j s t).1 (ab.refl [] _).drew (by simp)
     go_wp2;go_ret;exact⟨rfl,HM.out.wrote ag.out Rv ac.out S5.out⟩
theorem Cn{o k:Nat}(h:n.heap[l]?=some (.cells (qK y).toArray 68 (0,0)))(c:o+k<y.length):n.cell? ⟨l,o*2+k*2,none⟩=some (.string (aE y (o+k)))/\n.cell? ⟨l,o*2+k*2+1,none⟩=some (.string (ak y (o+k))):=by
 obtain⟨a,b⟩:=v9 y (o+k) c;rw[Uc]at a b;exact⟨by rw[aa h];simpa using a,by rw[aa h];simpa using b⟩
theorem iG.piece(h:n.heap[l]?=some (.cells (qK y).toArray 68 (0,0)))(o a:Nat)(m:o+a<=y.length):kR n (some ⟨l,o*2,none⟩) ((y.drop o).take a):=by
 intro k i;rw[RQ,RT]at i;have e:∀j,j<a->((y.drop o).take a)[j]?=y[o+j]?:=fun j g=>by rw[Tj,QW g,SV]
 obtain⟨b,c⟩:=Cn h (o:=o) (k:=k) (by omega);have d:aE ((y.drop o).take a) k=aE y (o+k):=by unfold aE;rw[QQ,QQ,e k (by omega)]
 have f:ak ((y.drop o).take a) k=ak y (o+k):=by unfold ak;rw[QQ,QQ,e k (by omega)]
 exact⟨l,o*2,rfl,ae h,by rw[d];exact b,by rw[f];exact c⟩
theorem iG.src{a:Option Nat}(h:iG n a y):kR n (wD a) y:=by
 cases a with
 | none=>rw[h.nil rfl];intro k c;cases c
 | some b =>
  have:=iG.piece (h.blk b rfl) 0 y.length (by omega);rw[U0,RK,UT]at this;exact this
theorem ld.piece(h:ld y)(o n:Nat):ld ((y.drop o).take n):=by
 intro j;have a:=h (o+j);unfold aE ak at *;rw[QQ]at *;rw[Tj]
 split
 ·rw[SV];exact a
 ·exact⟨by show(0:Nat)<=_;omega,by show(0:Nat)<=_;omega⟩
def Dy(w:World)(x m:Nat)(h:Hd)(lo hi lo2 hi2:Nat)(st:Option Nat)(fs:Fs)(e:Ending)(w':World):Prop :=
 e=.returned (.bool true)/\dE w' x fs lo hi st/\(∃h',dn w' m fs h' lo2 hi2 st/\∀q,h'.blk=some q->h.blk=some q∨w.heap.size<=q)/\ab ([x]++m :: h.blk.toList) w w'
theorem DC.kept(a:DC n l L y)(k:ab yu n N)(c:l∉yu)(b:∀q,L.blk=some q->q∉yu):DC N l L y:=by
 obtain⟨d,e,f,g,a⟩:=a;exact⟨d,e,f,g,a.keptS k c b⟩
theorem kR.srcF(h:n.heap[l]?=some (.cells (qK y).toArray 68 (0,0))):mV n (some ⟨l,0,none⟩) y.length y:=by
 refine⟨QR _,fun k c=>?_⟩;obtain⟨a,b⟩:=Cn h (o:=0) (k:=k) (by omega);rw[UT,SJ]at a b;exact⟨l,rfl,ae h,by simpa using a,by simpa using b⟩
theorem Cm(hx:dE b y6 ya y8 y7 D)(B:dn b zt ya i I w D)(R:b.heap[S]?=some (.cells (qK H).toArray 68 (0,0)))(t:∀q,q∈y6 :: ie y8 y7->q∉zt :: (i.blk.toList++ie I w))(W:S≠y6)(V:S≠zt)(U:i.blk≠some S)(hl:z3+d+f<=H.length)(hN:H.length<=1073741824)(hf:ld H) :
  Calls prog 13 #[.pointer (some ⟨y6,0,none⟩),.pointer (some ⟨zt,0,none⟩),.slice (some ⟨S,0,none⟩) H.length H.length,.int .i64 z3,.int .i64 d,.int .i64 f] b fun r l=>Dy b y6 zt i y8 y7 I w (mb (dy ((H.drop z3).take d)) D) (jt ya ((H.drop z3).take d)) r l:=by
 have HX:Hid (dE b y6 ya y8 y7 D):=hx;have ao:Hid (dn b zt ya i I w D):=B;have HB:Hid _:=R;have xz:=hx.anyS.lt;have bz:=ae R;have HF:=(show Hid (ld H) from hf);have m:((H.drop z3).take d).length=d:=by rw[RQ,RT];omega
 have ax:Hid (∀l,ab [] b l->kR l (some ⟨S,0,none⟩) H):=fun l k=>(iG.src (a:=some S) ⟨(fun f=>by cases f),fun q f=>by cases f;exact k.get R (by simp)⟩)
 have Q:Hid (∀h g,ab [] b h->(d=0∨g=⟨S,z3*2,none⟩)->kR h (some g) ((H.drop z3).take d)):=fun h g k n=>by
  rcases n with f | f
  ·rw[f];intro j hj;rw[Tq]at hj;cases hj
  ·rw[f];exact iG.piece (k.get R (by simp)) z3 d (by omega)
 have ag:Hid (Calls prog 29 #[.slice (some ⟨S,0,none⟩) H.length H.length] b _):=jE _ H.length H b (ax.out b (ab.refl _ _)) hN
 have ai:Hid (∀h c g,ab [] b h->(d=0∨g=⟨S,z3*2,none⟩)->Calls prog 29 #[.slice (some g) d c] h fun f l=>f=.returned (.slice (some ⟨h.heap.size,0,none⟩) d d)/\l.heap[h.heap.size]?=some (.cells (qK ((H.drop z3).take d)).toArray 68 (0,0))/\ab [] h l):=fun h c g k n=>by
  have:=jE (some g) c ((H.drop z3).take d) h (Q.out h g k n) (by rw[m];omega);rw[m]at this;exact this
 have a0:Hid (∀u c g,ab [] b u->(d=0∨g=⟨S,z3*2,none⟩)->Calls prog 30 #[.pointer (some ⟨y6,0,none⟩),.slice (some g) d c] u fun f l=>f=.returned (.int .i64 (dy ((H.drop z3).take d)))/\dE l y6 (jt ya ((H.drop z3).take d)) y8 y7 (mb (dy ((H.drop z3).take d)) D)/\ab [y6] u l):=fun u c g k n=>by
  have:=CL y6 ya ((H.drop z3).take d) (some g) c y8 y7 D u (hx.Vb k) (Q.out u g k n) (hf.piece z3 d);rw[m]at this;exact this
 have an:Hid (∀o B2,dn o zt ya i I w D->o.heap[B2]?=some (.cells (qK ((H.drop z3).take d)).toArray 68 (0,0))->Calls prog 31 #[.pointer (some ⟨zt,0,none⟩),.slice (some ⟨B2,0,none⟩) d d] o fun f l=>f=.returned (.int .i64 (dy ((H.drop z3).take d)))/\∃y,dn l zt (jt ya ((H.drop z3).take d)) y I w (mb (dy ((H.drop z3).take d)) D)/\ab (zt :: i.blk.toList) o l/\∀q,y.blk=some q->i.blk=some q∨o.heap.size<=q):=fun o B2 hr s=>by
  have:=Bs zt ya ((H.drop z3).take d) i I w D (some ⟨B2,0,none⟩) ((H.drop z3).take d).length o hr (kR.srcF s) (fun f=>by cases f) (fun g f=>by cases f;exact⟨_,rfl⟩) (fun j _=>hf.piece z3 d j);rw[m]at this;exact this
 have v:Hid (zt<b.heap.size/\∀q,i.blk=some q->q<b.heap.size):=by
  obtain⟨on,p2,p3,p4,hr⟩:=B.anyS;exact⟨ae hr.d,fun q e=>hr.own.lt e⟩
 generalize jt ya ((H.drop z3).take d)=x at *;generalize mb (dy ((H.drop z3).take d)) D=C at *;generalize dy ((H.drop z3).take d)=r at *;generalize (H.drop z3).take d=P at *;have ba:(z3:Int)+(d:Int)<=(H.length:Int):=by omega
 have bc:(z3:Int)+(d:Int)+(f:Int)<=(H.length:Int):=by omega
 have a6:(H.length:Int)<=1073741824:=by omega
 have HD:Hid (S≠y6/\S≠zt/\i.blk≠some S):=⟨W,V,U⟩;have N:Hid _:=t;have a5:Hid (∀q,i.blk=some q->q<b.heap.size):=v.out.2;clear hx B R hf t W V U m;have A:(d=0/\f=0/\H.length=z3)∨(d=0/\f=0/\¬H.length=z3)∨(¬d+f=0/\¬H.length=z3):=by omega
 rcases A with ⟨rfl,rfl,rfl⟩ | ⟨rfl,rfl,a2⟩ | ⟨a7,a2⟩
 all_goals
  go_enter func13,ntmps13
  go_upto_region 2 with (go_at_call 29;refine QU ag.out ?_;rintro e1 h ⟨rfl,T,k1⟩)
  go_upto_region 3 with (go_at_call 29;refine QU (ai.out h _ _ k1 (by first | exact Q1 trivial | exact Q1 rfl | exact QV rfl)) ?_;rintro e2 u ⟨rfl,s,k2⟩)
  have p:Hid _:=k1.trans k2;have ac:Hid _:=(k2.get T (by simp));have af:Hid _:=s;have a1:Hid (b.heap.size<=h.heap.size):=k1.size;clear T s k1 k2
  go_upto_region 4 with (go_at_call 30;refine QU (a0.out u _ _ p.out (by first | exact Q1 trivial | exact Q1 rfl | exact QV rfl)) ?_;rintro e3 o ⟨rfl,Y,E⟩)
  have ap:Hid (dn o zt ya i I w D):=(ao.out.Vb p.out).kept E (fun q e B=>N.out y6 Rn (by rw[<-Q9.1 B];exact e));have G:Hid _:=(E.get ac.out (by simp;omega));have K:Hid _:=(E.get af.out (by have:=a1.out;simp;omega));have L:Hid _:=(E.get (p.out.get HB.out (by simp)) (by simp;exact HD.out.1));have aS:Hid (dE o y6 x y8 y7 C):=Y;have O:Hid _:=((p.out.mono (S':=[y6]) (by simp)).trans E);clear Y E
  go_upto_region 5 with (go_at_call 31;refine QU (an.out o _ ap.out K.out) ?_;rintro e4 F ⟨rfl,h4,X,Z,b4⟩)
  have ar:Hid (∃y,dn F zt x y I w C/\∀q,y.blk=some q->i.blk=some q∨b.heap.size<=q):=⟨h4,X,fun q e=>(b4 q e).elim Q1 (fun z=>QV (Q3 O.out.size z))⟩;have aT:Hid (dE F y6 x y8 y7 C):=aS.out.kept Z (fun q e B=>N.out q e (by rcases Rj.1 B with f | f;rw[f];exact Rn;exact Rm _ (RN _ f)));have J:Hid _:=(Z.get G.out (by intro e;rcases Rj.1 e with f | e;have:=v.out.1;omega;have:=v.out.2 _ (aN e);omega));have M:Hid _:=(Z.get L.out (by intro e;rcases Rj.1 e with f | e;exact HD.out.2.1 f;exact HD.out.2.2 (aN e)));have al:Hid (ab ([y6]++zt :: i.blk.toList) b F):=(O.out.mono (S':=[y6]++zt :: i.blk.toList) (fun q e _=>RN _ e)).trans (Z.mono (fun q e _=>Se _ e));have az:Hid _:=(nC (some ⟨S,0,none⟩) (some ⟨b.heap.size,0,none⟩) H.length H.length H F (iG.src (a:=some S) ⟨(fun f=>by cases f),fun q f=>by cases f;exact M.out⟩) (iG.src (a:=some b.heap.size) ⟨(fun f=>by cases f),fun q f=>by cases f;exact J.out⟩) (by omega));clear X Z b4;go_wp2_with (go_at_call 26;refine QU az.out ?_;rintro e5 w5 ⟨rfl,n5,bd⟩);go_ret;have k5:ab [] F (F.drewN n5):=(ab.refl [] _).drewN n5;obtain⟨y,a4,a3⟩:=ar.out;exact⟨rfl,aT.out.Vb k5,⟨y,a4.Vb k5,a3⟩,al.out.trans (k5.mono (by simp))⟩
theorem Ey(K:dE b d H y8 y7 D)(t:dn b f H i I w D)(n:∀q,q∈d :: ie y8 y7->q∉f :: (i.blk.toList++ie I w)) :
  Calls prog 13 #[.pointer (some ⟨d,0,none⟩),.pointer (some ⟨f,0,none⟩),.slice none 0 0,.int .i64 0,.int .i64 0,.int .i64 0] b fun r a=>Dy b d f i y8 y7 I w (mb (dy []) D) (jt H []) r a:=by
 have HX:Hid (dE b d H y8 y7 D):=K;have P:Hid (dn b f H i I w D):=t;have xz:=K.anyS.lt;have h:Hid (∀(a:World) ao,kR a ao []):=fun a ao j Y=>by cases Y
 have C:ld []:=fun j=>⟨by show(0:Nat)<=_;omega,by show(0:Nat)<=_;omega⟩
 have HC:Hid (∀m,Calls prog 29 #[.slice none 0 0] m fun e a=>e=.returned (.slice (some ⟨m.heap.size,0,none⟩) 0 0)/\a.heap[m.heap.size]?=some (.cells (qK []).toArray 68 (0,0))/\ab [] m a):=fun m=>jE none 0 [] m (h.out _ _) (by simp)
 have V:Hid (∀v,ab [] b v->Calls prog 30 #[.pointer (some ⟨d,0,none⟩),.slice none 0 0] v fun e a=>e=.returned (.int .i64 (dy []))/\dE a d (jt H []) y8 y7 (mb (dy []) D)/\ab [d] v a):=fun v k=>CL d H [] none 0 y8 y7 D v (K.Vb k) (h.out _ _) C
 have O:Hid (∀g G,dn g f H i I w D->g.heap[G]?=some (.cells (qK []).toArray 68 (0,0))->Calls prog 31 #[.pointer (some ⟨f,0,none⟩),.slice (some ⟨G,0,none⟩) 0 0] g fun e a=>e=.returned (.int .i64 (dy []))/\∃s,dn a f (jt H []) s I w (mb (dy []) D)/\ab (f :: i.blk.toList) g a/\∀q,s.blk=some q->i.blk=some q∨g.heap.size<=q):=fun g G J l=>by
  exact Bs f H [] i I w D (some ⟨G,0,none⟩) 0 g J (kR.srcF l) (fun e=>by cases e) (fun ad e=>by cases e;exact⟨_,rfl⟩) (fun j Y=>by cases Y)
 have af:Hid (f<b.heap.size/\∀q,i.blk=some q->q<b.heap.size):=by
  obtain⟨on,p2,p3,p4,J⟩:=t.anyS;exact⟨ae J.d,fun q c=>J.own.lt c⟩
 generalize jt H []=p at *;generalize mb (dy []) D=u at *;generalize dy []=r at *;have A:Hid _:=n;clear K t n C;go_enter func13,ntmps13
 go_upto_region 2 with (go_at_call 29;refine QU (HC.out b) ?_;rintro e1 m ⟨rfl,X,k1⟩)
 go_upto_region 3 with (go_at_call 29;refine QU (HC.out m) ?_;rintro e2 v ⟨rfl,l,k2⟩)
 have o:Hid _:=k1.trans k2;have M:Hid _:=l;have W:Hid (b.heap.size<=m.heap.size):=k1.size;clear X l k1 k2
 go_upto_region 4 with (go_at_call 30;refine QU (V.out v o.out) ?_;rintro e3 g ⟨rfl,F,L⟩)
 have Q:Hid (dn g f H i I w D):=(P.out.Vb o.out).kept L (fun q c t=>A.out d Rn (by rw[<-Q9.1 t];exact c));have y:Hid _:=(L.get M.out (by have:=W.out;simp;omega));have T:Hid (dE g d p y8 y7 u):=F;have B:Hid _:=((o.out.mono (S':=[d]) (by simp)).trans L);clear F L
 go_upto_region 5 with (go_at_call 31;refine QU (O.out g _ Q.out y.out) ?_;rintro e4 x ⟨rfl,h4,E,k4,b4⟩)
 have R:Hid (∃s,dn x f p s I w u/\∀q,s.blk=some q->i.blk=some q∨b.heap.size<=q):=⟨h4,E,fun q c=>(b4 q c).elim Q1 (fun z=>QV (Q3 B.out.size z))⟩;have U:Hid (dE x d p y8 y7 u):=T.out.kept k4 (fun q c t=>A.out q c (by rcases Rj.1 t with e | e;rw[e];exact Rn;exact Rm _ (RN _ e)));have N:Hid (ab ([d]++f :: i.blk.toList) b x):=(B.out.mono (S':=[d]++f :: i.blk.toList) (fun q c _=>RN _ c)).trans (k4.mono (fun q c _=>Se _ c));have S:Hid (Calls prog 26 #[.slice none 0 0,.slice (some ⟨b.heap.size,0,none⟩) 0 0] x _):=nC none (some ⟨b.heap.size,0,none⟩) 0 0 [] x (h.out _ _) (h.out _ _) (by simp);clear E k4 b4;go_wp2_with (go_at_call 26;refine QU S.out ?_;rintro e5 w5 ⟨rfl,n5,ag⟩);go_ret;have k5:ab [] x (x.drewN n5):=(ab.refl [] _).drewN n5;obtain⟨s,ac,Z⟩:=R.out;exact⟨rfl,U.out.Vb k5,⟨s,ac.Vb k5,Z⟩,N.out.trans (k5.mono (by simp))⟩
def ON(w:World)(x m:Nat)(h:Hd)(lo hi lo2 hi2:Nat)(fs:Fs)(e:Ending)(w':World):Prop :=
 e=.returned (.bool true)/\(∃st lo1 hi1 lo3 hi3,dE w' x fs lo1 hi1 st/\nH w.heap.size lo hi lo1 hi1/\dn w' m fs h lo3 hi3 st/\nH w.heap.size lo2 hi2 lo3 hi3/\(∀q,q∈x :: ie lo1 hi1->q∉m :: (h.blk.toList++ie lo3 hi3)))/\ab ([x]++m :: h.blk.toList) w w'
theorem AN(hx:dE b d H y8 y7 D)(h:dn b f H i I w D)(an:∀j,j<H.length->(ak H j).size<=1024)(x:∀q,q∈d :: ie y8 y7->q∉f :: (i.blk.toList++ie I w)) :
  Calls prog 16 #[.pointer (some ⟨d,0,none⟩),.pointer (some ⟨f,0,none⟩),.string y5] b fun e K=>ON b d f i y8 y7 I w H e K:=by
 have al:H.length<=4:=by obtain⟨on,p2,p3,p4,r⟩:=h.anyS;exact r.le
 obtain⟨⟨r,s,l,c⟩,q,k,h1,h2⟩:=KP d f H i y8 y7 I w D y5 b hx al an;have H1:Hid (Calls prog 36 #[.pointer (some ⟨d,0,none⟩),.string y5] b fun e K=>e=.returned (.tuple #[.agg #[.int .i64 r,.string s,.int .i64 l,.int .i64 c],.int .i64 q])/\(∃g a,dE K d H g a k/\nH b.heap.size y8 y7 g a)/\ab [d] b K):=h1;have H2:Hid (∀y,dn y f H i I w D->Calls prog 37 #[.pointer (some ⟨f,0,none⟩),.string y5] y fun e K=>e=.returned (.tuple #[.agg #[.int .i64 r,.string s,.int .i64 l,.int .i64 c],.int .i64 q])/\(∃g a,dn K f H i g a k/\nH y.heap.size I w g a)/\ab [f] y K):=h2;have Z:Hid (dn b f H i I w D):=h;have A:Hid _:=x;have U:Hid ((∀q,q∈d :: ie y8 y7->q<b.heap.size)/\∀q,q∈f :: (i.blk.toList++ie I w)->q<b.heap.size):=⟨hx.lt,h.lt⟩;clear h1 h2 hx h x;go_enter func16,ntmps16
 go_upto_region 2 with (go_at_call 36;refine QU H1.out ?_;rintro e1 L ⟨rfl,⟨g,a,J,n1⟩,k1⟩)
 obtain⟨m,E⟩:∃m,Hid (L.alloc (.cells #[.int .i64 r,.string s,.int .i64 l,.int .i64 c] 87)=m):=⟨_,rfl⟩
 have B:Hid (ab [] L m):=by show ab _ _ _;rw[<-E.out];exact(ab.refl [] _).alloc _
 have V:Hid (m.heap[L.heap.size]?=some (.cells #[.int .i64 r,.string s,.int .i64 l,.int .i64 c] 87 (0,0))):=by show _=_;rw[<-E.out];exact QS _ _
 have ag:Hid (dE m d H g a k):=J.Vb B.out;have Q:Hid (nH b.heap.size y8 y7 g a):=n1;have X:Hid (a<=L.heap.size):=J.z;have P:Hid (ab [d] b m):=k1.trans (B.out.mono (by simp));have ad:Hid (dn m f H i I w D):=Z.out.kept P.out (fun q n h=>A.out d Rn (by rw[<-Q9.1 h];exact n));have R:Hid (L.heap.size<=m.heap.size):=B.out.size;have G:Hid (b.heap.size<=L.heap.size):=k1.size;rw[E.out];clear J k1 n1
 go_upto_region 3 with (go_at_call 37;refine QU (H2.out m ad.out) ?_;rintro t y ⟨rfl,⟨p,o,S,n3⟩,k2⟩)
 obtain⟨u,F⟩:∃u,Hid (y.alloc (.cells #[.int .i64 r,.string s,.int .i64 l,.int .i64 c] 87)=u):=⟨_,rfl⟩
 have O:Hid (ab [] y u):=by show ab _ _ _;rw[<-F.out];exact(ab.refl [] _).alloc _
 have M:u.heap[y.heap.size]?=some (.cells #[.int .i64 r,.string s,.int .i64 l,.int .i64 c] 87 (0,0)):=by rw[<-F.out];exact QS _ _
 have C:Hid (ab [f] m u):=k2.trans (O.out.mono (by simp))
 have N:Hid (∀q,q∈d :: ie g a->q∈d :: ie y8 y7∨(b.heap.size<=q/\q<L.heap.size)):=fun q n=>by
  rcases Rj.1 n with e | e
  ·exact Q1 (by rw[e];exact Rn)
  ·rcases Q.out.mem e with t | t
   ·exact Q1 (Rm _ t)
   ·exact QV ⟨t,QX (ng.1 e).2 X.out⟩
 have ai:Hid (dE u d H g a k):=ag.out.kept C.out (fun q n h=>by
  rw[Q9.1 h]at n
  rcases N.out f n with e | e
  ·exact A.out f e Rn
  ·have:=U.out.2 f Rn;omega)
 have af:Hid (dn u f H i p o k):=S.Vb O.out
 have ac:Hid (nH b.heap.size I w p o):=by
  rcases n3 with e | e
  ·exact Q1 e
  ·exact QV (Q3 (Q3 G.out R.out) e)
 have W:Hid (∀q,q∈d :: ie g a->q∉f :: (i.blk.toList++ie p o)):=fun q n h=>by
  have T:∀q,q∈f :: (i.blk.toList++ie p o)->q∈f :: (i.blk.toList++ie I w)∨m.heap.size<=q:=fun q h=>by
   rcases Rj.1 h with e | e
   ·exact Q1 (by rw[e];exact Rn)
   ·rcases Rr.1 e with e | e
    ·exact Q1 (Rm _ (RN _ e))
    ·rcases nH.mem (z:=m.heap.size) (lo:=I) (hi:=w) n3 e with e | e
     ·exact Q1 (Rm _ (Se _ e))
     ·exact QV e
  have z1:=G.out;have z2:=R.out
  rcases N.out q n with e | e
  ·rcases T q h with t | t
   ·exact A.out q e t
   ·have:=U.out.1 q e;omega
  ·rcases T q h with t | t
   ·have:=U.out.2 q t;omega
   ·omega
 have v:=C.out.get V.out (by have:=U.out.2 f Rn;have:=G.out;simp;omega);have Y:Hid (ab ([d]++f :: i.blk.toList) b u):=(P.out.mono (fun q n _=>RN _ n)).trans (C.out.mono (fun q n _=>Se _ (by rw[Q9.1 n];exact Rn)));rw[F.out];clear S k2 n3;obtain⟨⟨a0,a1,a2,a3⟩,-,az⟩:=mz v;obtain⟨⟨b0,b1,b2,b3⟩,-,bz⟩:=mz M;clear v M;go_wp2;go_ret;exact⟨rfl,⟨k,g,a,p,o,ai.out,Q.out,af.out,ac.out,W.out⟩,Y.out⟩
end Go.Proofs.YtpddjjabfbfifaaGreat
