import Derived.Deep.RegionHeld3
import Derived.Deep.RegionLaw
import Derived.Deep.CutRange
import Derived.Test.YtpddjjabfbfifaaGreatG21
namespace Go.Proofs.YtpddjjabfbfifaaGreat
open Go.RowKit Tryz
set_option maxRecDepth 100000
set_option maxHeartbeats 40000000
variable{a:List Tk}{D:List Sm}{b y L:Nat}{x8:Nat->Bool}{ya:Db}{yd:List ik}{z4 y9:ByteArray}{yy:List St}{yv:Nat->Hd}{S o:World}{ys:List Nat}{i:Fs}{M:Option Nat}{g yz:Hd}{x5:Int}{k:Nat×Nat->It}{yg:Nat×Nat}{vb xz:dN}{v0:List Value}{yr:Program}{v5:Array Oper}{yf:Oper}{yt:Act}{va:Exit->Act->World->Prop}(z3 v:Nat)(x6:Fs)(y4 y5:ByteArray)(n:Fs)(z6:Hd)(x:Nat)(zb:ByteArray)(f:List Tk)(y6:Option Addr)(zt:Nat)(T:List Sm)(x7:Option Addr)(l:Nat)(d:List ik)(z7:Option Addr)(H:Nat)(v3 yu y7 y8:Value)(N:Option Nat)(I:ByteArray)(w:World)(z2:Nat×Nat->It)
def jO(T:List Tk)(S:List Sm)(j k:Nat):ByteArray:=((bu T (au S j).h).take k).foldl (fun s x=>s++⟨#[32]⟩++x) (bG T (au S j)++⟨#[32]⟩++(au S j).k)
theorem sR(h:H<(bu f (au T l).h).length):jO f T l (H+1)=jO f T l H++⟨#[32]⟩++(bu f (au T l).h)[H]:=by
 unfold jO;rw[Tc,QO h,Sv];rfl
theorem Af(i:(bG a (au D b)).size<=100000)(e:(au D b).k.size<=100000)(d:∀x∈bu a (au D b).h,x.size<=100000)(k:Nat)(f:k<=(bu a (au D b).h).length):(jO a D b k).size<=200001+k*100001:=by
 induction k with
 | zero =>
  unfold jO;simp only[Tp,List.foldl_nil,Sc,mF];omega
 | succ k c =>
  have g:=d _ (Ra (show k<(bu a (au D b).h).length by omega));rw[sR a D b k (by omega)];simp only[Sc,mF];have:=c (by omega);omega
theorem IE(A:w.heap[z3]?=some (.cells #[v3,yu,.pointer (some ⟨v,0,none⟩),y7,y8] 85 (0,0)))(p:fz w v f y6 zt T z7 H)(C:x<T.length)(hT:f.length<=10000)(Z:cU f T[x].h)(ha:T[x].a<f.length)(Y:(bG f (au T x)).size<=100000)(h2:(au T x).k.size<=100000)(J:∀x∈bu f (au T x).h,x.size<=100000)(hl:(bu f (au T x).h).length<=10000) :
  Calls prog 63 #[.pointer (some ⟨z3,0,none⟩),.int .i64 x] w fun e O=>e=.returned (.string (km f T x))/\ab [] w O:=by
 have M:au T x=T[x]:=by unfold au;rw[QP,QO C];rfl
 have V:=hI (nP v x f y6 zt T z7 H w p C ha);have R:Hid (∀b,ab [] w b->Calls prog 72 #[.pointer (some ⟨v,0,none⟩),.int .i64 x] b fun e O=>∃o,e=.returned (.slice o.ao (bu f T[x].h).length o.cap)/\vi b O o (bu f T[x].h)):=fun b k=>kC v x f y6 zt T z7 H b (p.Va k) C (by omega) Z
 have t:Hid (km f T x=jO f T x (bu f (au T x).h).length):=by show _=_;unfold km jO;rw[RI]
 have l:=hI (Af Y h2 J);have n:=hI (sR f T x);have U:Hid (jO f T x 0=bG f T[x]++⟨#[32]⟩++T[x].k):=by show _=_;unfold jO;rw[M];rfl
 have L:Hid (fz w v f y6 zt T z7 H):=p;have I:=hI A;have H3:=hI J;rw[M]at Y h2 hl t l n H3;obtain⟨r,rfl,u,q0,q1,q2,D⟩:=p.s.2 x T[x] (QO C);have E:w.cell? ⟨z3,2,none⟩=some (.pointer (some ⟨v,0,none⟩)):=by rw[aa A];rfl
 have K:=ae A;have al:(x:Int)<(T.length:Int):=by omega
 have j:Hid (w.cell? ⟨r,x*4+3,none⟩=some (.string T[x].k)/\r<w.heap.size):=⟨D,u⟩;generalize T[x].k=kk at *;generalize bG f T[x]=W at *;generalize bu f T[x].h=B at *;clear p A J M q0 q1 q2 D u Z;go_enter func63,ntmps63
 go_upto_region 2 with (go_at_call 87;refine QT V.out ?_;rintro e b ⟨rfl,z⟩)
 have d:=hI z;have m:=hI (z.get I.out (by simp));have S:=hI (L.out.Va z);clear E K z;have E:b.cell? ⟨z3,2,none⟩=some (.pointer (some ⟨v,0,none⟩)):=by rw[aa m.out];rfl
 have K:=ae m.out;obtain⟨-,d1,bz⟩:=S.out.cells;have D:b.cell? ⟨r,x*4+3,none⟩=some (.string kk):=by rw[Q5 (d.out.block r j.out.2 (by simp))];exact j.out.1
 have gz:r<b.heap.size:=QW j.out.2 d.out.size;have q:=hI (R.out b d.out);have z1:(W++⟨#[32]⟩:ByteArray).size<=100001:=by simp only[Sc,mF];omega
 go_upto_region 3 with fail
 go_upto_region 4 with (go_at_call 72;refine QT q.out ?_;rintro e w2 ⟨o,rfl,Q⟩)
 have G:=hI Q.own.srcX;have N:=hI (d.out.trans Q.kept);rw[<-U.out];clear E K d1 bz D gz Q z1;obtain⟨P,X⟩:=o;go_wp2
 go_loopg [5,7] B.length (fun g tv i wr=>∃k:Nat,k<=B.length/\g=B.length-k/\i=.int .i64 k/\tv=.string (jO f T x k)/\w2=wr)
 case atStart=>exact⟨0,by omega,by omega,rfl,rfl,rfl⟩
 case round =>
  obtain⟨k,hk,hg,rfl,rfl,rfl⟩:=hrel
  by_cases c:k<B.length
  ·have ag:=l.out k hk
   have af:=l.out (k+1) c;have hx:=H3.out _ (Ra c);have HT:=(show Hid _ from(n.out k c).symm);have an:(k:Int)<(B.length:Int):=by omega
   obtain⟨gB,F,ad,cB⟩:=G.out k _ (QO c);replace F:P=some ⟨gB,0,none⟩:=F;subst F;generalize B[k]=y at *;have ai:(jO f T x k++⟨#[32]⟩:ByteArray).size<=200002+k*100001:=by simp only[Sc,mF];omega
   generalize jO f T x k=tx at *;go_wp2
   go_roundg (B.length-(k+1))
   case measure=>omega
   case rel=>exact⟨k+1,by omega,rfl,by go_num,congrArg Value.string HT.out,rfl⟩
  ·have e:k=B.length:=by omega
   subst e;have ac:¬(B.length:Int)<(B.length:Int):=by omega
   go_wp2;go_ret;exact⟨congrArg (fun s=>Ending.returned (Value.string s)) t.out.symm,N.out⟩
def M9(RS:List ik)(lab:ByteArray)(a:Nat):Bool:=(bne (ff RS a).Vb 0)&&((ff RS a).label.toList==lab.toList)
def uY(RS:List ik)(lab:ByteArray):Option Nat:=(List.range RS.length).find? (M9 RS lab)
theorem DY(c:y<b)(d:∀i,i<y->x8 i=false)(h:x8 y=true):(List.range b).find? x8=some y:=by
 rw[Uo];refine⟨h,y,by rw[Te];exact c,by rw[Ua],fun j a=>?_⟩;rw[Ua,d j a];rfl
theorem Li(a:∀i,i<b->x8 i=false):(List.range b).find? x8=none:=by
 rw[Sj];intro i c;rw[a i (Q9.1 c)];simp
theorem Kw(a:w.heap[x]?=some (.cells #[v3,.bool false,yu,y7,y8] 85 (0,0))) :
  Calls prog 61 #[.pointer (some ⟨x,0,none⟩),.string zb] w fun e b=>e=.returned (.tuple #[.int .i64 0,.int .i64 7])/\b=w:=by
 have d:w.cell? ⟨x,1,none⟩=some (.bool false):=by rw[aa a];rfl
 have c:=ae a;clear a;go_enter func61,ntmps61;go_wp2;exact QX (v:=.tuple #[.int .i64 0,.int .i64 7]) (by simp[results,results61,go_sem]) rfl ⟨rfl,rfl⟩
def MX(RS:List ik)(lab:ByteArray)(w:World)(e:Ending)(w':World):Prop:=e=.returned (.tuple #[.int .i64 ((uY RS lab).getD 0:Nat),.int .i64 (if(uY RS lab).isSome=true then 0 else 8)])/\w'=w
theorem A9(b:w.heap[x]?=some (.cells #[yu,.bool true,y7,y8,.slice z7 d.length H] 85 (0,0)))(p:cm w z7 6 jJ d)(G:d.length<=100000) :
  Calls prog 61 #[.pointer (some ⟨x,0,none⟩),.string zb] w fun e B=>MX d zb w e B:=by
 have P:w.cell? ⟨x,1,none⟩=some (.bool true):=by rw[aa b];rfl
 have J:w.cell? ⟨x,4,none⟩=some (.slice z7 d.length H):=by rw[aa b];rfl
 have K:=ae b;have z:=(show Hid (cm w z7 6 jJ d) from p);clear b p;go_enter func61,ntmps61;go_wp2
 go_loopg [6] d.length (fun g i wr=>∃k:Nat,k<=d.length/\g=d.length-k/\i=.int .i64 k/\Hid (∀i,i<k->M9 d zb i=false)/\w=wr)
 case atStart=>exact⟨0,by omega,by omega,rfl,(fun i h=>by omega),rfl⟩
 case round =>
  obtain⟨k,E,N,rfl,f,rfl⟩:=hrel
  by_cases a:k<d.length
  ·have D:(k:Int)<(d.length:Int):=by omega
   have q:d[k]?=some (ff d k):=by unfold ff;rw[QP,QO a];rfl
   obtain⟨I,rfl,t,j⟩:=z.out k _ q;have o:=j 0 _ rfl;have C:=j 1 _ rfl;rw[Tf]at o;have c:Hid (M9 d zb k=((bne (ff d k).Vb 0)&&((ff d k).label.toList==zb.toList))):=rfl;clear j q;generalize ff d k=r at *;obtain⟨y,A,L,M,F,O⟩:=r;simp only at c o C
   cases m:(A != 0)
   ·have l:Hid (∀i,i<k+1->M9 d zb i=false):=fun i v=>by
     by_cases e:i=k
     ·rw[e,c.out,m];rfl
     ·exact f.out i (by omega)
    go_wp2
    go_roundg (d.length-(k+1))
    case measure=>omega
    case rel=>exact⟨k+1,by omega,rfl,by go_num,l,rfl⟩
   ·cases s:(y.toList==zb.toList)
    ·have l:Hid (∀i,i<k+1->M9 d zb i=false):=fun i v=>by
      by_cases e:i=k
      ·rw[e,c.out,m,s];rfl
      ·exact f.out i (by omega)
     go_wp2
     go_roundg (d.length-(k+1))
     case measure=>omega
     case rel=>exact⟨k+1,by omega,rfl,by go_num,l,rfl⟩
    ·have n:Hid (uY d zb=some k):=DY a f.out (by rw[c.out,m,s];rfl)
     go_wp2;exact QX (v:=.tuple #[.int .i64 k,.int .i64 0]) (by simp[results,results61,go_sem]) rfl ⟨by rw[n.out];rfl,rfl⟩
  ·have e:k=d.length:=by omega
   subst e;have u:¬(d.length:Int)<(d.length:Int):=by omega
   have n:Hid (uY d zb=none):=Li f.out;go_wp2;exact QX (v:=.tuple #[.int .i64 0,.int .i64 8]) (by simp[results,results61,go_sem]) rfl ⟨by rw[n.out];rfl,rfl⟩
def Kk(L:List ByteArray)(w:World)(e:Ending)(w':World):Prop:=∃h',e=.returned (.tuple #[.slice h'.ao L.length h'.cap,.int .i64 0])/\gw w w' h' (aB L)
theorem Ec(hd:w.heap[z3]?=some (.cells #[y7,.bool true,.pointer (some ⟨v,0,none⟩),y8,.slice z7 d.length H] 85 (0,0)))(hS:cm w z7 6 jJ d)(hl:d.length<=100000)(hD:fz w v f y6 zt T x7 l)(ok:nJ f T x)(hn:x<T.length)(hE:cU f (au T x).h)(ha:uY d zb=some x)(ar:∀K,ab [] w K->∀j,(j∈bW f T x∨j=x)->Calls prog 63 #[.pointer (some ⟨z3,0,none⟩),.int .i64 j] K fun e F=>e=.returned (.string (km f T j))/\ab [] K F)(hp:∀p∈fH f T x,p.1.size<=100000/\p.2.size<=100000)(hh:(bW f T x).length<=10000)(hq:(fH f T x).length<=100000000) :
  Calls prog 40 #[.pointer (some ⟨z3,0,none⟩),.string zb] w fun e F=>Kk (pK f T x) w e F:=by
 have aT:Hid (Calls prog 61 #[.pointer (some ⟨z3,0,none⟩),.string zb] w fun e F=>e=.returned (.tuple #[.int .i64 x,.int .i64 0])/\F=w):=(A9 z3 zb d z7 H y7 _ y8 w hd hS hl).mono (fun e F h=>by
  obtain⟨h1,C⟩:=h;rw[ha]at h1;exact⟨h1,C⟩)
 have bk:=hI (nO v x f y6 zt T x7 l w hD ok hn hE);have bp:Hid (∀K,ab [] w K->Calls prog 64 #[.pointer (some ⟨v,0,none⟩),.int .i64 x] K fun e F=>∃t,e=.returned (.slice t.ao (fH f T x).length t.cap)/\gw K F t (ly (fH f T x))):=fun K k=>wH v x f y6 zt T x7 l K (hD.Va k) ok hn hE
 have ag:=hI ar;have a7:=hI hp;have HV:=hI hd;have v2:w.cell? ⟨z3,2,none⟩=some (.pointer (some ⟨v,0,none⟩)):=by rw[aa hd];rfl
 have vz:=ae hd;have af:Hid (pK f T x=(bW f T x).map (km f T)++(fH f T x).map fh++[km f T x]):=rfl;obtain⟨iS,S,y,E,D⟩:=Rd js;generalize pK f T x=LL at *;generalize bW f T x=b at *;generalize fH f T x=c at *;clear hd hS hD ok hE ar hp ha;go_enter func40,ntmps40
 go_upto_region 5 with (go_at_call 61;refine QT aT.out ?_;rintro e w9 ⟨rfl,ax⟩;rw[ax];clear ax)
 go_upto_region 6 with (go_at_call 62;refine QT bk.out ?_;rintro e w1 ⟨h1,rfl,x1⟩)
 have V:=hI x1.kept;have aS:=hI x1.own.srcN;obtain⟨a4,bw⟩:=h1;have bo:Hid (gw w1 w1 ⟨none,0⟩ (aB [])):=⟨QY _ _ _ _,(by intro k hk;cases hk),ab.refl _ _⟩;clear x1 v2 vz;go_wp2
 go_loopg [8,10] b.length (fun g o i wr=>∃(k:Nat) (t:Hd),k<=b.length/\g=b.length-k/\o=.slice t.ao k t.cap/\i=.int .i64 k/\Hid (gw w1 wr t (aB ((b.take k).map (km f T)))))
 case atStart=>exact⟨0,⟨none,0⟩,by omega,rfl,rfl,rfl,bo⟩
 case round =>
  obtain⟨k,t,hk,hg,rfl,rfl,X⟩:=hrel;have P:=hI (V.out.trans X.out.kept)
  by_cases r:k<b.length
  ·have a3:(k:Int)<(b.length:Int):=by omega
   obtain⟨gH,eH,ba,cH⟩:=(qC.Va aS.out X.out.kept) k _ (QO r);replace eH:a4=some ⟨gH,0,none⟩:=eH;subst eH;have az:=hI (ag.out wr P.out b[k] (Q0 (Ra r)));have U:Hid ((b.take k).map (km f T)++[km f T b[k]]=(b.take (k+1)).map (km f T)):=by show _=_;rw[Tc,QO r,Rx];rfl
   have q:Hid (((b.take k).map (km f T)).length=k):=by show _=_;rw[Rh,RO];omega
   generalize (b.take k).map (km f T)=O at *;generalize km f T b[k]=ln at *;generalize b[k]=j at *
   go_upto_region 10 with (go_at_call 63;refine QT az.out ?_;rintro e w2 ⟨rfl,k2⟩)
   have J:=hI (X.out.Va k2);have B:=J.out.own;have u:Hid ((aB O).n<=900000000):=by show O.length<=_;rw[q.out];omega
   have s:Hid ((aB O).n=k):=q.out;clear cH ba k2;go_wp2_with (at_builtin;refine bN w2 rfl (.tmp 42) (.tmp 44) 61 rfl iS (.string ⟨#[]⟩) 16 t (aB O) [.string ln] underlying61 S y E D rfl Rb (by rw[s.out];simp[Act.eval]) B u.out (by omega) (by simp[Act.eval]) rfl (by simp[Value.oneCell']) ?_;intro Z w5 m a;rw[dr]at m;have R:=hI (J.out.grew a m);clear m a)
   go_roundg (b.length-(k+1))
   case measure=>omega
   case rel=>exact⟨k+1,Z,by omega,rfl,by rw[s.out],by go_num,by rw[<-U.out];exact R⟩
  ·have e:k=b.length:=by omega
   subst e;have bx:¬(b.length:Int)<(b.length:Int):=by omega
   rw[RI]at X;have ac:=hI (P.out.get HV.out (by simp));have v2:wr.cell? ⟨z3,2,none⟩=some (.pointer (some ⟨v,0,none⟩)):=by rw[aa ac.out];rfl
   have vz:=ae ac.out;have bg:=hI (bp.out wr P.out)
   go_upto_region 12 with (go_at_call 64;refine QT bg.out ?_;rintro e w2 ⟨hP,rfl,x2⟩)
   have bj:Hid (cm w2 hP.ao 2 CH c):=aw.srcG (f:=CH) x2.own (fun _=>rfl);have J:=hI (X.out.Va x2.kept)
   have bc:Hid (∀g,hP.ao=some ⟨g,0,none⟩->t.blk≠some g):=fun g G hb=>by
    have h1:=x2.far g (tJ G);have C:=X.out.own.lt hb;omega
   have a6:Hid (∀g,hP.ao=some ⟨g,0,none⟩->g<w2.heap.size):=fun g G=>x2.own.lt (tJ G)
   obtain⟨Q,bz⟩:=hP;clear v2 vz x2;have a2:Hid ((b.map (km f T)).length=b.length):=Rh _;generalize b.map (km f T)=O at *;have al:Hid (gw w1 w2 t (aB (O++(c.take 0).map fh))):=by show gw _ _ _ _;rw[Tp,Uz,Rk];exact J.out
   go_wp2
   go_loopg [8,13] c.length (fun g o i N=>∃(k:Nat) (C:Hd),k<=c.length/\g=c.length-k/\o=.slice C.ao (b.length+k) C.cap/\i=.int .i64 k/\Hid (gw w1 N C (aB (O++(c.take k).map fh)))/\Hid (cm N Q 2 CH c)/\Hid (∀g,Q=some ⟨g,0,none⟩->C.blk≠some g/\g<N.heap.size))
   case atStart=>exact⟨0,t,by omega,rfl,rfl,rfl,al,bj,fun g G=>⟨bc.out g G,a6.out g G⟩⟩
   case round =>
    obtain⟨k,C,bv,a1,rfl,rfl,z,ai,M⟩:=hrel;have a5:=hI (V.out.trans z.out.kept);have q:Hid ((O++(c.take k).map fh).length=b.length+k):=by show _=_;rw[QZ,a2.out,Rh,RO];omega
    by_cases r:k<c.length
    ·have a3:(k:Int)<(c.length:Int):=by omega
     obtain⟨I,eP,bd,hc⟩:=ai.out k _ (QO r);replace eP:Q=some ⟨I,0,none⟩:=eP;subst eP;have c0:=hc 0 _ rfl;have c1:=hc 1 _ rfl;rw[Tf]at c0;obtain⟨z0,z1⟩:=a7.out _ (Ra r);have U:Hid (O++(c.take k).map fh++[fh c[k]]=O++(c.take (k+1)).map fh):=by show _=_;rw[Tc,QO r,Rx,Sx];rfl
     have ap:Hid (fh c[k]=⟨#[36,100,32]⟩++c[k].1++⟨#[32]⟩++c[k].2):=rfl;clear hc;generalize c[k]=pp at *;obtain⟨W,py⟩:=pp;simp only at ap z0 z1 c0 c1;generalize O++(c.take k).map fh=A at *;have s3:(⟨#[36,100,32]⟩:ByteArray).size=3:=rfl;have y1:(⟨#[36,100,32]⟩++W:ByteArray).size<=100003:=by simp only[Sc,s3];omega
     have y2:(⟨#[36,100,32]⟩++W++⟨#[32]⟩:ByteArray).size<=100004:=by simp only[Sc,s3,mF];omega
     have n1:¬9223372036854775807<3+W.size:=by omega
     have n2:¬9223372036854775807<3+W.size+1:=by omega
     have n3:¬9223372036854775807<3+W.size+1+py.size:=by omega
     have B:=z.out.own;have u:Hid ((aB A).n<=900000000):=by show A.length<=_;rw[q.out];omega
     have s:Hid ((aB A).n=b.length+k):=q.out
     have HS:Hid (∀(Y:World) (h6:Hd),bt wr Y C h6->Y.cell? ⟨I,k*2,none⟩=some (.string W)/\Y.cell? ⟨I,k*2+1,none⟩=some (.string py)):=fun Y h6 gr=>by
      have hb:=gr.kept.block I bd (fun hm=>(M.out I rfl).1 (aN hm));exact⟨by rw[Q5 hb];exact c0,by rw[Q5 hb];exact c1⟩
     go_upto_region 15 with fail
     go_region_held3 (fun F=>F.cell? ⟨I,k*2,none⟩=some (.string W)/\F.cell? ⟨I,k*2+1,none⟩=some (.string py)) (go_keep) ((refine bH wr (by rfl) (.tmp 58) (.tmp 72) 61 (by rfl) iS (.string ⟨#[]⟩) 16 C (aB A) [.string _] underlying61 S y E D rfl Rb (by rw[s.out];simp[Act.eval]) B u.out (by omega) (by simp[Act.eval]) rfl (by simp[Value.oneCell']) ?_;intro an L w5 m a;obtain⟨y0,y3⟩:=HS.out w5 _ a))
     all_goals
      rw[dr,<-ap.out,U.out]at m;have a0:=hI (z.out.grew a m);have bl:Hid (cm w5 (some ⟨I,0,none⟩) 2 CH c):=ai.out.keptS a.kept (fun g G hm=>(M.out g G).1 (aN hm))
      have be:Hid (∀g,(some ⟨I,0,none⟩:Option Addr)=some ⟨g,0,none⟩->(⟨an,L⟩:Hd).blk≠some g/\g<w5.heap.size):=fun g G=>by
       obtain⟨f1,f2⟩:=M.out g G;have hs:=a.kept.size;refine⟨fun e=>?_,by omega⟩
       rcases a.blk with e2 | ⟨g2,e2,a1⟩
       ·rw[e2]at e;exact f1 e
       ·rw[e2]at e;cases e;omega
      clear m a;go_wp2
      go_roundg (c.length-(k+1))
      case measure=>omega
      case rel=>exact⟨k+1,⟨an,L⟩,by omega,rfl,by rw[s.out];rfl,by go_num,a0,bl,be⟩
    ·have e:k=c.length:=by omega
     subst e;have bs:¬(c.length:Int)<(c.length:Int):=by omega
     rw[RI]at z q;have br:=hI (ag.out wr a5.out x (QU rfl));generalize O++c.map fh=A at *;generalize km f T x=la at *
     go_upto_region 17 with (go_at_call 63;refine QT br.out ?_;rintro e Y ⟨rfl,k6⟩)
     have ad:=hI (z.out.Va k6);have B:=ad.out.own;have u:Hid ((aB A).n<=900000000):=by show A.length<=_;rw[q.out];omega
     have s:Hid ((aB A).n=b.length+c.length):=q.out;clear k6;go_wp2_with (at_builtin;refine bN Y rfl (.tmp 77) (.tmp 79) 61 rfl iS (.string ⟨#[]⟩) 16 C (aB A) [.string la] underlying61 S y E D rfl Rb (by rw[s.out];simp[Act.eval]) B u.out (by omega) (by simp[Act.eval]) rfl (by simp[Value.oneCell']) ?_;intro Z w5 m a;rw[dr]at m;have R:=hI (ad.out.grew a m);clear m a);have bf:Hid (LL.length=(aB A).n+1):=by show _=_;rw[af.out,QZ];rfl
     exact QX (v:=.tuple #[.slice Z.ao ((aB A).n+1) Z.cap,.int .i64 0]) (by simp[results,results40,go_sem]) rfl ⟨Z,by rw[bf.out],by rw[af.out];exact R.out.base V.out⟩
structure Qo(T:List Tk)(S:List Sm)(RS:List ik):Prop where
 len:RS.length=S.length
 yes:∀a,a<S.length->aC (au S a).k=true->(bne (ff RS a).Vb 0)=true/\(ff RS a).label=bG T (au S a)
 no:∀a,a<S.length->aC (au S a).k=false->(bne (ff RS a).Vb 0)=false
theorem kO.find(R:kO a ya)(E:Qo a (aj a) yd)(c:ByteArray):uY yd c=(gC ya.sts c).map (bR (aj a)):=by
 have d:((List.range ya.sts.length).filter (mC ya.sts c)).map (bR (aj a))=(List.range (aj a).length).filter (M9 yd c):=by
  refine ua R.hel.len (fun j i h=>?_) (fun n g=>?_)
  ·unfold M9 at h
   simp only[Rf]at h
   cases b:aC (au (aj a) j).k
   ·rw[E.no j i b]at h;cases h.1
   ·unfold aC at b
    simp only[Rz]at b;unfold nt
    rcases b with b | b <;> rw[b] <;> simp
  ·obtain⟨s,m,p,l,-⟩:=R.get g
   have e:=R.hel.at_ g;unfold mC M9;rw[m];simp only;have f:=(fS p).2.2.2
   cases b:aC (au (aj a) (bR (aj a) n)).k
   ·rw[E.no _ e b]
    unfold aC at b;rw[f,b];simp
   ·obtain⟨o,q⟩:=E.yes _ e b
    rw[o,q];unfold aC at b;rw[f,b,l];simp
 unfold uY gC;rw[E.len,<-List.head?_filter,<-d,List.head?_map,List.head?_filter]
theorem Ed(G:oi a ya)(E:Qo a (aj a) yd)(b:ByteArray):(gC ya.sts b=none->uY yd b=none)/\∀n,gC ya.sts b=some n->uY yd b=some (bR (aj a) n)/\cW ya.sts n=pK a (aj a) (bR (aj a) n):=by
 have h:=G.r.find E b;refine⟨fun e=>by rw[h,e];rfl,fun n e=>⟨by rw[h,e];rfl,?_⟩⟩
 have d:n<ya.sts.length:=by
  unfold gC at e;exact Q9.1 (Ry e)
 refine G.r.frame G.f d (fun s c=>?_);unfold gC at e;have:=Tl e;unfold mC at this;rw[c]at this;simp only[Rf]at this;exact this.2
theorem Fz(P:List dj)(a:ByteArray)(t:Tk):∀(b k:Nat) (M:List (List ByteArray)),(bne (pn f T H P a t b k M).Vb 0)=true/\(pn f T H P a t b k M).label=a:=by
 intro b
 induction b with
 | zero =>
  intro k M;unfold pn xr
  repeat' split
  all_goals exact⟨rfl,rfl⟩
 | succ b c =>
  intro k M;unfold pn
  repeat' split
  all_goals first
   | exact⟨rfl,rfl⟩
   | exact c _ _
theorem AJ(p:jS)(t:Tk):(bne (mQ f T H p t).Vb 0)=true/\(mQ f T H p t).label=bG f (au T H):=by
 unfold mQ
 split
 ·exact⟨rfl,rfl⟩
 ·split
  ·exact⟨rfl,rfl⟩
  ·exact Fz f T H _ _ t _ _ _
theorem zd:(aC (au T H).k=true->(bne (oN f T (JH f T) H).Vb 0)=true/\(oN f T (JH f T) H).label=bG f (au T H))/\(aC (au T H).k=false->(bne (oN f T (JH f T) H).Vb 0)=false):=by
 unfold oN aC
 cases a:NA T H
 ·cases b:tX T H
  ·unfold NA at a
   unfold tX at b;rw[a,b];exact⟨(fun h=>by cases h),fun _=>rfl⟩
  ·unfold tX at b
   rw[b,Bool.or_true];refine⟨fun _=>?_,fun h=>by cases h⟩;exact AJ f T H _ _
 ·unfold NA at a
  rw[a,Tr];exact⟨fun _=>⟨rfl,rfl⟩,fun h=>by cases h⟩
theorem pu.tell{k:List (jS×Hd)}(h:pu D k ((List.range D.length).map (oN a D (JH a D))) yd D.length):Qo a D yd:=by
 have o:yd.length=D.length:=by rw[h.len,Rh,Te]
 have f:∀b,b<D.length->ff ((List.range D.length).map (oN a D (JH a D))) b=oN a D (JH a D) b:=fun b d=>by
  unfold ff;rw[QP,Rp,Ux d];rfl
 have g:∀b,b<D.length->(ff yd b).label=(oN a D (JH a D) b).label/\(bne (ff yd b).Vb 0)=(bne (oN a D (JH a D) b).Vb 0):=fun b d=>by
  by_cases c:(ff ((List.range D.length).map (oN a D (JH a D))) b).Vb=4/\vA D k ((List.range D.length).map (oN a D (JH a D))) b
  ·have e:=h.yes b d c.1 c.2
   have j:=c.1;rw[f b d]at e j;rw[e];exact⟨rfl,by simp only;rw[j];rfl⟩
  ·rw[h.no b d c,f b d]
   exact⟨rfl,rfl⟩
 refine⟨o,fun b d i=>?_,fun b d i=>?_⟩
 ·obtain⟨m,p⟩:=g b d
  obtain⟨l,n⟩:=(zd a D b).1 i;exact⟨by rw[p];exact l,by rw[m];exact n⟩
 ·rw[(g b d).2];exact(zd a D b).2 i
def uS(RS:List ik):List ik:=RS.filter (fun r=>bne r.Vb 0)
theorem Mp(r:ik):∀u∈jJ r,u.oneCell'=true:=by
 intro u a;simp only[jJ,Ri,RN,SO]at a
 rcases a with rfl | rfl | rfl | rfl | rfl | rfl <;> rfl
theorem JF(a:w.heap[H]?=some (.cells #[v3,.bool false,yu,y7,y8] 85 (0,0))) :
  Calls prog 22 #[.pointer (some ⟨H,0,none⟩)] w fun e b=>e=.returned (.slice none 0 0)/\b=w:=by
 have d:w.cell? ⟨H,1,none⟩=some (.bool false):=by rw[aa a];rfl
 have c:=ae a;clear a;go_enter func22,ntmps22;go_wp2;go_ret;exact⟨rfl,rfl⟩
def M3(RS:List ik)(w:World)(e:Ending)(w':World):Prop:=∃h',e=.returned (.slice h'.ao (uS RS).length h'.cap)/\gw w w' h' (fM (uS RS))
theorem JE(x:w.heap[l]?=some (.cells #[yu,.bool true,y7,y8,.slice z7 d.length H] 85 (0,0)))(R:cm w z7 6 jJ d)(hl:d.length<=100000) :
  Calls prog 22 #[.pointer (some ⟨l,0,none⟩)] w fun e w'=>M3 d w e w':=by
 have v1:w.cell? ⟨l,1,none⟩=some (.bool true):=by rw[aa x];rfl
 have P:=ae x;have HV:=hI x;have Z:=(show Hid (cm w z7 6 jJ d) from R);have M:Hid (gw w w ⟨none,0⟩ (fM (uS (d.take 0)))):=⟨QY _ _ _ _,(by intro k N;cases N),ab.refl _ _⟩;obtain⟨Y,A,v,u,q⟩:=Rd Gm;clear x R;go_enter func22,ntmps22;go_wp2;clear v1 P
 go_loopg [3,4] d.length (fun g o i wr=>∃(k:Nat) (f:Hd) (L:List ik),k<=d.length/\g=d.length-k/\o=.slice f.ao L.length f.cap/\i=.int .i64 k/\L.length<=k/\Hid (L=uS (d.take k))/\Hid (gw w wr f (fM L)))
 case atStart=>exact⟨0,⟨none,0⟩,[],by omega,rfl,rfl,rfl,QQ _,rfl,M⟩
 case round =>
  obtain⟨k,f,L,N,hg,rfl,rfl,X,y,j⟩:=hrel;have p:=hI (j.out.kept.get HV.out (by simp));have v4:wr.cell? ⟨l,4,none⟩=some (.slice z7 d.length H):=by rw[aa p.out];rfl
  have P:=ae p.out
  by_cases t:k<d.length
  ·have ac:(k:Int)<(d.length:Int):=by omega
   obtain⟨g0,rfl,S,a⟩:=(cm.Va Z.out j.out.kept) k _ (QO t);have O:=a 0 _ rfl;have c1:=a 1 _ rfl;have c2:=a 2 _ rfl;have c3:=a 3 _ rfl;have U:=a 4 _ rfl;have W:=a 5 _ rfl;rw[Tf]at O
   have c:Hid (uS (d.take (k+1))=L++(if(bne d[k].Vb 0)=true then [d[k]] else [])):=by
    show _=_
    rw[y.out];unfold uS;rw[Tc,QO t,RU]
    congr 1
    cases h:(bne d[k].Vb 0) <;> simp[h]
   clear a;generalize d[k]=r at *;obtain⟨B,z,F,J,C,K⟩:=r;simp only at c O c1 c2 c3 U W
   cases Q:(z != 0)
   ·have G:Hid (L=uS (d.take (k+1))):=by show _=_;rw[c.out,Q,QS (by simp),Rk]
    go_wp2
    go_roundg (d.length-(k+1))
    case measure=>omega
    case rel=>exact⟨k+1,f,L,by omega,rfl,rfl,by go_num,by omega,G,j⟩
   ·have G:Hid (L++[⟨B,z,F,J,C,K⟩]=uS (d.take (k+1))):=by show _=_;rw[c.out,Q,QV rfl]
    have E:=j.out.own;have D:Hid ((fM L).n<=900000000):=by show L.length<=_;omega
    have s:Hid ((fM L).n=L.length):=rfl;go_wp2_with (at_builtin;refine bN wr rfl (.tmp 28) (.tmp 36) 54 rfl Y (.agg #[.string ⟨#[]⟩,.int .i64 0,.int .i64 0,.string ⟨#[]⟩,.int .i64 0,.int .i64 0]) 64 f (fM L) (jJ ⟨B,z,F,J,C,K⟩) underlying54 A v u q rfl (show 0<6 by omega) (by rw[s.out];simp[Act.eval]) E D.out (by omega) (by simp[Act.eval]) rfl (Mp _) ?_;intro V w5 b m;rw[fM,gM]at b;have I:=hI (j.out.grew m b);clear b m)
    go_roundg (d.length-(k+1))
    case measure=>omega
    case rel=>exact⟨k+1,V,L++[(⟨B,z,F,J,C,K⟩:ik)],by omega,rfl,by rw[s.out,QZ];rfl,by go_num,by rw[QZ];show _+1<=_;omega,G,I⟩
  ·have e:k=d.length:=by omega
   subst e;have T:¬(d.length:Int)<(d.length:Int):=by omega
   rw[RI]at y;go_wp2;go_ret;exact⟨f,by rw[<-y.out];rfl,by rw[<-y.out];exact j.out⟩
section
variable {T:List Tk}
theorem zQ(h:dC T)(i:Nat):(tS T i).size<=1024:=by
 unfold tS;rw[QP]
 cases e:T[i]? with
 | none=>show(0:Nat)<=_;omega
 | some t=>exact(h t (R2 e)).1
theorem KM(h:z4∈kc a):∃t∈a,t.s=z4:=by
 induction a with
 | nil=>cases h
 | cons t r c =>
  rw[kc]at h
  split at h
  ·cases h
  ·rcases Ri.1 h with e | e
   ·exact⟨t,Rm,e.symm⟩
   ·obtain⟨u,d,b⟩:=c e
    exact⟨u,Rl _ d,b⟩
theorem Bf(h:dC T)(i:Nat):∀x∈bu T i,x.size<=100000:=fun x b=>by
 obtain⟨t,c,a⟩:=KM b;have:=(h t (List.mem_of_mem_drop c)).1;rw[a]at this;omega
theorem yJ(h:dC T)(s:Sm):(bG T s).size<=100000:=by
 unfold bG
 split
 ·have:=zQ h s.a;omega
 ·show(0:Nat)<=_;omega
theorem NC(h:dC T)(j:Nat)(c:j<(aj T).length):(au (aj T) j).k.size<=100000:=by
 have b:=((fw T).s j c).1.k;have f:=zQ h (au (aj T) j).a;have d:=zQ h ((au (aj T) j).a+1);unfold ew at b
 split at b
 ·have e:=congrArg Prod.fst b
  replace e:(au (aj T) j).k=tS T (au (aj T) j).a:=e;rw[e];omega
 ·have e:=congrArg Prod.fst b
  replace e:(au (aj T) j).k=tS T ((au (aj T) j).a+1):=e;rw[e];omega
theorem rY(h:aC z4=true):bS z4=false:=by
 unfold aC at h;rw[Rz]at h
 rcases h with h | h <;> exact fX h (by decide)
theorem zC(h:aG z4=true):bS z4=false:=by
 unfold aG at h;rw[Rz]at h
 rcases h with h | h <;> exact fX h (by decide)
theorem BZ(h:y∈bW T D b):y<b/\aG (au D y).k=true:=by
 unfold bW at h;obtain⟨d,a⟩:=RG.1 h;refine⟨Q9.1 d,?_⟩;unfold sI at a;unfold aG
 cases c:((au D y).k.toList == [36,102])
 ·cases e:((au D y).k.toList == [36,101])
  ·rw[c,e]at a;simp at a
  ·simp
 ·simp
theorem IP(a:List Nat)(k:Nat):(fO T T a k).length<=a.length:=by
 unfold fO;rw[Rh];refine Q1 (Sb _ _) ?_;rw[RO];omega
theorem yN(h:dC T)(S:List Sm)(a:List Nat)(k i:Nat):((fO T S a k).getD i ⟨#[]⟩).size<=100000:=by
 rw[QP];unfold fO;rw[Rp]
 cases ((a.take k).filter (fun j=>((au S j).k.toList == [36,102])))[i]? with
 | none=>show(0:Nat)<=_;omega
 | some j=>have:=zQ h ((au S j).h+1);show(tS T ((au S j).h+1)).size<=_;omega
theorem EL(h:dC T)(S:List Sm)(a:Nat):∀p∈fH T S a,p.1.size<=100000/\p.2.size<=100000:=by
 intro p b;unfold fH ld at b;obtain⟨i,-,c⟩:=TR.1 b;unfold jY at c;obtain⟨j,-,rfl⟩:=Sh.1 c;exact⟨yN h S _ _ i,yN h S _ _ j⟩
theorem EM(b:H<=10000):(fH T T H).length<=100000000:=by
 unfold fH;have a:=IP (T:=T) T (bW T T H) (bW T T H).length;have c:=ki T T H;refine Q1 (yV T T H _ (by omega) _) ?_;omega
end
theorem In(u:w.heap[z3]?=some (.cells #[y7,.bool true,.pointer (some ⟨v,0,none⟩),y8,.slice z7 d.length H] 85 (0,0)))(D:cm w z7 6 jJ d)(y:fz w v f y6 zt (aj f) x7 l)(o:f.length<=10000)(p:dC f)(c:∀q,q<f.length->bh f (aj f) q=0)(r:Qo f (aj f) d)(i:uY d zb=some x) :
  Calls prog 40 #[.pointer (some ⟨z3,0,none⟩),.string zb] w fun e E=>Kk (pK f (aj f) x) w e E:=by
 have G:(aj f).length<=f.length:=oF f f.length
 have C:x<d.length:=by
  unfold uY at i;exact Q9.1 (Ry i)
 have m:x<(aj f).length:=by rw[<-r.len];exact C
 have t:aC (au (aj f) x).k=true:=by
  cases e:aC (au (aj f) x).k
  ·unfold uY at i
   have n:=Tl i;unfold M9 at n;rw[r.no x m e]at n
   cases n
  ·rfl
 have b:∀j,j<(aj f).length->bS (au (aj f) j).k=false->cU f (au (aj f) j).h:=fun j g e=>qy (oP (fw f) c j g e)
 have F:=J7 f o c x (by omega);have s:=(J7 f o c _ (QQ _)).ok.a;have z:∀j (g:j<(aj f).length),au (aj f) j=(aj f)[j]:=fun j g=>by unfold au;rw[QP,QO g];rfl
 refine Ec z3 v x zb f y6 zt (aj f) x7 l d z7 H y7 y8 w u D (by rw[r.len];omega) y F m (b x m (rY t)) i (fun B k j g=>?_) (EL p _ _) (Q1 (ki _ _ _) (by omega)) (EM _ _ (by omega))
 have a:j<(aj f).length/\bS (au (aj f) j).k=false:=by
  rcases g with g | rfl
  ·obtain⟨n,A⟩:=BZ g
   exact⟨by omega,zC A⟩
  ·exact⟨m,rY t⟩
 exact IE z3 v j f y6 zt (aj f) x7 l y7 _ y8 _ B (k.get u (by simp)) (y.Va k) a.1 o (by rw[<-z j a.1];exact b j a.1 a.2) (by rw[<-z j a.1];exact s j a.1) (yJ p _) (NC p j a.1) (Bf p _) (Q1 (ke f _) o)
theorem yA(c:Int)(f:(c==0)=false)(w:World)(d:Calls prog 61 #[.pointer (some ⟨H,0,none⟩),.string I] w fun e b=>e=.returned (.tuple #[.int .i64 0,.int .i64 c])/\b=w) :
  Calls prog 40 #[.pointer (some ⟨H,0,none⟩),.string I] w fun e b=>e=.returned (.tuple #[.slice none 0 0,.int .i64 c])/\b=w:=by
 have g:=hI d;have h:(c != 0)=true:=by unfold bne;rw[f];rfl
 clear d;go_enter func40,ntmps40;go_wp2_with (go_at_call 61;refine QT g.out ?_;rintro e i ⟨rfl,a⟩;rw[a];clear a);exact QX (v:=.tuple #[.slice none 0 0,.int .i64 c]) (by simp[results,results40,go_sem]) rfl ⟨rfl,rfl⟩
def wC(bo:Option Nat):Option Addr:=bo.map (fun b=>⟨b,0,none⟩)
def ie(lo hi:Nat):List Nat:=List.range' lo (hi-lo)
theorem nf:L∈ie b y ↔ b<=L/\L<y:=by
 unfold ie;rw[List.mem_range'_1];omega
def PU(l:List St)(H:Nat->Hd)(q:Nat):Prop:=(H 6).blk=some q∨∃i s,l[i]?=some s/\((H (10+2*i)).blk=some q∨(H (11+2*i)).blk=some q)
theorem PU.inH(h:PU yy yv b):f9 yv b:=by
 rcases h with h | ⟨i,s,-,h | h⟩
 ·exact⟨6,h⟩
 ·exact⟨_,h⟩
 ·exact⟨_,h⟩
theorem gj.ltU(h:gj S yy yv)(u:PU yy yv b):b<S.heap.size:=by
 rcases u with u | ⟨i,s,a,u | u⟩
 ·exact h.own.lt u
 ·exact(h.syms i s a).lt u
 ·exact(h.prfs i s a).lt u
theorem gj.keptU(h:gj S yy yv)(k:ab ys S o)(c:∀x,PU yy yv x->x∉ys):gj o yy yv :=
 ⟨h.own.Vf (fun x a=>k.block x (h.own.lt a) (c x (Q0 a))),fun i s b=>(h.syms i s b).Vf (fun x a=>k.block x ((h.syms i s b).lt a) (c x (QU ⟨i,s,b,Q0 a⟩))),fun i s b=>(h.prfs i s b).Vf (fun x a=>k.block x ((h.prfs i s b).lt a) (c x (QU ⟨i,s,b,QU a⟩)))⟩
def Qs(w:World)(x:Nat)(fs:Fs)(lo hi:Nat):Option Nat->Prop
 | none=>jR w x fs
 | some k=>(k<fs.length/\((fE fs k).1==0)=true)/\∃H g,nH w x fs (bK fs k).2.2.sts H g/\(lo<=g/\g<hi)/\∀q,PU (bK fs k).2.2.sts H q->lo<=q/\q<hi
structure dE(w:World)(x:Nat)(fs:Fs)(lo hi:Nat)(st:Option Nat):Prop where
 z:hi<=w.heap.size
 s:Qs w x fs lo hi st
def Qq(w:World)(v:Nat)(fs:Fs)(h:Hd)(lo hi:Nat):Option Nat->Prop
 | none=>∃p2 p3 p4,fB w v fs h false p2 p3 p4
 | some k=>xD w v fs h (cC fs k).1 lo hi
structure dn(w:World)(v:Nat)(fs:Fs)(h:Hd)(lo hi:Nat)(st:Option Nat):Prop where
 z:hi<=w.heap.size
 s:Qq w v fs h lo hi st
theorem dE.anyS(a:dE S b i y L M):lh S b i:=by
 have:=a.s
 cases M with
 | none=>exact jR.anyR this
 | some k=>obtain⟨-,H,g,h,-⟩:=this;exact h.anyR
theorem dn.anyS(a:dn S b i g y L M):∃e c f d,fB S b i g e c f d:=by
 have:=a.s
 cases M with
 | none=>exact⟨false,this⟩
 | some k=>exact⟨true,xD.rvAt this⟩
theorem dE.kept(a:dE S b i y L M)(k:ab ys S o)(f:∀q,q∈b :: ie y L->q∉ys):dE o b i y L M:=by
 refine⟨Q1 a.z k.size,?_⟩;have e:=f b Rm;have d:∀q,y<=q/\q<L->q∉ys:=fun q c=>f q (Rl _ (nf.2 c))
 have:=a.s
 cases M with
 | none=>exact jR.kept this k e
 | some j =>
  obtain⟨u,H,g,h,m,l⟩:=this;obtain⟨n,r,p,t⟩:=h.ver;exact⟨u,H,g,⟨⟨n,r,p,bi.kept t k e⟩,h.sts.keptU k (fun q c=>d q (l q c)),k.get h.arr (d g m),h.far⟩,m,l⟩
theorem dn.kept(a:dn S b i g y L M)(k:ab ys S o)(c:∀q,q∈b :: (g.blk.toList++ie y L)->q∉ys):dn o b i g y L M:=by
 refine⟨Q1 a.z k.size,?_⟩;have e:=c b Rm;have d:∀q,g.blk=some q->q∉ys:=fun q n=>c q (Rl _ (RM _ (by rw[n];simp)))
 have l:∀q,y<=q->q<L->q∉ys:=fun q t h=>c q (Rl _ (Sd _ (nf.2 ⟨t,h⟩)))
 have:=a.s
 cases M with
 | none=>obtain⟨f,p,m,r⟩:=this;exact⟨f,p,m,r.keptS k e d⟩
 | some j=>exact xD.kept this k e d l
theorem dn.Va(a:dn S b i g y L M)(k:ab [] S o):dn o b i g y L M:=a.kept k (fun _ _ c=>by cases c)
theorem dE.Va(a:dE S b i y L M)(k:ab [] S o):dE o b i y L M:=a.kept k (fun _ _ c=>by cases c)
theorem dE.lt(a:dE S b i y L M)(q:Nat)(c:q∈b :: ie y L):q<S.heap.size:=by
 rcases Ri.1 c with e | e
 ·rw[e];exact a.anyS.lt
 ·have:=nf.1 e;have:=a.z;omega
theorem dn.lt{h:Hd}(a:dn S b i h y L M)(q:Nat)(c:q∈b :: (h.blk.toList++ie y L)):q<S.heap.size:=by
 obtain⟨j,f,k,g,r⟩:=a.anyS
 rcases Ri.1 c with e | e
 ·rw[e];exact ae r.d
 ·rcases Rq.1 e with e | e
  ·exact r.own.lt (aN e)
  ·have:=nf.1 e;have:=a.z;omega
theorem dE.same(a:dE S b i y L M):∃c n l m,iI S b i c n l m/\∀d,iI d b i c n l m->ab [b] S d->dE d b i y L M:=by
 have h:=a.s
 cases M with
 | none=>exact⟨_,_,_,_,h,fun d e k=>⟨Q1 a.z k.size,e⟩⟩
 | some j =>
  obtain⟨v,H,g,r,w,t⟩:=h;obtain⟨x,p,o,e⟩:=r.ver;refine⟨_,_,_,_,e,fun d f k=>⟨Q1 a.z k.size,v,H,g,⟨⟨x,p,o,f⟩,r.sts.keptU k (fun q u=>by simp;exact r.far.2 q u.inH),k.get r.arr (by simp;exact Ne.symm r.far.1),r.far⟩,w,t⟩⟩
def ma(c:Int)(st:Option Nat):Option Nat:=if c=0 then none else st
theorem qd(h:x5=0):ma x5 M=none:=QV h
theorem rW(h:x5≠0):ma x5 M=M:=QS h
theorem GB(h:(fc i z4 y9).1≠0):(fc i z4 y9).2=i:=by
 unfold fc at h ⊢
 split
 ·rfl
 ·next b =>
  rw[QS b]at h
  split
  ·next a=>rw[QV a]at h;exact absurd rfl h
  ·next a =>
   rw[QS a]at h
   split
   ·rfl
   ·next c=>rw[QS c]at h;exact absurd rfl h
theorem NV(h:dE w v n l H N)(f:y4.size<=1073741824)(d:y5.size<=4294967296) :
  Calls prog 14 #[.pointer (some ⟨v,0,none⟩),.string y4,.string y5] w fun e b=>e=.returned (.int .i64 (fc n y4 y5).1)/\dE b v (fc n y4 y5).2 l H (ma (fc n y4 y5).1 N)/\ab [v] w b:=by
 by_cases a:(fc n y4 y5).1=0
 ·refine(MR v y4 y5 n w h.anyS f d).mono (fun e b q=>⟨q.1,?_,q.2.2.2⟩)
  rw[qd a];exact⟨Q1 h.z q.2.2.2.size,q.2.2.1 a⟩
 ·obtain⟨c,i,m,o,k,j⟩:=h.same
  refine(Oh v y4 y5 n c i m o w k f d a).mono (fun e b q=>⟨q.1,?_,q.2.2⟩);have g:=q.2.1;rw[GB a]at g ⊢;rw[rW a];exact j b g q.2.2
theorem CJ(h:dE w v x6 l H N)(k:kQ w y6 n)(d:kZ n) :
  Calls prog 30 #[.pointer (some ⟨v,0,none⟩),.slice y6 n.length zt] w fun e b=>e=.returned (.int .i64 (dy n))/\dE b v (jt x6 n) l H (ma (dy n) N)/\ab [v] w b:=by
 obtain⟨c,g,m,p,j,i⟩:=h.same;refine(J5 v x6 n c g m p y6 zt w j k d).mono (fun e b q=>⟨q.1,?_,q.2.2⟩);obtain⟨o,f⟩:=q.2.1
 by_cases a:dy n=0
 ·rw[qd a]
  exact⟨Q1 h.z q.2.2.size,o a⟩
 ·have:=f a
  rw[pL rfl a]at this ⊢;rw[rW a];exact i b this q.2.2
theorem Nh(a:dn w v n z6 l H N)(j:y4.size<=1073741824)(m:y5.size<=4294967296) :
  Calls prog 15 #[.pointer (some ⟨v,0,none⟩),.string y4,.string y5] w fun e f=>e=.returned (.int .i64 (fc n y4 y5).1)/\∃c,dn f v (fc n y4 y5).2 c l H (ma (fc n y4 y5).1 N)/\ab (v :: z6.blk.toList) w f/\∀q,c.blk=some q->z6.blk=some q∨w.heap.size<=q:=by
 obtain⟨s,h,o,i,r⟩:=a.anyS;refine(Jk v n z6 s h o i y4 y5 w r j m).mono (fun e f q=>⟨q.1,?_⟩)
 by_cases b:(fc n y4 y5).1=0
 ·obtain⟨c,p,g⟩:=q.2.1 b
  rw[qd b];refine⟨c,⟨Q1 a.z g.kept.size,_,_,_,p⟩,g.kept,fun q d=>?_⟩
  rcases g.blk with e | ⟨u,e,t⟩
  ·exact Q0 (by rw[<-e];exact d)
  ·rw[e]at d;cases d;exact QU t
 ·have k:=q.2.2 b
  rw[rW b,GB b];exact⟨z6,a.Va k,k.mono (by simp),fun _ e=>Q0 e⟩
theorem Bp(d:Option Addr)(b:Nat)(w:World)(a:dn w v x6 z6 l H N)(A:mU w d b n)(s:d=none->n.length=0/\b=0)(t:∀m,d=some m->∃g,m=⟨g,0,none⟩)(h:∀j,j<n.length->(aE n j).size<=1073741824/\(ak n j).size<=1073741824) :
  Calls prog 31 #[.pointer (some ⟨v,0,none⟩),.slice d n.length b] w fun e i=>e=.returned (.int .i64 (dy n))/\∃f,dn i v (jt x6 n) f l H (ma (dy n) N)/\ab (v :: z6.blk.toList) w i/\∀q,f.blk=some q->z6.blk=some q∨w.heap.size<=q:=by
 obtain⟨B,o,u,p,r⟩:=a.anyS;refine(Et v x6 n z6 B o u p d b w r A s t h).mono (fun e i q=>⟨q.1,?_⟩)
 by_cases c:dy n=0
 ·obtain⟨f,x,g,y⟩:=q.2.1 c
  rw[qd c];exact⟨f,⟨Q1 a.z g.size,_,_,_,x⟩,g,y⟩
 ·have k:=q.2.2 c
  rw[rW c,pL rfl c];exact⟨z6,a.Va k,k.mono (by simp),fun _ e=>Q0 e⟩
theorem Bx(c:n.length<=4)(a:∀j,j<n.length->(ak n j).size<=1024)(d:H<n.length)(h:((fE n H).1==0)=true):fE n H=cY:=by
 have f:=h;unfold fE at h
 split at h
 ·next b =>
  have e:(Lh (yn (cC n H).1 (aj (cC n H).1))).1=(yn (cC n H).1 (aj (cC n H).1)).rule:=rfl;rw[e,b]at h
  cases h
 ·next b =>
  exact(v7 n H c a d (by cases q:((yn (cC n H).1 (aj (cC n H).1)).rule==0);exact absurd q b;rfl) h).1
def nG(z lo hi lo1 hi1:Nat):Prop:=(lo1=lo/\hi1=hi)∨z<=lo1
theorem nG.mem{z lo hi:Nat}(h:nG z lo hi b y)(a:L∈ie b y):L∈ie lo hi∨z<=L:=by
 rcases h with ⟨rfl,rfl⟩ | h
 ·exact Q0 a
 ·exact QU (Q1 h (nf.1 a).1)
def QG(w:World)(x:Nat)(fs:Fs)(lo hi:Nat)(f:pv)(q:Int)(st:Option Nat)(e:Ending)(w':World):Prop :=
 e=.returned (.tuple #[gU f,.int .i64 q])/\(∃lo1 hi1,dE w' x fs lo1 hi1 st/\nG w.heap.size lo hi lo1 hi1)/\ab [x] w w'
def QF(w:World)(m:Nat)(fs:Fs)(h:Hd)(lo hi:Nat)(f:pv)(q:Int)(st:Option Nat)(e:Ending)(w':World):Prop :=
 e=.returned (.tuple #[gU f,.int .i64 q])/\(∃lo1 hi1,dn w' m fs h lo1 hi1 st/\nG w.heap.size lo hi lo1 hi1)/\ab [m] w w'
theorem KN(K:dE w z3 n x zt N)(p:n.length<=4)(h:∀j,j<n.length->(ak n j).size<=1024) :
  ∃(f:pv) (q:Int) (s:Option Nat),Calls prog 36 #[.pointer (some ⟨z3,0,none⟩),.string I] w (fun e d=>QG w z3 n x zt f q s e d) /\
   ∀a,dn a v n z6 l H N->Calls prog 37 #[.pointer (some ⟨v,0,none⟩),.string I] a (fun e d=>QF a v n z6 l H f q s e d):=by
 rcases pH I n with y | ⟨k,o,y⟩
 ·obtain⟨G,W,S,T,U,X⟩:=K.same
  refine⟨cY,5,N,(Dl z3 n I G W S T w U (by rw[y];decide)).mono (fun e d q=>⟨q.1,⟨x,zt,X d q.2.1 q.2.2,Q0 ⟨rfl,rfl⟩⟩,q.2.2⟩),fun a c=>?_⟩;obtain⟨J,B,E,C,r⟩:=c.anyS;exact(xX v n z6 J B E C I a r (by rw[y];decide)).mono (fun e d q=>⟨q.1,⟨l,H,c.Va q.2,Q0 ⟨rfl,rfl⟩⟩,q.2.mono (by simp)⟩)
 ·obtain⟨L,-⟩:=v6 n k p h o
  have t:=FB z3 k n I w K.anyS y o h
  have u:∀a,dn a v n z6 l H N->Calls prog 37 #[.pointer (some ⟨v,0,none⟩),.string I] a fun e d=>Qt n k v z6 (fE n k) (if((fE n k).1==0)=true then 0 else 6) a e d:=fun a c=>by
   obtain⟨J,B,E,C,r⟩:=c.anyS;exact AM v k n z6 J B E C I a r y o h
  cases m:((fE n k).1==0)
  ·refine⟨fE n k,6,none,t.mono (fun e d q=>?_),fun a c=>(u a c).mono (fun e d q=>?_)⟩
   ·obtain⟨i,c⟩:=q
    rw[L,m,QS (by simp)]at i;exact⟨i.1,⟨x,zt,⟨Q1 K.z c.size,i.2⟩,Q0 ⟨rfl,rfl⟩⟩,c⟩
   ·rw[m,QS (by simp)]at q
    obtain⟨D,⟨-,V⟩,A⟩:=q;exact⟨D,⟨l,H,⟨Q1 c.z A.size,V (by decide)⟩,Q0 ⟨rfl,rfl⟩⟩,A⟩
  ·refine⟨fE n k,0,some k,t.mono (fun e d q=>?_),fun a c=>(u a c).mono (fun e d q=>?_)⟩
   ·obtain⟨i,c⟩:=q
    rw[L,m,QV rfl]at i;obtain⟨i,Y,g,F,Z,P⟩:=i;exact⟨by rw[i,Bx n k p h o m],⟨w.heap.size,d.heap.size,⟨QQ _,⟨o,m⟩,Y,g,F,⟨Z,ae F.arr⟩,fun b M=>⟨P b M.inH,F.sts.ltU M⟩⟩,QU (QQ _)⟩,c⟩
   ·rw[m,QV rfl]at q
    obtain⟨D,⟨O,-⟩,A⟩:=q;obtain⟨R,Q,r⟩:=O rfl;exact⟨D,⟨R,d.heap.size,⟨QQ _,r⟩,QU Q⟩,A⟩
def vF(fs:Fs)(st:Option Nat)(lab:ByteArray):List ByteArray×Int :=
 match st with
 | none=>([],7)
 | some k=>match gC (bK fs k).2.2.sts lab with
  | none=>([],8)
  | some n=>(cW (bK fs k).2.2.sts n,0)
structure vE(w:World)(bo:Option Nat)(L:List ByteArray):Prop where
 nil:bo=none ↔ L=[]
 blk:∀b,bo=some b->w.heap[b]?=some (.cells (cN L).toArray 9 (0,0))
theorem Dm(h:jR w v n) :
  Calls prog 39 #[.pointer (some ⟨v,0,none⟩),.string I] w fun e a=>e=.returned (.tuple #[.slice none 0 0,.int .i64 7])/\ab [] w a:=by
 have c:Hid (Calls prog 59 #[.pointer (some ⟨v,0,none⟩),.string I] w fun e a=>e=.returned (.tuple #[.int .i64 0,.int .i64 7])/\ab [] w a):=by
  show Calls _ _ _ _ _
  obtain⟨f,-⟩:=iI.cells h;have b:=bi.lt h;clear h;go_enter func59,ntmps59;go_wp2;go_ret2;exact⟨rfl,ab.refl _ _⟩
 clear h;go_enter func39,ntmps39;go_wp2_with (go_at_call 59;refine QT c.out ?_;rintro e g ⟨rfl,d⟩);go_ret2;exact⟨rfl,d⟩
theorem oi.szs(G:oi a ya)(c:dC a):AZ ya.sts:=fun s d _=>by
 obtain⟨n,b,rfl⟩:=RZ d;obtain⟨h,e,-,g,f⟩:=G.r.get b;rw[QO b]at e
 cases e
 exact⟨by rw[g];exact yJ c _,by rw[f];exact Bf c _⟩
theorem LD(l:List St)(n:Nat):cW l n≠[]:=fun e=>by have:=t7 l n;rw[e]at this;simp at this
def QB(L:List ByteArray)(c:Int)(w:World)(e:Ending)(w':World):Prop:=∃bo,e=.returned (.tuple #[.slice (wC bo) L.length L.length,.int .i64 c])/\vE w' bo L/\(∀b,bo=some b->w.heap.size<=b)/\ab [] w w'
def Qx(L:List ByteArray)(c:Int)(w:World)(e:Ending)(w':World):Prop:=∃h',e=.returned (.tuple #[.slice h'.ao L.length h'.cap,.int .i64 c])/\gw w w' h' (aB L)
theorem zV(c:i.length<=4)(a:∀j,j<i.length->(ak i j).size<=1024)(d:b<i.length)(f:((fE i b).1==0)=true):oi (cC i b).1 (bK i b).2.2/\(cC i b).1.length<=10000/\dC (cC i b).1:=by
 obtain⟨g,k⟩:=v6 i b c a d;obtain⟨e,h⟩:=k (by rw[g];exact f);exact⟨e,h,BD i b (sC a)⟩
theorem Ji(B:dE w v n l H N)(h:n.length<=4)(c:∀j,j<n.length->(ak n j).size<=1024) :
  Calls prog 39 #[.pointer (some ⟨v,0,none⟩),.string I] w fun e f=>QB (vF n N I).1 (vF n N I).2 w e f:=by
 have o:=B.s
 cases N with
 | none=>exact(Dm v n I w o).mono (fun e f q=>⟨none,q.1,⟨⟨fun _=>rfl,fun _=>rfl⟩,fun b e=>by cases e⟩,(fun b e=>by cases e),q.2⟩)
 | some k =>
  obtain⟨⟨u,A⟩,D,g,r,-⟩:=o;obtain⟨G,-,C⟩:=zV h c u A;refine(FC v n _ D g I w r (wS n c k).ok (G.szs C)).mono (fun e f q=>?_);obtain⟨i,d⟩:=q;unfold vF;simp only
  cases m:gC (bK n k).2.2.sts I with
  | none =>
   rw[m]at d;exact⟨none,d,⟨⟨fun _=>rfl,fun _=>rfl⟩,fun b e=>by cases e⟩,(fun b e=>by cases e),i⟩
  | some t =>
   rw[m]at d;obtain⟨p,x,y,z⟩:=d;have a:f.heap[p]?=some (.cells (cN (pj (cW (bK n k).2.2.sts t) (cW (bK n k).2.2.sts t).length)).toArray 9 (0,0)):=y;rw[Jc]at a;exact⟨some p,x,⟨⟨(fun e=>by cases e),fun e=>absurd e (LD _ _)⟩,fun b e=>by cases e;exact a⟩,(fun b e=>by cases e;exact z),i⟩
theorem Gw(L:List ByteArray)(b:L=[]):gw w w ⟨none,0⟩ (aB L):=by subst b;exact⟨QY _ _ _ _,(by intro k a;cases a),ab.refl _ _⟩
theorem Hw(M:dn w v n z6 l H N)(o:∀k,N=some k->k<n.length/\((fE n k).1==0)=true)(m:n.length<=4)(p:∀j,j<n.length->(ak n j).size<=1024) :
  Calls prog 40 #[.pointer (some ⟨v,0,none⟩),.string I] w fun e g=>Qx (vF n N I).1 (vF n N I).2 w e g:=by
 have z:=M.s
 cases N with
 | none =>
  obtain⟨B,L,D,r⟩:=z;refine(yA v I 7 (by decide) w (Kw v I _ B L D w r.d)).mono (fun e g q=>⟨⟨none,0⟩,q.1,?_⟩);rw[q.2];exact Gw w _ rfl
 | some k =>
  obtain⟨C,O⟩:=o k rfl;obtain⟨G,Q,R⟩:=zV m p C O;obtain⟨b,F,J,K,S,X,V,x,c,r⟩:=z;have i:=r.fin.tell;have a:=aw.srcG (f:=jJ) r.s2 (fun _=>rfl);have W:(aj (cC n k).1).length<=(cC n k).1.length:=oF _ _;obtain⟨P,T⟩:=Ed G i I;unfold vF;simp only
  cases y:gC (bK n k).2.2.sts I with
  | none =>
   have h:=P y;refine(yA v I 8 (by decide) w ((A9 v I x c.ao c.cap _ _ _ w r.rv.d a (by rw[i.len];omega)).mono (fun e g q=>?_))).mono (fun e g q=>⟨⟨none,0⟩,q.1,?_⟩)
   ·obtain⟨t,A⟩:=q
    rw[h]at t;exact⟨t,A⟩
   ·rw[q.2];exact Gw w _ rfl
  | some U =>
   obtain⟨h,E⟩:=T U y;simp only;rw[E];exact In v b _ I _ F J K S x c.ao c.cap _ _ w r.rv.d a r.db Q R G.u i h
def QC(w:World)(e:Ending)(w':World):Prop:=∃(L:List ik) (h':Hd),e=.returned (.slice h'.ao L.length h'.cap)/\gw w w' h' (fM L)/\L.length<=100000
theorem KY(D:dn w v n z6 l H N)(h:∀k,N=some k->k<n.length/\((fE n k).1==0)=true)(g:n.length<=4)(i:∀j,j<n.length->(ak n j).size<=1024) :
  Calls prog 22 #[.pointer (some ⟨v,0,none⟩)] w fun e m=>QC w e m:=by
 have t:=D.s
 cases N with
 | none =>
  obtain⟨x,C,y,r⟩:=t;refine(JF v _ x C y w r.d).mono (fun e m q=>⟨[],⟨none,0⟩,q.1,?_,by simp⟩);rw[q.2];exact⟨QY _ _ _ _,(by intro k c;cases c),ab.refl _ _⟩
 | some k =>
  obtain⟨c,E⟩:=h k rfl;obtain⟨G,O,P⟩:=zV g i c E;obtain⟨b,J,K,L,Q,M,F,p,o,r⟩:=t;have B:=r.fin.tell;have I:(aj (cC n k).1).length<=(cC n k).1.length:=oF _ _;have a:p.length<=100000:=by rw[B.len];omega
  refine(JE v p o.ao o.cap _ _ _ w r.rv.d (aw.srcG (f:=jJ) r.s2 (fun _=>rfl)) a).mono (fun e m q=>?_);obtain⟨A,z,u⟩:=q;exact⟨_,A,z,u,Q1 (Sb _ _) a⟩
def rA(b t:Nat)(c:List Value):It where
 B:=[b]
 P w:=w.heap[b]?=some (.cells c.toArray t (0,0))
 lt w h q hq:=by rw[Q8.1 hq];exact ae h
 ok S w w' h k hb:=k.get h (hb b (by simp))
def ce(h:Hd)(r:dN):It where
 B:=h.blk.toList
 P w:=aw w h r
 lt w o q hq:=o.lt (aN hq)
 ok S w w' o k hb:=o.Vf (fun q hq=>k.block q (o.lt hq) (hb q (by rw[hq];simp)))
def O4(x:Nat)(fs:Fs)(lo hi:Nat)(st:Option Nat):It where
 B:=x :: ie lo hi
 P w:=dE w x fs lo hi st
 lt _ a q hq:=a.lt q hq
 ok _ _ _ a k hb:=a.kept k hb
def O3(v:Nat)(h:Hd)(fs:Fs)(lo hi:Nat)(st:Option Nat):It where
 B:=v :: (h.blk.toList++ie lo hi)
 P w:=dn w v fs h lo hi st
 lt _ a q hq:=a.lt q hq
 ok _ _ _ a k hb:=a.kept k hb
def zu(fs:Fs):Prop:=∀j,j<fs.length->(ak fs j).size<=1024
structure iG(w:World)(bo:Option Nat)(fs:Fs):Prop where
 nil:bo=none->fs=[]
 blk:∀b,bo=some b->w.heap[b]?=some (.cells (qJ fs).toArray 68 (0,0))
def uH(bo:Option Nat)(fs:Fs):It where
 B:=bo.toList
 P w:=iG w bo fs
 lt w a q hq:=by
  cases bo with
  | none=>cases hq
  | some b=>rw[UH,Q8]at hq;rw[hq];exact ae (a.blk b rfl)
 ok S w w' a k hb:=⟨a.nil,fun b e=>k.get (a.blk b e) (hb b (by rw[e];simp))⟩
def Ah(x:Option Nat×Fs):Value:=.slice (wC x.1) x.2.length x.2.length
def ig(l:List (Option Nat×Fs)):dN:=⟨33,1,l.length,l.map Ah⟩
def NX(x:Nat):Value:=.pointer (some ⟨x,0,none⟩)
def lA(t:Nat)(l:List Nat):dN:=⟨t,1,l.length,l.map NX⟩
structure Mc where
 hx:Hd
 hm:Hd
 hr:Hd
 hl:Hd
 hc:Hd
 V:List (Nat×Nat×Fs)
 reg:Fs
 L:List (Option Nat×Option Nat×Fs)
 a:Int
 n:Int
 e:Int
 u:Int
 s:ByteArray
 p:Int
 q:Int
 f:ByteArray
 i:Int
 j:Int
 qv:Value
 tv:Value
def Mc.cells(M:Mc):List Value:=[.slice M.hx.ao M.V.length M.hx.cap,.slice M.hm.ao M.V.length M.hm.cap,.slice M.hr.ao M.reg.length M.hr.cap,.slice M.hl.ao M.L.length M.hl.cap,.slice M.hc.ao M.L.length M.hc.cap,.int .i64 M.a,.int .i64 M.n,.int .i64 M.e,.int .i64 M.u,.string M.s,.int .i64 M.p,.int .i64 M.q,.string M.f,.int .i64 M.i,.int .i64 M.j,M.qv,M.tv]
structure bZ(w:World)(b:Nat)(I:Nat×Nat->It)(M:Mc)(N:Nat):Prop where
 sep:nI w I
 w0:I (0,0)=rA b 42 M.cells
 x:I (1,0)=ce M.hx (lA 46 (M.V.map (·.1)))
 m:I (2,0)=ce M.hm (lA 47 (M.V.map (·.2.1)))
 r:I (3,0)=ce M.hr (cr M.reg)
 ls:I (4,0)=ce M.hl (ig (M.L.map (fun l=>(l.1,l.2.2))))
 lw:I (5,0)=ce M.hc (ig (M.L.map (fun l=>(l.2.1,l.2.2))))
 v:∀i x m fs,M.V[i]?=some (x,m,fs)->(∃st h lo hi lo2 hi2,I (6,i)=O4 x fs lo hi st/\I (7,i)=O3 m h fs lo2 hi2 st)/\zu fs
 l:∀k a c fs,M.L[k]?=some (a,c,fs)->I (8,k)=uH a fs/\I (9,k)=uH c fs/\kZ fs/\fs.length<=N
 fit:kZ M.reg
 len:M.V.length<=N/\M.reg.length<=N/\M.L.length<=N
 rng:qA M.a/\qA M.n/\qA M.e
structure rg(I:Nat×Nat->It)(M:Mc)(I':Nat×Nat->It)(M':Mc):Prop where
 k:∀j i,10<=j->I' (j,i)=I (j,i)
 q:M'.qv=M.qv
 t:M'.tv=M.tv
theorem rg.refl(M:Mc):rg z2 M z2 M:=⟨fun _ _ _=>rfl,rfl,rfl⟩
theorem oX{i:Nat}{a:It}(d:b<10)(c:10<=L):fk k (b,y) a (L,i)=k (L,i):=aq _ _ (bn (by omega))
theorem bZ.Va{M:Mc}(h:bZ S b k M y)(a:ab [] S o):bZ o b k M y:={ h with sep:=h.sep.Va a }
theorem bZ.more{M:Mc}(h:bZ S b k M y):bZ S b k M (y+1) :=
 { h with l:=fun j a c i e=>by obtain⟨g,d,f,m⟩:=h.l j a c i e;exact⟨g,d,f,by omega⟩,len:=by obtain⟨g,d,f⟩:=h.len;exact⟨by omega,by omega,by omega⟩ }
theorem bZ.blk{M:Mc}(h:bZ S b k M y):S.heap[b]?=some (.cells M.cells.toArray 42 (0,0)):=by
 have:=h.sep.all (0,0);rw[h.w0]at this;exact this
theorem bZ.ownX{M:Mc}(h:bZ S b k M y):aw S M.hx (lA 46 (M.V.map (·.1))):=by have:=h.sep.all (1,0);rw[h.x]at this;exact this
theorem bZ.ownM{M:Mc}(h:bZ S b k M y):aw S M.hm (lA 47 (M.V.map (·.2.1))):=by have:=h.sep.all (2,0);rw[h.m]at this;exact this
theorem bZ.ownR{M:Mc}(h:bZ S b k M y):aw S M.hr (cr M.reg):=by have:=h.sep.all (3,0);rw[h.r]at this;exact this
theorem bZ.ownL{M:Mc}(h:bZ S b k M y):aw S M.hl (ig (M.L.map (fun l=>(l.1,l.2.2)))):=by have:=h.sep.all (4,0);rw[h.ls]at this;exact this
theorem bZ.ownC{M:Mc}(h:bZ S b k M y):aw S M.hc (ig (M.L.map (fun l=>(l.2.1,l.2.2)))):=by have:=h.sep.all (5,0);rw[h.lw]at this;exact this
theorem nI.grow(s:nI S k)(e:k yg=ce g vb)(c:bt S o g yz)(d:aw o yz xz):nI o (fk k yg (ce yz xz)):=by
 refine s.put yg _ (by rw[e];exact c.kept) d (fun q a=>?_);have a:=aN a
 rcases c.blk with b | ⟨h,b,f⟩
 ·left;rw[e];show q∈g.blk.toList;rw[<-b,a];simp
 ·right;rw[b]at a;cases a;exact f
theorem nI.turn{a:List Value}(s:nI S k)(e:k yg=rA b y v0)(g:ab [b] S o)(c:o.heap[b]?=some (.cells a.toArray y (0,0))):nI o (fk k yg (rA b y a)) :=
 s.put yg _ (by rw[e];exact g) c (fun q d=>by rw[e];exact Q0 d)
def iB(b:Nat)(I:Nat×Nat->It)(M:Mc)(N:Nat)(r:Bool)(e:Ending)(w':World):Prop:=e=.returned (.bool r)/\∃I' M',bZ w' b I' M' (N+1)/\rg I M I' M'
theorem bZ.turn0{M M':Mc}(h:bZ S b k M y)(e:(M'.hx=M.hx/\M'.hm=M.hm/\M'.hr=M.hr/\M'.hl=M.hl/\M'.hc=M.hc)/\M'.V=M.V/\M'.reg=M.reg/\M'.L=M.L)(s:ab [b] S o)(p:o.heap[b]?=some (.cells M'.cells.toArray 42 (0,0)))(u:qA M'.a/\qA M'.n/\qA M'.e):bZ o b (fk k (0,0) (rA b 42 M'.cells)) M' y:=by
 obtain⟨⟨z,A,C,B,w⟩,d,j,f⟩:=e;have q:∀a i,a≠0->fk k (0,0) (rA b 42 M'.cells) (a,i)=k (a,i):=fun a i t=>aq _ _ (bn t)
 exact {
  sep:=h.sep.turn h.w0 s p
  w0:=bJ _ _ _
  x:=by rw[q 1 0 (by decide),z,d];exact h.x
  m:=by rw[q 2 0 (by decide),A,d];exact h.m
  r:=by rw[q 3 0 (by decide),C,j];exact h.r
  ls:=by rw[q 4 0 (by decide),B,f];exact h.ls
  lw:=by rw[q 5 0 (by decide),w,f];exact h.lw
  v:=fun i x m g c=>by rw[q 6 i (by decide),q 7 i (by decide)];rw[d]at c;exact h.v i x m g c
  l:=fun i x m g c=>by rw[q 8 i (by decide),q 9 i (by decide)];rw[f]at c;exact h.l i x m g c
  fit:=by rw[j];exact h.fit
  len:=by rw[d,j,f];exact h.len
  rng:=u }
theorem bZ.boxed{M:Mc}(h:bZ S b k M y)(g a c d:Int)(s t:ByteArray)(W:World)(f:S.alloc (.cells #[.int .i64 g,.int .i64 a,.int .i64 c,.int .i64 d,.string s,.string t] 28)=W) :
  bZ W b k M y/\W.heap[S.heap.size]?=some (.cells #[.int .i64 g,.int .i64 a,.int .i64 c,.int .i64 d,.string s,.string t] 28 (0,0))/\b<S.heap.size/\ab [] S W:=by
 have e:ab [] S W:=by rw[<-f];exact(ab.refl [] _).alloc _
 exact⟨h.Va e,by rw[<-f];exact QR _ _,ae h.blk,e⟩
theorem cQ{a c d:Int}(h:S.heap[b]?=some (.cells #[.int .i64 x5,.int .i64 a,.int .i64 c,.int .i64 d,.string z4,.string y9] 28 (0,0))) :
  S.cell? ⟨b,0,none⟩=some (.int .i64 x5)/\S.cell? ⟨b,1,none⟩=some (.int .i64 a)/\S.cell? ⟨b,2,none⟩=some (.int .i64 c)/\S.cell? ⟨b,3,none⟩=some (.int .i64 d)/\S.cell? ⟨b,4,none⟩=some (.string z4)/\S.cell? ⟨b,5,none⟩=some (.string y9)/\b<S.heap.size:=by
 refine⟨?_,?_,?_,?_,?_,?_,ae h⟩ <;> (rw[aa h];rfl)
theorem Pf(M:Mc)(A C D:Int)(s t:ByteArray)(w:World)(h:bZ w l z2 M H)(g:qA A)(u:qA C)(k:qA D) :
  Calls prog 11 #[.pointer (some ⟨l,0,none⟩),.agg #[.int .i64 7,.int .i64 A,.int .i64 C,.int .i64 D,.string s,.string t]] w fun e o=>iB l z2 M H true e o:=by
 obtain⟨W,c⟩:∃W,Hid (w.alloc (.cells #[.int .i64 7,.int .i64 A,.int .i64 C,.int .i64 D,.string s,.string t] 28)=W):=⟨_,rfl⟩
 obtain⟨b,d,m,-⟩:=h.boxed 7 A C D s t W c.out;obtain⟨I,x,E,B,F,K,J⟩:=cQ d;have v:W.cell? ⟨l,5,none⟩=some (.int .i64 M.a):=by rw[aa b.blk];rfl
 have L:W.cell? ⟨l,6,none⟩=some (.int .i64 M.n):=by rw[aa b.blk];rfl
 have y:W.cell? ⟨l,7,none⟩=some (.int .i64 M.e):=by rw[aa b.blk];rfl
 have z:=am b.blk;have G:=ae b.blk;have p:l≠w.heap.size:=by omega
 have f:w.heap.size≠l:=by omega
 have r:Hid (bZ (((W.setCell ⟨l,5,none⟩ (.int .i64 A)).setCell ⟨l,6,none⟩ (.int .i64 C)).setCell ⟨l,7,none⟩ (.int .i64 D)) l _ { M with a:=A,n:=C,e:=D } H) :=
  b.turn0 (M':={ M with a:=A,n:=C,e:=D }) ⟨⟨rfl,rfl,rfl,rfl,rfl⟩,rfl,rfl,rfl⟩ ((((ab.refl [l] _).setCell (Q0 (by simp)) _).setCell (Q0 (by simp)) _).setCell (Q0 (by simp)) _) (by rw[ah (ah (ah b.blk 5 _) 6 _) 7 _];rfl) ⟨g,u,k⟩
 clear h b d;go_enter func11,ntmps11
 go_upto_region 1 with fail
 rw[c.out];go_wp2;go_ret;exact⟨rfl,_,_,r.out.more,⟨fun j i q=>oX (by decide) q,rfl,rfl⟩⟩
theorem NH(M:Mc)(A C D:Int)(s t:ByteArray)(w:World)(h:bZ w l z2 M H) :
  Calls prog 11 #[.pointer (some ⟨l,0,none⟩),.agg #[.int .i64 16,.int .i64 A,.int .i64 C,.int .i64 D,.string s,.string t]] w fun e g=>iB l z2 M H true e g:=by
 obtain⟨W,b⟩:∃W,Hid (w.alloc (.cells #[.int .i64 16,.int .i64 A,.int .i64 C,.int .i64 D,.string s,.string t] 28)=W):=⟨_,rfl⟩
 obtain⟨a,c,f,-⟩:=h.boxed 16 A C D s t W b.out;obtain⟨y,o,r,q,v,E,z⟩:=cQ c;have p:=am a.blk;have x:=ae a.blk;have k:l≠w.heap.size:=by omega
 have d:w.heap.size≠l:=by omega
 have B:W.cell? ⟨l,8,none⟩=some (.int .i64 M.u):=by rw[aa a.blk];rfl
 have n:Hid (bZ (W.setCell ⟨l,8,none⟩ (.int .i64 A)) l _ { M with u:=A } H) :=
  a.turn0 (M':={ M with u:=A }) ⟨⟨rfl,rfl,rfl,rfl,rfl⟩,rfl,rfl,rfl⟩ ((ab.refl [l] _).setCell (Q0 (by simp)) _) (by rw[ah a.blk 8 _];rfl) a.rng
 clear h a c;go_enter func11,ntmps11
 go_upto_region 1 with fail
 rw[b.out];go_wp2;go_ret;exact⟨rfl,_,_,n.out.more,⟨fun j i m=>oX (by decide) m,rfl,rfl⟩⟩
theorem NI(M:Mc)(A C D:Int)(s t:ByteArray)(w:World)(h:bZ w l z2 M H)(g:M.qv=.slice none 0 0) :
  Calls prog 11 #[.pointer (some ⟨l,0,none⟩),.agg #[.int .i64 17,.int .i64 A,.int .i64 C,.int .i64 D,.string s,.string t]] w fun e i=>iB l z2 M H true e i:=by
 obtain⟨W,b⟩:∃W,Hid (w.alloc (.cells #[.int .i64 17,.int .i64 A,.int .i64 C,.int .i64 D,.string s,.string t] 28)=W):=⟨_,rfl⟩
 obtain⟨a,c,f,-⟩:=h.boxed 17 A C D s t W b.out;obtain⟨v,n,q,p,r,y,x⟩:=cQ c;have o:=am a.blk;have u:=ae a.blk;have j:l≠w.heap.size:=by omega
 have d:w.heap.size≠l:=by omega
 have m:W.cell? ⟨l,15,none⟩=some (.slice none 0 0):=by rw[aa a.blk,<-g];rfl
 have k:Hid (bZ W l z2 M H):=a;clear h a c;go_enter func11,ntmps11
 go_upto_region 1 with fail
 rw[b.out];go_wp2;go_ret;exact⟨rfl,_,_,k.out.more,rg.refl _ _⟩
theorem lp(M:Mc)(k A C D:Int)(s t:ByteArray)(w:World)(h:bZ w l z2 M H)(f:(8<=k/\k<=14)∨19<=k) :
  Calls prog 11 #[.pointer (some ⟨l,0,none⟩),.agg #[.int .i64 k,.int .i64 A,.int .i64 C,.int .i64 D,.string s,.string t]] w fun e r=>e=.returned (.bool false)/\ab [] w r:=by
 obtain⟨W,d⟩:∃W,Hid (w.alloc (.cells #[.int .i64 k,.int .i64 A,.int .i64 C,.int .i64 D,.string s,.string t] 28)=W):=⟨_,rfl⟩
 obtain⟨j,c,n,b⟩:=h.boxed k A C D s t W d.out;obtain⟨B,-⟩:=cQ c;have q:Hid (ab [] w W):=b;have F:=ae c;have a:∀m:Int,(k=m->False)->(k==m)=false:=fun m p=>Rg.2 p
 have I:=a 1 (by omega);have z:=a 2 (by omega);have G:=a 3 (by omega);have E:=a 4 (by omega);have y:=a 5 (by omega);have v:=a 6 (by omega);have x:=a 7 (by omega);have o:=a 15 (by omega);have u:=a 16 (by omega);have i:=a 17 (by omega);have g:=a 18 (by omega);clear h j c a f b;go_enter func11,ntmps11
 go_upto_region 1 with fail
 rw[d.out];go_wp2;go_ret;exact⟨rfl,q.out⟩
theorem NG(M:Mc)(A C D:Int)(s t:ByteArray)(w:World)(h:bZ w l z2 M H) :
  Calls prog 11 #[.pointer (some ⟨l,0,none⟩),.agg #[.int .i64 15,.int .i64 A,.int .i64 C,.int .i64 D,.string s,.string t]] w fun e o=>iB l z2 M H true e o:=by
 obtain⟨W,b⟩:∃W,Hid (w.alloc (.cells #[.int .i64 15,.int .i64 A,.int .i64 C,.int .i64 D,.string s,.string t] 28)=W):=⟨_,rfl⟩
 obtain⟨a,c,m,-⟩:=h.boxed 15 A C D s t W b.out;obtain⟨L,B,I,G,J,P,N⟩:=cQ c;have F:=am a.blk;have K:=ae a.blk;have r:l≠w.heap.size:=by omega
 have d:w.heap.size≠l:=by omega
 have O:W.cell? ⟨l,8,none⟩=some (.int .i64 M.u):=by rw[aa a.blk];rfl
 have E:W.cell? ⟨l,9,none⟩=some (.string M.s):=by rw[aa a.blk];rfl
 have g:W.cell? ⟨l,10,none⟩=some (.int .i64 M.p):=by rw[aa a.blk];rfl
 have n:W.cell? ⟨l,11,none⟩=some (.int .i64 M.q):=by rw[aa a.blk];rfl
 have k:W.cell? ⟨l,12,none⟩=some (.string M.f):=by rw[aa a.blk];rfl
 have v:W.cell? ⟨l,13,none⟩=some (.int .i64 M.i):=by rw[aa a.blk];rfl
 have z:W.cell? ⟨l,14,none⟩=some (.int .i64 M.j):=by rw[aa a.blk];rfl
 have y:Hid (bZ (((((((W.setCell ⟨l,9,none⟩ (.string s)).setCell ⟨l,10,none⟩ (.int .i64 A)).setCell ⟨l,11,none⟩ (.int .i64 C)).setCell ⟨l,12,none⟩ (.string t)).setCell ⟨l,13,none⟩ (.int .i64 D)).setCell ⟨l,14,none⟩ (.int .i64 M.u)).drew) l _ { M with s:=s,p:=A,q:=C,f:=t,i:=D,j:=M.u } H) :=
  (a.turn0 (M':={ M with s:=s,p:=A,q:=C,f:=t,i:=D,j:=M.u }) ⟨⟨rfl,rfl,rfl,rfl,rfl⟩,rfl,rfl,rfl⟩ ((((((((ab.refl [l] _).setCell (Q0 (by simp)) _).setCell (Q0 (by simp)) _).setCell (Q0 (by simp)) _).setCell (Q0 (by simp)) _).setCell (Q0 (by simp)) _).setCell (Q0 (by simp)) _)) (by rw[ah (ah (ah (ah (ah (ah a.blk 9 _) 10 _) 11 _) 12 _) 13 _) 14 _];rfl) a.rng).Va (ab.refl [] _).drew
 clear h a c;go_enter func11,ntmps11
 go_upto_region 1 with fail
 rw[b.out]
 go_upto_region 38 with fail
 go_region
 all_goals go_wp2
 all_goals go_ret
 all_goals exact⟨rfl,_,_,y.out.more,⟨fun j i x=>oX (by decide) x,rfl,rfl⟩⟩
theorem bZ.clear{M:Mc}(h:bZ S b k M y)(p:ab [b] S o)(n:o.heap[b]?=some (.cells ({ M with hr:=⟨none,0⟩,reg:=[] }:Mc).cells.toArray 42 (0,0))):∃f,bZ o b f { M with hr:=⟨none,0⟩,reg:=[] } y/\rg k M f { M with hr:=⟨none,0⟩,reg:=[] }:=by
 have u:=h.sep.turn h.w0 p n;have g:=u.put (3,0) (ce ⟨none,0⟩ (cr [])) ((ab.refl _ o).mono (fun _ A _=>A)) (QY _ _ _ _) (fun q t=>by cases t);refine⟨fk (fk k (0,0) (rA b 42 ({ M with hr:=⟨none,0⟩,reg:=[] }:Mc).cells)) (3,0) (ce ⟨none,0⟩ (cr [])),?_,?_⟩
 rotate_left
 ·exact⟨fun j i z=>by(repeat rw[oX (by decide) z]),rfl,rfl⟩
 have q:∀a i,a≠0->a≠3->(fk (fk k (0,0) (rA b 42 ({ M with hr:=⟨none,0⟩,reg:=[] }:Mc).cells)) (3,0) (ce ⟨none,0⟩ (cr []))) (a,i)=k (a,i):=fun a i w s=>by rw[aq _ _ (bn s),aq _ _ (bn w)]
 exact {
  sep:=g
  w0:=by rw[aq _ _ (bn (by decide))];exact bJ _ _ _
  x:=by rw[q 1 0 (by decide) (by decide)];exact h.x
  m:=by rw[q 2 0 (by decide) (by decide)];exact h.m
  r:=bJ _ _ _
  ls:=by rw[q 4 0 (by decide) (by decide)];exact h.ls
  lw:=by rw[q 5 0 (by decide) (by decide)];exact h.lw
  v:=fun i x m e d=>by rw[q 6 i (by decide) (by decide),q 7 i (by decide) (by decide)];exact h.v i x m e d
  l:=fun i x m e d=>by rw[q 8 i (by decide) (by decide),q 9 i (by decide) (by decide)];exact h.l i x m e d
  fit:=fun j=>⟨by show(0:Nat)<=_;omega,by show(0:Nat)<=_;omega⟩
  len:=⟨h.len.1,Rn _,h.len.2.2⟩
  rng:=h.rng }
theorem Pb(M:Mc)(A C D:Int)(s t:ByteArray)(w:World)(h:bZ w l z2 M H) :
  Calls prog 11 #[.pointer (some ⟨l,0,none⟩),.agg #[.int .i64 3,.int .i64 A,.int .i64 C,.int .i64 D,.string s,.string t]] w fun e k=>iB l z2 M H true e k:=by
 obtain⟨W,d⟩:∃W,Hid (w.alloc (.cells #[.int .i64 3,.int .i64 A,.int .i64 C,.int .i64 D,.string s,.string t] 28)=W):=⟨_,rfl⟩
 obtain⟨a,f,j,-⟩:=h.boxed 3 A C D s t W d.out;obtain⟨x,o,r,q,u,z,y⟩:=cQ f;have p:=am a.blk;have v:=ae a.blk;have m:l≠w.heap.size:=by omega
 have g:w.heap.size≠l:=by omega
 have B:W.cell? ⟨l,2,none⟩=some (.slice M.hr.ao M.reg.length M.hr.cap):=by rw[aa a.blk];rfl
 have n:Hid (∃b,bZ (W.setCell ⟨l,2,none⟩ (.slice none 0 0)) l b { M with hr:=⟨none,0⟩,reg:=[] } H/\rg z2 M b { M with hr:=⟨none,0⟩,reg:=[] }) :=
  a.clear ((ab.refl [l] _).setCell (Q0 (by simp)) _) (by rw[ah a.blk 2 _];rfl)
 clear h a f;go_enter func11,ntmps11
 go_upto_region 1 with fail
 rw[d.out];go_wp2;go_ret;obtain⟨b,hI,c⟩:=n.out;exact⟨rfl,b,_,hI.more,c⟩
theorem cZ{c:List Oper}(H:yf.guard=none)(s x:Operand)(t:TypeId)(p:yf.op=Op.call { callee:=Callee.builtin Builtin.append,args:=#[s,x],argTypes:=#[t,t] })(i:TypeInfo)(z:Value)(b:Nat)(h:Hd)(r:dN)(a:List Value)(B:yr.underlying t=some (.slice r.e))(D:yr.info? r.e=some i)(E:i.zero=some z)(O:i.size=r.size)(A:i.bytes=b)(C:z.cells.size=r.size)(N:0<r.size)(L:yt.eval s=.slice h.ao r.n h.cap)(f:aw w h r)(P:r.n<=4294967296)(J:b<=1000)(M:yt.eval x=.slice (some ⟨w.heap.size,0,none⟩) 1 1)(Q:a.length=r.size)(m:∀u∈a,u.oneCell'=true)(G:∀k d,aw d k ⟨r.e,r.size,r.n+1,r.xs++a⟩->bt w d h k->wpList yr v5 va c (yt.put yf.dst (.slice k.ao (r.n+1) k.cap)) d) :
  wpList yr v5 va (yf :: c) yt (w.alloc (.cells a.toArray r.e)):=by
 have q:ab [] w (w.alloc (.cells a.toArray r.e)):=(ab.refl [] _).alloc _;have v:(w.alloc (.cells a.toArray r.e)).heap[w.heap.size]?=some (.cells a.toArray r.e (0,0)):=QR _ _;obtain⟨l,d,g,y,F⟩:=pD (P:=yr) (w.alloc (.cells a.toArray r.e)) t yf.type i z b h r B D E O A C N (f.Va q) (some ⟨w.heap.size,0,none⟩) 1 1 a (by omega) (fun e=>by cases e) (fun R e j u I=>by cases e;rw[bL,aa v];simpa using I) m (by unfold maxLen;omega) (Q1 (SJ (show r.n+1<=4294967297 by omega) J) (by omega));refine wpList_plain H fun K o=>?_
 unfold Oper.wp;simp[execOp,p,resolve,invoke,builtin,L,M,g,Result.andThen];exact o _ _ (G l d y ((bt.Va q).trans F))
theorem un{K:Act->World->Prop}{E:Prop}(I:yf.guard=none)(s x:Operand)(t:TypeId)(o:yf.op=Op.call { callee:=Callee.builtin Builtin.append,args:=#[s,x],argTypes:=#[t,t] })(i:TypeInfo)(z:Value)(b:Nat)(h:Hd)(r:dN)(a:List Value)(A:yr.underlying t=some (.slice r.e))(C:yr.info? r.e=some i)(F:i.zero=some z)(P:i.size=r.size)(y:i.bytes=b)(B:z.cells.size=r.size)(O:0<r.size)(M:yt.eval s=.slice h.ao r.n h.cap)(k:aw w h r)(Q:r.n<=4294967296)(L:b<=1000)(N:yt.eval x=.slice (some ⟨w.heap.size,0,none⟩) 1 1)(R:a.length=r.size)(m:∀u∈a,u.oneCell'=true)(H:∀d c g,aw g ⟨d,c⟩ ⟨r.e,r.size,r.n+1,r.xs++a⟩->bt w g h ⟨d,c⟩->K (yt.put yf.dst (.slice d (r.n+1) c)) g) :
  if Region.wanted yf (yielded v5 yt.tmps)=true then Oper.wp yr yf yt (w.alloc (.cells a.toArray r.e)).drew K va else E:=by
 have p:ab [] w (w.alloc (.cells a.toArray r.e)).drew:=((ab.refl [] _).alloc _).drew;have q:(w.alloc (.cells a.toArray r.e)).drew.heap[w.heap.size]?=some (.cells a.toArray r.e (0,0)):=QR _ _;obtain⟨f,g,l,v,G⟩:=pD (P:=yr) (w.alloc (.cells a.toArray r.e)).drew t yf.type i z b h r A C F P y B O (k.Va p) (some ⟨w.heap.size,0,none⟩) 1 1 a (by omega) (fun e=>by cases e) (fun S e j u J=>by cases e;rw[bL,aa q];simpa using J) m (by unfold maxLen;omega) (Q1 (SJ (show r.n+1<=4294967297 by omega) L) (by omega));have D:Region.wanted yf (yielded v5 yt.tmps)=true:=by simp[Region.wanted,I]
 rw[QV D];unfold Oper.wp;simp[execOp,o,resolve,invoke,builtin,M,N,l,Result.andThen];exact H f.ao f.cap g v ((bt.Va p).trans G)
theorem nI.grown(s:nI S k)(i:k (0,0)=rA b y v0)(h:yg≠(0,0))(e:k yg=ce g vb)(f:bt S o g yz)(l:aw o yz xz)(j:Nat)(v:Value) :
  nI (o.setCell ⟨b,j,none⟩ v) (fk (fk k yg (ce yz xz)) (0,0) (rA b y (v0.set j v))):=by
 have a:=s.grow e f l;have d:fk k yg (ce yz xz) (0,0)=rA b y v0:=by rw[aq _ _ (Ne.symm h)];exact i
 refine a.turn d ((ab.refl [b] _).setCell (Q0 (by simp)) _) ?_;have c:=a.all (0,0);rw[d]at c;rw[ah (show o.heap[b]?=some (.cells v0.toArray y (0,0)) from c) j v,Rt]
theorem Jz(f:ByteArray×ByteArray):∀u∈Ot f,u.oneCell'=true:=by
 intro u a;simp only[Ot,Ri,RN,SO]at a
 rcases a with rfl | rfl <;> rfl
theorem zP(h:kZ i)(b:z4.size<=1073741824)(a:y9.size<=1073741824):kZ (i++[(z4,y9)]):=by
 intro j;have:=h j;unfold aE ak at *;rw[QP]at *
 by_cases e:j<i.length
 ·rw[Q6 e];exact this
 ·rw[Q4 (by omega)]
  cases c:j-i.length with
  | zero=>exact⟨b,a⟩
  | succ q=>exact⟨by show(0:Nat)<=_;omega,by show(0:Nat)<=_;omega⟩
theorem bZ.addR{M:Mc}(h:bZ S b k M y)(w:bt S o M.hr g)(s:aw o g (cr (M.reg++[(z4,y9)])))(p:z4.size<=1073741824)(t:y9.size<=1073741824):∃n f,bZ (o.setCell ⟨b,2,none⟩ (.slice g.ao (M.reg.length+1) g.cap)) b n f (y+1)/\rg k M n f:=by
 have z:=h.sep.grown h.w0 (bn (by decide)) h.r w s 2 (.slice g.ao (M.reg.length+1) g.cap);refine⟨fk (fk k (3,0) (ce g (cr (M.reg++[(z4,y9)])))) (0,0) (rA b 42 (M.cells.set 2 (.slice g.ao (M.reg.length+1) g.cap))),{ M with hr:=g,reg:=M.reg++[(z4,y9)] },?_,?_⟩
 rotate_left
 ·exact⟨fun j i B=>by(repeat rw[oX (by decide) B]),rfl,rfl⟩
 have q:∀a i,a≠0->a≠3->(fk (fk k (3,0) (ce g (cr (M.reg++[(z4,y9)])))) (0,0) (rA b 42 (M.cells.set 2 (.slice g.ao (M.reg.length+1) g.cap)))) (a,i)=k (a,i):=fun a i A u=>by rw[aq _ _ (bn A),aq _ _ (bn u)]
 have d:=h.more
 exact {
  sep:=z
  w0:=by rw[bJ];unfold Mc.cells;rw[QZ];rfl
  x:=by rw[q 1 0 (by decide) (by decide)];exact h.x
  m:=by rw[q 2 0 (by decide) (by decide)];exact h.m
  r:=by rw[aq _ _ (bn (by decide))];exact bJ _ _ _
  ls:=by rw[q 4 0 (by decide) (by decide)];exact h.ls
  lw:=by rw[q 5 0 (by decide) (by decide)];exact h.lw
  v:=fun i x m e c=>by rw[q 6 i (by decide) (by decide),q 7 i (by decide) (by decide)];exact h.v i x m e c
  l:=fun i x m e c=>by rw[q 8 i (by decide) (by decide),q 9 i (by decide) (by decide)];exact d.l i x m e c
  fit:=zP h.fit p t
  len:=⟨d.len.1,by have:=h.len.2.1;show(M.reg++[(z4,y9)]).length<=_;rw[QZ];show _+1<=_;omega,d.len.2.2⟩
  rng:=h.rng }
theorem Pa(M:Mc)(A C D:Int)(s t:ByteArray)(w:World)(h:bZ w l z2 M H)(X:H<=1073741824)(Q:s.size<=1073741824)(E:t.size<=1073741824) :
  Calls prog 11 #[.pointer (some ⟨l,0,none⟩),.agg #[.int .i64 2,.int .i64 A,.int .i64 C,.int .i64 D,.string s,.string t]] w fun e N=>iB l z2 M H true e N:=by
 obtain⟨W,q⟩:∃W,Hid (w.alloc (.cells #[.int .i64 2,.int .i64 A,.int .i64 C,.int .i64 D,.string s,.string t] 28)=W):=⟨_,rfl⟩
 obtain⟨a,v,K,-⟩:=h.boxed 2 A C D s t W q.out;obtain⟨o0,T,Y,V,Z,o5,oz⟩:=cQ v;obtain⟨z,m,b,f,j⟩:=Rd zX;have U:=am a.blk;have bz:=ae a.blk;have P:l≠w.heap.size:=by omega
 have x:w.heap.size≠l:=by omega
 have c2:W.cell? ⟨l,2,none⟩=some (.slice M.hr.ao M.reg.length M.hr.cap):=by rw[aa a.blk];rfl
 have y:Hid (bZ W l z2 M H):=a;have p:=a.ownR;have o:Hid ((cr M.reg).n<=4294967296):=by show M.reg.length<=_;have:=h.len.2.1;omega
 have c:Hid ((cr M.reg).n=M.reg.length):=rfl;have g:Hid (l∉M.hr.blk.toList):=fun L=>a.sep.far (0,0) (3,0) (bn (by decide)) l (by rw[a.w0];exact Q8.2 rfl) (by rw[a.r];exact L)
 clear h a v;go_enter func11,ntmps11
 go_upto_region 1 with fail
 rw[q.out]
 go_upto_region 9 with fail
 go_region_law (refine un W rfl (.tmp 51) (.tmp 57) 33 rfl z (.agg #[.string ⟨#[]⟩,.string ⟨#[]⟩]) 32 M.hr (cr M.reg) (Ot (s,t)) underlying33 m b f j rfl Up (by rw[c.out];simp[Act.eval]) p o.out (by omega) (by simp[Act.eval]) rfl (Jz (s,t)) ?_;intro I u B d i;have k:=i.kept.get y.out.blk g.out;have f5:=am k 2;have S:B.cell? ⟨l,2,none⟩=some (.slice M.hr.ao M.reg.length M.hr.cap):=(by rw[aa k];rfl);have z5:=ae k)
 all_goals
  rw[wW]at d;have R:=hI (y.out.addR i d Q E);rw[c.out];go_wp2;go_ret;obtain⟨O,F,G,J⟩:=R.out;exact⟨rfl,O,F,G,J⟩
end Go.Proofs.YtpddjjabfbfifaaGreat
