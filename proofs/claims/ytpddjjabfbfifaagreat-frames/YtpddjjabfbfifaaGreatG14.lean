import Derived.Laws.IdiomStrings
import Derived.Deep.RegionLaw
import Derived.Test.YtpddjjabfbfifaaGreatG13
namespace Go.Proofs.YtpddjjabfbfifaaGreat
open Go.RowKit Tryz
set_option maxRecDepth 100000
set_option maxHeartbeats 40000000
variable{z4:ByteArray}{T M:Nat}{zb:Type}{l y a:World}{z7:Option Addr}{k o N:Hd}{i:List Nat}{z6:dN}(L S v f:Nat)(w:List Tk)(g:Option Addr)(I:Nat)(H:List Sm)(d:Nat)(z0:Option Addr)(D:ByteArray)(b:Nat)(n:World)(x:List Nat)
def O8(m:Nat):ByteArray:=⟨#[UInt8.ofNat (65+m % 20)]⟩
def IB(m:Nat):ByteArray:=⟨#[UInt8.ofNat (85+m % 5)]⟩
def yK:Nat->Nat->ByteArray->ByteArray
 | 0,_,s=>s
 | f+1,h,s=>if 0<h then yK f ((h-1) / 5) (IB (h-1)++s) else s
def mB(m:Nat):ByteArray:=yK (m+1) (m / 20) (O8 m)
theorem IA:(convert 312 9 (.slice (some ⟨n.heap.size,0,none⟩) 1 1)).run prog (n.alloc (.cells #[.int .u8 (65+(b:Int) % 20)] 5))=.ok (.string (O8 b)) (n.alloc (.cells #[.int .u8 (65+(b:Int) % 20)] 5)):=by
 have e:(65+(b:Int) % 20)=((UInt8.ofNat (65+b % 20)).toNat:Int):=by
  rw[UInt8.toNat_ofNat'];omega
 rw[e]
 exact Ug (n.alloc (.cells #[.int .u8 ((UInt8.ofNat (65+b % 20)).toNat:Int)] 5)) 312 9 5 ⟨n.heap.size,0,none⟩ 1 [UInt8.ofNat (65+b % 20)] underlying312 underlying5 underlying9 (by
  intro j a
  match j,a with
  | 0,_=>simp[Addr.add])
theorem ID:(convert 312 9 (.slice (some ⟨n.heap.size,0,none⟩) 1 1)).run prog (n.alloc (.cells #[.int .u8 (85+(b:Int) % 5)] 5))=.ok (.string (IB b)) (n.alloc (.cells #[.int .u8 (85+(b:Int) % 5)] 5)):=by
 have e:(85+(b:Int) % 5)=((UInt8.ofNat (85+b % 5)).toNat:Int):=by
  rw[UInt8.toNat_ofNat'];omega
 rw[e]
 exact Ug (n.alloc (.cells #[.int .u8 ((UInt8.ofNat (85+b % 5)).toNat:Int)] 5)) 312 9 5 ⟨n.heap.size,0,none⟩ 1 [UInt8.ofNat (85+b % 5)] underlying312 underlying5 underlying9 (by
  intro j a
  match j,a with
  | 0,_=>simp[Addr.add])
theorem Eo:yK d 0 D=D:=by cases d <;> rfl
theorem Ch(x:b<=1000000000) :
  Calls prog 240 #[.int .i64 ((b:Int)+1)] n fun e t=>e=.returned (.string (mB b))/\ab [] n t:=by
 have c:=fun j=>IA b j
 have a:0<=(b:Int) % 20/\(b:Int) % 20<=19:=by omega
 go_enter func240,ntmps240;go_wp2
 go_loopg [3,4] (b / 20) (fun g p v wr=>∃(f h:Nat) (s:ByteArray),g=h/\v=.int .i64 h/\p=.string s/\h<=f/\h<=1000000000/\s.size+f<=1000000003/\Hid (yK f h s=mB b)/\Hid (ab [] n wr))
 case atStart=>exact⟨b+1,b / 20,O8 b,rfl,by simp,rfl,by omega,by omega,(by show 1+_<=_;omega),rfl,(ab.refl _ _).alloc _⟩
 case round =>
  obtain⟨f,h,s,y,rfl,rfl,z,w,A,m,o⟩:=hrel;clear c a
  cases h with
  | zero =>
   have k:Hid (s=mB b):=by show _=_;rw[<-m.out,Eo]
   go_wp2;go_ret;exact⟨by rw[<-k.out];rfl,o.out⟩
  | succ q =>
   obtain⟨d,rfl⟩:∃d,f=d+1:=⟨f-1,by omega⟩
   have c:=fun j=>ID q j
   have r:0<=(q:Int) % 5/\(q:Int) % 5<=4:=by omega
   have u:(0:Int)<(q:Int)+1:=by omega
   have k:Hid (yK d (q / 5) (IB q++s)=mB b):=by
    show _=_
    rw[<-m.out,yK,QV (by omega),SB]
   have l:(IB q).size=1:=rfl;have i:Hid ((IB q++s).size=1+s.size):=by show _=_;rw[Sc,l]
   go_wp2
   go_roundg (q / 5)
   case measure=>omega
   case rel=>exact⟨d,q / 5,IB q++s,rfl,by simp,rfl,by omega,by omega,by have:=i.out;omega,k,o.out.alloc _⟩
def Al(s:ByteArray)(i:Nat):Bool:=((mB i).toList==s.toList)
def iO(s:ByteArray)(top:Nat):Nat:=match (List.range top).find? (Al s) with
 | some i=>i+1
 | none=>0
theorem EI(b:M<T)(h:Al z4 M=true)(c:∀j,j<M->Al z4 j=false):iO z4 T=M+1:=by
 have e:(List.range T).find? (Al z4)=some M:=by
  rw[Si];exact⟨h,Q9.2 b,fun j a=>by rw[c j a];rfl⟩
 unfold iO;rw[e]
theorem IZ(b:∀j,j<T->Al z4 j=false):iO z4 T=0:=by
 have e:(List.range T).find? (Al z4)=none:=by
  rw[Sj];intro j a;rw[b j (Q9.1 a)];simp
 unfold iO;rw[e]
theorem EH(w:b<=1000000000) :
  Calls prog 213 #[.string D,.int .i64 b] n fun e s=>e=.returned (.int .i64 (iO D b:Nat))/\ab [] n s:=by
 go_enter func213,ntmps213;go_wp2
 go_loopg [5] b (fun g i wr=>∃k:Nat,k<=b/\g=b-k/\i=.int .i64 ((k:Int)+1)/\Hid (∀j,j<k->Al D j=false)/\Hid (ab [] n wr))
 case atStart=>exact⟨0,by omega,rfl,by simp,(fun j u=>by omega),ab.refl _ _⟩
 case round =>
  obtain⟨k,v,x,rfl,f,l⟩:=hrel
  by_cases h:k<b
  ·have m:(k:Int)+1<=(b:Int):=by omega
   have o:=hI (Ch k wr (by omega));have p:Hid (Al D k=((mB k).toList==D.toList)):=rfl;generalize mB k=t at *
   cases q:(t.toList==D.toList)
   ·have d:=hI (dU f.out (by rw[p.out,q]))
    go_wp2_with (go_at_call 240;refine QT o.out ?_;rintro e r ⟨rfl,c⟩;have a:=hI (l.out.trans c);clear c)
    go_roundg (b-(k+1))
    case measure=>omega
    case rel=>exact⟨k+1,by omega,rfl,by go_num,d,a⟩
   ·have d:Hid (iO D b=k+1):=EI h (by rw[p.out,q]) f.out
    go_wp2_with (go_at_call 240;refine QT o.out ?_;rintro e r ⟨rfl,c⟩;have a:=hI (l.out.trans c);clear c);go_ret;exact⟨by rw[d.out];rfl,a.out⟩
  ·have d:Hid (iO D b=0):=IZ (fun j u=>f.out j (by omega))
   have m:¬(k:Int)+1<=(b:Int):=by omega
   go_wp2;go_ret;exact⟨by rw[d.out];rfl,l.out⟩
def kT{α:Type}(e s:Nat)(f:α->List Value)(L:List α):dN:=⟨e,s,L.length,L.flatMap f⟩
theorem N5{f:α->List Value}(b:∀x,(f x).length=T)(L:List α)(j:Nat)(t:α)(h:L[j]?=some t)(c:Nat)(e:c<T):(L.flatMap f)[j*T+c]?=(f t)[c]?:=by
 induction L generalizing j with
 | nil=>cases h
 | cons a L d =>
  rw[RH]
  cases j with
  | zero =>
   simp at h;subst h;rw[Q6 (by rw[b];omega)];simp
  | succ j =>
   rw[Q4 (by rw[b,Nat.succ_mul];omega),show(j+1)*T+c-(f a).length=j*T+c by rw[b,Nat.succ_mul];omega];exact d j (by simpa using h)
theorem gM(f:α->List Value)(L:List α)(x:α):(⟨(kT d b f L).e,(kT d b f L).size,(kT d b f L).n+1,(kT d b f L).xs++f x⟩:dN)=kT d b f (L++[x]):=by
 simp[kT]
def cm{α:Type}(w:World)(ao:Option Addr)(s:Nat)(f:α->List Value)(L:List α):Prop:=∀(k:Nat) (x:α),L[k]?=some x->∃g,ao=some ⟨g,0,none⟩/\g<w.heap.size/\∀(c:Nat) (u:Value),(f x)[c]?=some u->w.cell? ⟨g,k*s+c,none⟩=some u
theorem cm.Va{f:α->List Value}{L:List α}(h:cm l z7 T f L)(k:ab [] l y):cm y z7 T f L:=by
 intro j x b;obtain⟨g,e,a,d⟩:=h j x b;exact⟨g,e,QW a k.size,fun c u i=>by rw[Q5 (k.block g a (by simp))];exact d c u i⟩
theorem aw.srcG{f:α->List Value}{L:List α}(o:aw l k (kT T M f L))(e:∀x,(f x).length=M):cm l k.ao M f L:=by
 intro a x d;have m:=(Q7.1 d).1;obtain⟨g,b,j,-⟩:=qo o (show 0<L.length by omega);refine⟨g,b,j,fun c u h=>o.cell b (a*M+c) u ?_⟩;have i:c<M:=by rw[<-e x];exact(Q7.1 h).1
 show(L.flatMap f)[a*M+c]?=some u
 rw[N5 e L a x d c i];exact h
structure Lt where
 c:Int
 file:ByteArray
 line:Int
 col:Int
def Qd(l:Lt):List Value:=[.int .u8 l.c,.string l.file,.int .i64 l.line,.int .i64 l.col]
theorem NL(l:Lt):(Qd l).length=4:=rfl
def uM(L:List Lt):dN:=kT 311 4 Qd L
theorem OU:(prog.info? 311).map (fun i=>(i.zero,i.size,i.bytes))=some (some (.agg #[.int .u8 0,.string ⟨#[]⟩,.int .i64 0,.int .i64 0]),4,40):=by kernel_rfl
def dC(T:List Tk):Prop:=∀t∈T,t.s.size<=1024/\0<=t.col/\t.col<=10000
def IJ(t:Tk)(k:Nat):Lt:=⟨aF t.s k,t.file,t.line,t.col+k⟩
def uk(t:Tk):List Lt:=(List.range t.s.size).map (IJ t)
def eR(T:List Tk)(a z:Nat):List Lt:=((T.drop a).take (z-a)).flatMap uk
theorem C1(g:d<=b)(f:b<w.length):eR w d (b+1)=eR w d b++uk w[b]:=by
 unfold eR;have e:b+1-d=(b-d)+1:=by omega
 have a:b-d<(w.drop d).length:=by rw[RQ];omega
 rw[e,RC a,Sg];have c:(w.drop d)[b-d]=w[b]:=by rw[TH];congr 1;omega
 rw[c];simp
theorem JL(t:Tk)(k:Nat)(h:k<t.s.size):(uk t).take (k+1)=(uk t).take k++[IJ t k]:=by
 unfold uk;rw[RC (by simpa using h)];simp
theorem Fh(X:li n g I w)(hl:w.length<=10000)(ha:d<=b)(hz:b<=w.length)(hO:dC w) :
  Calls prog 175 #[.slice g w.length I,.int .i64 d,.int .i64 b] n fun e p=>∃r,e=.returned (.slice r.ao (eR w d b).length r.cap)/\gw n p r (uM (eR w d b)):=by
 have ap:=X.1;have HT:=hI X;have ai:Hid (gw n n ⟨none,0⟩ (uM [])):=⟨QY _ _ _ _,(by intro k hk;cases hk),ab.refl _ _⟩;obtain⟨iL,Z,K,L,J⟩:=Rd OU;have ad:Hid (([]:List Lt)=eR w d d):=by show _=_;unfold eR;simp
 clear X;go_enter func175,ntmps175;go_wp2
 go_loopg [7,8] (b-d) (fun N o i wr=>∃(k:Nat) (r:Hd) (O:List Lt),(d<=k/\k<=b)/\N=b-k/\o=.slice r.ao O.length r.cap/\i=.int .i64 k/\O.length<=1024*k/\Hid (O=eR w d k)/\Hid (gw n wr r (uM O)))
 case atStart=>exact⟨d,⟨none,0⟩,[],⟨by omega,by omega⟩,rfl,rfl,rfl,by simp,ad,ai⟩
 case round =>
  obtain⟨k,r,O,⟨U,aT⟩,hg,rfl,rfl,a2,HE,HW⟩:=hrel
  by_cases az:k<b
  ·have v:k<w.length:=by omega
   have ax:(k:Int)<(b:Int):=by omega
   have an:(k:Int)<(w.length:Int):=by omega
   have af:Hid (O++uk w[k]=eR w d (k+1)):=by show _=_;rw[C1 w d k U v,<-HE.out]
   obtain⟨o1,o2,o3⟩:=hO w[k] (Ra v);obtain⟨f,rfl,ac,-⟩:=HT.out.2 k w[k] (QO v)
   have HC:Hid (∀p,ab [] n p->p.cell? ⟨f,k*5,none⟩=some (.string w[k].s)/\p.cell? ⟨f,k*5+2,none⟩=some (.string w[k].file)/\p.cell? ⟨f,k*5+3,none⟩=some (.int .i64 w[k].line)/\p.cell? ⟨f,k*5+4,none⟩=some (.int .i64 w[k].col)):=fun p kw=>by
    obtain⟨N,e,hg,c0,c1,c2,c3,c4⟩:=(li.Va HT.out kw).2 k w[k] (QO v)
    cases e
    exact⟨c0,c2,c3,c4⟩
   generalize w[k]=t at *;obtain⟨a,H,h,j,c⟩:=t;simp only at o1 o2 o3 HC;go_wp2_with fail
   go_loopg [7,9] a.size (fun N o i wr=>∃(m:Nat) (A:Hd) (P:List Lt),m<=a.size/\N=a.size-m/\o=.slice A.ao P.length A.cap/\i=.int .i64 m/\P.length<=O.length+m/\Hid (P=O++(uk ⟨a,H,h,j,c⟩).take m)/\Hid (gw n wr A (uM P)))
   case atStart=>exact⟨0,r,O,by omega,rfl,rfl,rfl,by omega,by show _=_;simp,HW⟩
   case round =>
    obtain⟨m,A,P,hm,ar,rfl,rfl,hP,E,l⟩:=hrel;obtain⟨c0,c2,c3,c4⟩:=HC.out wr l.out.kept;have F:f<wr.heap.size:=QW ac l.out.kept.size
    by_cases x:m<a.size
    ·have a1:(m:Int)<(a.size:Int):=by omega
     have T:Hid (P++[IJ ⟨a,H,h,j,c⟩ m]=O++(uk ⟨a,H,h,j,c⟩).take (m+1)):=by show _=_;rw[E.out,JL _ m x,Sx]
     have al:Hid (Qd (IJ ⟨a,H,h,j,c⟩ m)=[.int .u8 ((a[m]'hlt2).toNat:Int),.string h,.int .i64 j,.int .i64 (c+m)]):=by show _=_;unfold Qd IJ;simp only;rw[bP a m x]
     obtain⟨W,B⟩:∃W,Hid (wr.alloc (.cells #[.string h,.int .i64 j,.int .i64 (c+m)] 36)=W):=⟨_,rfl⟩
     have R:ab [] wr W:=by rw[<-B.out];exact(ab.refl [] _).alloc _
     have C:W.heap[wr.heap.size]?=some (.cells #[.string h,.int .i64 j,.int .i64 (c+m)] 36 (0,0)):=by rw[<-B.out];exact QR _ _
     have G:=hI (l.out.Va R);have Y:=G.out.own;have d0:W.cell? ⟨f,k*5,none⟩=some (.string a):=by rw[Q5 (R.block f F (by simp))];exact c0
     have d1:W.cell? ⟨wr.heap.size,0,none⟩=some (.string h):=by rw[aa C];rfl
     have d2:W.cell? ⟨wr.heap.size,1,none⟩=some (.int .i64 j):=by rw[aa C];rfl
     have d3:W.cell? ⟨wr.heap.size,2,none⟩=some (.int .i64 (c+m)):=by rw[aa C];rfl
     have HS:Hid (∀q h5,bt W q A h5->q.cell? ⟨f,k*5,none⟩=some (.string a)/\q.cell? ⟨wr.heap.size,0,none⟩=some (.string h)/\q.cell? ⟨wr.heap.size,1,none⟩=some (.int .i64 j)/\q.cell? ⟨wr.heap.size,2,none⟩=some (.int .i64 (c+m))):=fun q h5 gr=>by
      have q1:q.heap[f]?=W.heap[f]?:=gr.kept.block f (QW F R.size) (fun S=>by have:=l.out.far _ (aN S);omega);have M:q.heap[wr.heap.size]?=W.heap[wr.heap.size]?:=gr.kept.block _ (ae C) (fun S=>by have:=l.out.own.lt (aN S);omega);exact⟨by rw[Q5 q1];exact d0,by rw[Q5 M];exact d1,by rw[Q5 M];exact d2,by rw[Q5 M];exact d3⟩
     have a0:wr.heap.size<W.heap.size:=ae C;have aS:f<W.heap.size:=by omega
     clear C R
     go_upto_region 10 with fail
     rw[B.out]
     have s3:Hid (∀u∈([.int .u8 ((a[m]'hlt2).toNat:Int),.string h,.int .i64 j,.int .i64 (c+m)]:List Value),u.oneCell'=true):=by
      intro u hu;simp only[Ri,RN,SO]at hu;rcases hu with rfl | rfl | rfl | rfl <;> rfl
     have s4:Hid ((uM P).n<=900000000):=by show P.length<=_;omega
     go_region_held3 (fun p=>p.cell? ⟨f,k*5,none⟩=some (.string a)/\p.cell? ⟨wr.heap.size,0,none⟩=some (.string h)/\p.cell? ⟨wr.heap.size,1,none⟩=some (.int .i64 j)/\p.cell? ⟨wr.heap.size,2,none⟩=some (.int .i64 (c+m))) (go_keep) ((refine bH W (by rfl) (.tmp 37) (.tmp 47) 267 (by rfl) iL (.agg #[.int .u8 0,.string ⟨#[]⟩,.int .i64 0,.int .i64 0]) 40 A (uM P) [.int .u8 ((a[m]'hlt2).toNat:Int),.string h,.int .i64 j,.int .i64 (c+m)] underlying267 Z K L J rfl (show 0<4 by omega) (by simp[Act.eval] <;> rfl) Y s4.out (by omega) (by simp[Act.eval]) rfl s3.out ?_;intro ag D q y z;obtain⟨q1,M,q3,q4⟩:=HS.out q _ z))
     rw[<-al.out,uM,gM]at y;have V:=hI (G.out.grew z y);clear y z;go_wp2
     go_roundg (a.size-(m+1))
     case measure=>omega
     case rel=>exact⟨m+1,⟨ag,D⟩,P++[IJ ⟨a,H,h,j,c⟩ m],by omega,rfl,by simp[uM,kT],by go_num,by simp;omega,T,V⟩
    ·have e:m=a.size:=by omega
     subst e
     have Q:Hid (P=eR w d (k+1)):=by
      show _=_
      rw[E.out,<-af.out]
      congr 1
      rw[Ts (by unfold uk;simp)]
     go_wp2
     go_roundg (b-(k+1))
     case measure=>omega
     case rel=>exact⟨k+1,A,P,⟨by omega,by omega⟩,rfl,rfl,by go_num,by omega,Q,l⟩
  ·have e:k=b:=by omega
   subst e;have Q:Hid (eR w d k=O):=HE.out.symm;go_wp2;go_ret;exact⟨r,by rw[Q.out];rfl,by rw[Q.out];exact HW.out⟩
structure dj where
  ref:Int
  back:Nat
  need:Nat
  file:ByteArray
  line:Int
  col:Int
def kU(s:dj):List Value:=[.int .i64 s.ref,.int .i64 s.back,.int .i64 s.need,.string s.file,.int .i64 s.line,.int .i64 s.col]
theorem Mw(s:dj):(kU s).length=6:=rfl
def eI(L:List dj):dN:=kT 162 6 kU L
theorem mJ(L:List dj)(x:dj):(⟨(eI L).e,(eI L).size,(eI L).n+1,(eI L).xs++kU x⟩:dN)=eI (L++[x]):=gM _ _ _ _ _
theorem tA(x:dj):∀u∈kU x,u.oneCell'=true:=by
  intro u a;simp only[kU,Ri,RN,SO]at a
  rcases a with rfl | rfl | rfl | rfl | rfl | rfl <;> rfl
structure jS where
  st:List dj
  why:Int
  file:ByteArray
  line:Int
  col:Int
def Qf(p:jS)(h:Hd):Value:=.agg #[.slice h.ao p.st.length h.cap,.int .i64 p.why,.string p.file,.int .i64 p.line,.int .i64 p.col]
theorem Lv:(prog.info? 162).map (fun i=>(i.zero,i.size,i.bytes))=some (some (.agg #[.int .i64 0,.int .i64 0,.int .i64 0,.string ⟨#[]⟩,.int .i64 0,.int .i64 0]),6,56):=by kernel_rfl
theorem fj{p k q n m:Value}(h:l.heap[T]?=some (.cells #[p,k,q,n,m] 122 (0,0)))(a b c d e:Value) :
    (l.setCell ⟨T,0,none⟩ a).cell? ⟨T,0,none⟩=some a/\((l.setCell ⟨T,0,none⟩ a).setCell ⟨T,1,none⟩ b).cell? ⟨T,1,none⟩=some b/\(((l.setCell ⟨T,0,none⟩ a).setCell ⟨T,1,none⟩ b).setCell ⟨T,2,none⟩ c).cell? ⟨T,2,none⟩=some c/\((((l.setCell ⟨T,0,none⟩ a).setCell ⟨T,1,none⟩ b).setCell ⟨T,2,none⟩ c).setCell ⟨T,3,none⟩ d).cell? ⟨T,3,none⟩=some d/\(((((l.setCell ⟨T,0,none⟩ a).setCell ⟨T,1,none⟩ b).setCell ⟨T,2,none⟩ c).setCell ⟨T,3,none⟩ d).setCell ⟨T,4,none⟩ e).cell? ⟨T,4,none⟩=some e:=by
  have i:=ah h 0 a;have f:=ah i 1 b;have j:=ah f 2 c;have g:=ah j 3 d;have o:=ah g 4 e;exact⟨by rw[aa i];rfl,by rw[aa f];rfl,by rw[aa j];rfl,by rw[aa g];rfl,by rw[aa o];rfl⟩
def Ds(c:Int):ByteArray:=⟨#[UInt8.ofNat c.toNat]⟩
theorem Ng(c:Int)(d:0<=c/\c<256)(a:World):(convert 312 9 (.slice (some ⟨a.heap.size,0,none⟩) 1 1)).run prog (a.alloc (.cells #[.int .u8 c] 5))=.ok (.string (Ds c)) (a.alloc (.cells #[.int .u8 c] 5)):=by
  have e:c=((UInt8.ofNat c.toNat).toNat:Int):=by
    rw[UInt8.toNat_ofNat'];omega
  unfold Ds;generalize UInt8.ofNat c.toNat=u at *;rw[e]
  exact Ug (a.alloc (.cells #[.int .u8 (u.toNat:Int)] 5)) 312 9 5 ⟨a.heap.size,0,none⟩ 1 [u] underlying312 underlying5 underlying9 (by
    intro j b
    match j,b with
    | 0,_=>simp[Addr.add])
def np(why:Int)(l:Lt):jS:=⟨[],why,l.file,l.line,l.col⟩
def rM(T:List Tk)(S:List Sm)(refs tags:List Nat)(n:Nat)(l:Lt):dj :=
  if n<=refs.length then⟨(refs.getD (n-1) 0:Nat),0,iD T S (refs.getD (n-1) 0:Nat),l.file,l.line,l.col⟩ else⟨-2,tags.getD (n-refs.length-1) 0,0,l.file,l.line,l.col⟩
def ni(T:List Tk)(S:List Sm)(refs:List Nat)(en:Lt):List Lt->List dj->List Nat->ByteArray->Bool->jS
  | [],P,_,num,_=>if(num.toList == [])=false then np 4 en else if P.length=0 then np 1 en else⟨P,0,⟨#[]⟩,0,0⟩
  | l :: r,P,tags,num,fr =>
    if 85<=l.c/\l.c<=89 then ni T S refs en r P tags (num++Ds l.c) false
    else if 65<=l.c/\l.c<=84 then
      (if iO (num++Ds l.c) (refs.length+tags.length)=0 then np 5 l
       else ni T S refs en r (P++[rM T S refs tags (iO (num++Ds l.c) (refs.length+tags.length)) l]) tags ⟨#[]⟩ true)
    else if l.c=90/\fr=true then ni T S refs en r P (tags++[P.length-1]) num false
    else if l.c=63/\(num.toList == [])=true then ni T S refs en r (P++[⟨-1,0,0,l.file,l.line,l.col⟩]) tags num false
    else np 4 l
def j4(T:List Tk)(S:List Sm)(refs:List Nat)(en:Lt)(L:List Lt):jS:=ni T S refs en L [] [] ⟨#[]⟩ false
theorem yQ:iO D b<=b:=by
  unfold iO
  cases h:(List.range b).find? (Al D) with
  | none=>exact Rn _
  | some i=>have:=Q9.1 (Ry h);show i+1<=b;omega
structure FP(w wr:World)(en:Lt)(P:List dj)(h:Hd)(tags:List Nat)(ht:Hd):Prop where
  e:wr.heap[w.heap.size]?=some (.cells #[.string en.file,.int .i64 en.line,.int .i64 en.col] 36 (0,0))
  r:wr.heap[w.heap.size+1]?=some (.cells #[.slice none 0 0,.int .i64 0,.string ⟨#[]⟩,.int .i64 0,.int .i64 0] 122 (0,0))
  p:wr.heap[w.heap.size+2]?=some (.cells #[.slice h.ao P.length h.cap,.int .i64 0,.string ⟨#[]⟩,.int .i64 0,.int .i64 0] 122 (0,0))
  op:aw wr h (eI P)
  ot:aw wr ht (bB tags)
  fp:∀k,h.blk=some k->w.heap.size+2<k
  ft:∀k,ht.blk=some k->w.heap.size+2<k
  ap:∀k,h.blk=some k->ht.blk≠some k
  kept:ab [] w wr
theorem FP.Va{d:Lt}{P:List dj}(b:FP l y d P k i o)(c:ab [] y a):FP l a d P k i o :=
  ⟨c.get b.e (by simp),c.get b.r (by simp),c.get b.p (by simp),b.op.Va c,b.ot.Va c,b.fp,b.ft,b.ap,b.kept.trans c⟩
theorem pJ(k:ab i y a)(e:∀q∈i,l.heap.size<=q)(b:ab [] l y):ab [] l a :=
  ⟨k.os.trans b.os,k.tape.trans b.tape,k.output.trans b.output,Q1 b.size k.size,fun q c _=>by
    rw[k.block q (QW c b.size) (fun d=>by have:=e q d;omega),b.block q c (by simp)]⟩
theorem FP.addT{n:Lt}{P:List dj}{c:List Nat}(b:FP l y n P k i o)(g:bt y a o N)(t:aw a N (bB c)):FP l a n P k c N:=by
  have m:∀q,q<=l.heap.size+2->q∉o.blk.toList:=fun q j s=>by have:=b.ft q (aN s);omega
  have u:=ae b.p;refine⟨g.kept.get b.e (m _ (by omega)),g.kept.get b.r (m _ (by omega)),g.kept.get b.p (m _ (by omega)),g.beside b.op (fun h d=>b.ap h d),t,b.fp,fun h d=>?_,fun h d f=>?_,pJ g.kept (fun q j=>by have:=b.ft q (aN j);omega) b.kept⟩
  · rcases g.blk with e | ⟨q,e,j⟩
    · exact b.ft h (by rw[<-e];exact d)
    · rw[e]at d;cases d;omega
  · rcases g.blk with e | ⟨q,e,j⟩
    · exact b.ap h d (by rw[<-e];exact f)
    · rw[e]at f;cases f
      have:=b.op.lt d;omega
theorem FP.addP{w:Lt}{P s:List dj}(b:FP l y w P k i o)(g:bt y a k N)(x:aw a N (eI s)){m:Nat}(v:m=s.length):FP l (a.setCell ⟨l.heap.size+2,0,none⟩ (.slice N.ao m N.cap)) w s N i o:=by
  subst v;have u:∀q,q<=l.heap.size+2->q∉k.blk.toList:=fun q c v=>by have:=b.fp q (aN v);omega
  have D:=ae b.p;have A:=g.kept.get b.e (u _ (by omega));have z:=g.kept.get b.r (u _ (by omega));have C:=g.kept.get b.p (u _ (by omega))
  have j:∀h,N.blk=some h->l.heap.size+2<h:=fun h d=>by
    rcases g.blk with e | ⟨q,e,c⟩
    · exact b.fp h (by rw[<-e];exact d)
    · rw[e]at d;cases d;omega
  have n:aw a o (bB i):=g.beside b.ot (fun h d f=>b.ap h f d);have t:ab [l.heap.size+2] a (a.setCell ⟨l.heap.size+2,0,none⟩ (.slice N.ao s.length N.cap)):=(ab.refl _ _).setCell (Q0 (by simp)) _;refine⟨t.get A (by simp),t.get z (by simp),by rw[ah C];rfl,x.Vf (fun q c=>t.block q (x.lt c) (by simp;have:=j q c;omega)),n.Vf (fun q c=>t.block q (n.lt c) (by simp;have:=b.ft q c;omega)),j,b.ft,fun h d f=>?_,?_⟩
  · rcases g.blk with e | ⟨q,e,c⟩
    · exact b.ap h (by rw[<-e];exact d) f
    · rw[e]at d;cases d
      have:=b.ot.lt f;omega
  · have B:ab [] l a:=pJ g.kept (fun q c=>by have:=b.fp q (aN c);omega) b.kept
    exact B.setCell (QU (by simp)) _
theorem FP.cells{b:Lt}{P:List dj}(a:FP l y b P k i o) :
    (y.cell? ⟨l.heap.size,0,none⟩=some (.string b.file)/\y.cell? ⟨l.heap.size,1,none⟩=some (.int .i64 b.line)/\y.cell? ⟨l.heap.size,2,none⟩=some (.int .i64 b.col)) /\
    (y.cell? ⟨l.heap.size+1,0,none⟩=some (.slice none 0 0)/\y.cell? ⟨l.heap.size+1,1,none⟩=some (.int .i64 0)/\y.cell? ⟨l.heap.size+1,2,none⟩=some (.string ⟨#[]⟩)/\y.cell? ⟨l.heap.size+1,3,none⟩=some (.int .i64 0)/\y.cell? ⟨l.heap.size+1,4,none⟩=some (.int .i64 0)) /\
    (y.cell? ⟨l.heap.size+2,0,none⟩=some (.slice k.ao P.length k.cap)/\y.cell? ⟨l.heap.size+2,1,none⟩=some (.int .i64 0)/\y.cell? ⟨l.heap.size+2,2,none⟩=some (.string ⟨#[]⟩)/\y.cell? ⟨l.heap.size+2,3,none⟩=some (.int .i64 0)/\y.cell? ⟨l.heap.size+2,4,none⟩=some (.int .i64 0)) /\
    (y.frozen? ⟨l.heap.size+1,0,none⟩=false/\y.frozen? ⟨l.heap.size+1,1,none⟩=false/\y.frozen? ⟨l.heap.size+1,2,none⟩=false/\y.frozen? ⟨l.heap.size+1,3,none⟩=false/\y.frozen? ⟨l.heap.size+1,4,none⟩=false)/\y.frozen? ⟨l.heap.size+2,0,none⟩=false/\l.heap.size+2<y.heap.size:=by
  refine⟨⟨?_,?_,?_⟩,⟨?_,?_,?_,?_,?_⟩,⟨?_,?_,?_,?_,?_⟩,⟨am a.r 0,am a.r 1,am a.r 2,am a.r 3,am a.r 4⟩,am a.p 0,ae a.p⟩
  all_goals first | (rw[aa a.e];rfl) | (rw[aa a.r];rfl) | (rw[aa a.p];rfl)
theorem bN{P:Program}{g:Array Oper}{d:List Oper}{o:Oper}{a:Act}{Q:Exit->Act->World->Prop}(G:o.guard=none)(s x:Operand)(t:TypeId)(p:o.op=Op.call { callee:=Callee.builtin Builtin.append,args:=#[s,x],argTypes:=#[t,t] })(i:TypeInfo)(z:Value)(c:Nat)(h:Hd)(r:dN)(b:List Value)(y:P.underlying t=some (.slice r.e))(B:P.info? r.e=some i)(C:i.zero=some z)(M:i.size=r.size)(w:i.bytes=c)(A:z.cells.size=r.size)(L:0<r.size)(J:a.eval s=.slice h.ao r.n h.cap)(l:aw n h r)(N:r.n<=900000000)(I:c<=1000)(K:a.eval x=.slice (some ⟨n.heap.size,0,none⟩) 1 1)(O:b.length=r.size)(m:∀u∈b,u.oneCell'=true)(E:∀f k,aw k f ⟨r.e,r.size,r.n+1,r.xs++b⟩->bt n k h f->wpList P g Q d (a.put o.dst (.slice f.ao (r.n+1) f.cap)) k) :
  wpList P g Q (o :: d) a (n.alloc (.cells b.toArray r.e)):=by
 have q:ab [] n (n.alloc (.cells b.toArray r.e)):=(ab.refl [] _).alloc _;have v:(n.alloc (.cells b.toArray r.e)).heap[n.heap.size]?=some (.cells b.toArray r.e (0,0)):=QR _ _;refine ed _ G s x t p i z c h r y B C M w A L J (l.Va q) (some ⟨n.heap.size,0,none⟩) 1 1 b K (by omega) (fun e=>by cases e) ?_ m (by omega) I ?_
 ·intro R e j u H
  cases e
  rw[bL,aa v];simpa using H
 ·intro f k D F
  exact E f k D ((bt.Va q).trans F)
def oj(w:World)(p:jS)(e:Ending)(w':World):Prop:=∃h',e=.returned (Qf p h')/\gw w w' h' (eI p.st)
theorem gO{p:jS}{e:Ending}(a:p.st=[])(c:e=.returned (.agg #[.slice none 0 0,.int .i64 p.why,.string p.file,.int .i64 p.line,.int .i64 p.col]))(k:ab [] l y):oj l p e y :=
 ⟨⟨none,0⟩,by rw[c,Qf,a];rfl,by rw[a];exact⟨QY _ _ _ _,(by intro k b;cases b),k⟩⟩
theorem aw.aside(o:aw l k z6)(c:∀a,k.blk=some a->a≠T)(i:Nat)(v:Value):aw (l.setCell ⟨T,i,none⟩ v) k z6:=by
 have a:ab [T] l (l.setCell ⟨T,i,none⟩ v):=(ab.refl _ _).setCell (Q0 (by simp)) _;exact o.Vf (fun q b=>a.block q (o.lt b) (by simp;exact c q b))
theorem Ib(L:List α)(k:Nat)(h:k<L.length):L.drop k=L[k] :: L.drop (k+1):=Re h
theorem JT(b0:Option Addr)(cR:Nat)(L:List Lt)(ck:Option Addr)(cL:Nat)(y:Lt)(D:World)(hD:fz D v w g I H z0 b)(ok:nJ w H f)(hR:qC D b0 x)(hr:∀r∈x,r<f)(c0:x.length<=30000)(hL:cm D ck 4 Qd L)(c4:L.length<=20000000)(az:∀l∈L,0<=l.c/\l.c<256) :
  Calls prog 176 #[.pointer (some ⟨v,0,none⟩),.slice b0 x.length cR,.slice ck L.length cL,.agg #[.string y.file,.int .i64 y.line,.int .i64 y.col]] D fun e w'=>oj D (j4 w H x y L) e w':=by
 have HD:=hI hD;have cu:=hI ok;have HR:=hI hR;have HL:=hI hL;have cp:=hI az;have cX:=hI hr;obtain⟨iN,cs,bT,b3,cj⟩:=Rd zY;obtain⟨iP,br,a3,a4,a7⟩:=Rd Lv
 have S0:Hid (FP D (((D.alloc (.cells #[.string y.file,.int .i64 y.line,.int .i64 y.col] 36)).alloc (.cells #[.slice none 0 0,.int .i64 0,.string ⟨#[]⟩,.int .i64 0,.int .i64 0] 122)).alloc (.cells #[.slice none 0 0,.int .i64 0,.string ⟨#[]⟩,.int .i64 0,.int .i64 0] 122)) y [] ⟨none,0⟩ [] ⟨none,0⟩):=by
  obtain⟨W1,bo⟩:∃W1,W1=D.alloc (.cells #[.string y.file,.int .i64 y.line,.int .i64 y.col] 36):=⟨_,rfl⟩
  obtain⟨U,bg⟩:∃U,U=W1.alloc (.cells #[.slice none 0 0,.int .i64 0,.string ⟨#[]⟩,.int .i64 0,.int .i64 0] 122):=⟨_,rfl⟩
  have z1:W1.heap.size=D.heap.size+1:=by rw[bo];simp
  have z2:U.heap.size=D.heap.size+2:=by rw[bg];simp[z1]
  have k1:ab [] W1 U:=by rw[bg];exact(ab.refl [] _).alloc _
  have k0:ab [] D W1:=by rw[bo];exact(ab.refl [] _).alloc _
  have k2:ab [] U (U.alloc (.cells #[.slice none 0 0,.int .i64 0,.string ⟨#[]⟩,.int .i64 0,.int .i64 0] 122)):=(ab.refl [] _).alloc _;have e0:W1.heap[D.heap.size]?=some (.cells #[.string y.file,.int .i64 y.line,.int .i64 y.col] 36 (0,0)):=by rw[bo];exact QR _ _
  have e1:U.heap[D.heap.size+1]?=some (.cells #[.slice none 0 0,.int .i64 0,.string ⟨#[]⟩,.int .i64 0,.int .i64 0] 122 (0,0)):=by rw[bg,<-z1];exact QR _ _
  show FP _ _ _ _ _ _ _
  rw[<-bo,<-bg];exact⟨k2.get (k1.get e0 (by simp)) (by simp),k2.get e1 (by simp),by rw[<-z2];exact QR _ _,QY _ _ _ _,QY _ _ _ _,(by intro k hk;cases hk),(by intro k hk;cases hk),(by intro k hk;cases hk),(k0.trans k1).trans k2⟩
 clear hD ok hR hL az hr;go_enter func176,ntmps176;go_wp2
 go_loopg [10,11,12,13] L.length (fun c1 tg nm fr i wr=>∃(k:Nat) (h:Hd) (P:List dj) (ht:Hd) (d:List Nat) (s:ByteArray) (cc:Bool),k<=L.length/\c1=L.length-k/\tg=.slice ht.ao d.length ht.cap/\nm=.string s/\fr=.bool cc/\i=.int .i64 k/\(P.length<=k/\d.length<=k/\s.size<=k)/\Hid (cc=true->0<P.length)/\Hid (ni w H x y (L.drop k) P d s cc=j4 w H x y L)/\Hid (FP D wr y P h d ht))
 case atStart=>exact⟨0,⟨none,0⟩,[],⟨none,0⟩,[],⟨#[]⟩,false,by omega,rfl,rfl,rfl,rfl,rfl,⟨QQ _,QQ _,QQ _⟩,(fun h=>by cases h),rfl,S0⟩
 case round =>
  obtain⟨k,h,P,ht,d,s,cc,hk,hg,rfl,rfl,rfl,rfl,⟨db,dt,c8⟩,HF,t,F⟩:=hrel;obtain⟨⟨ax,Z,ag⟩,⟨ad,X,aS,ai,al⟩,⟨af,ac,ar,a0,ap⟩,⟨Y,Ou,Ov,Ow,Ox⟩,aT,an⟩:=F.out.cells;have G:=hI F.out.kept
  by_cases bj:k<L.length
  ·have c6:(k:Int)<(L.length:Int):=by omega
   obtain⟨gL,rfl,cf,bd⟩:=(cm.Va HL.out G.out) k L[k] (QO bj);have l0:wr.cell? ⟨gL,k*4,none⟩=some (.int .u8 L[k].c):=bd 0 _ rfl;have l1:=bd 1 _ rfl;have l2:=bd 2 _ rfl;have l3:=bd 3 _ rfl
   have b5:Hid (∀w',ab [] D w'->gL<w'.heap.size/\w'.cell? ⟨gL,k*4+1,none⟩=some (.string L[k].file)/\w'.cell? ⟨gL,k*4+2,none⟩=some (.int .i64 L[k].line)/\w'.cell? ⟨gL,k*4+3,none⟩=some (.int .i64 L[k].col)):=fun w' kw=>by
    obtain⟨g2,e2,h2,c2⟩:=(cm.Va HL.out kw) k L[k] (QO bj)
    cases e2
    exact⟨h2,c2 1 _ rfl,c2 2 _ rfl,c2 3 _ rfl⟩
   have az:=cp.out L[k] (Ra bj);have ca:=hI (Ib L k bj);rw[ca.out,ni]at t;clear bd ca;generalize L[k]=l at *;obtain⟨c,o,n,j⟩:=l;simp only at l0 l1 l2 l3 az t b5;have d0:=fun wx=>Ng c az wx
   obtain⟨ds,dT⟩:=az;have co:(Ds c).size=1:=rfl
   -- a fault at this letter
   have c7:Hid (∀(w2:World) (e:Ending),ab [] D w2->e=.returned (.agg #[.slice none 0 0,.int .i64 4,.string o,.int .i64 n,.int .i64 j])->j4 w H x y L=np 4 ⟨c,o,n,j⟩->oj D (j4 w H x y L) e w2):=fun w2 e k2 he hx=>by rw[hx];exact gO rfl he k2
   by_cases a1:85<=c/\c<=89
   ·rw[QV a1]at t
    obtain⟨a1,a2⟩:=a1;have cA:=(show Hid _ from(ab.refl [] wr).alloc (.cells #[.int .u8 c] 5));have cE:=hI (F.out.Va cA.out);have cx:Hid ((s++Ds c).size=s.size+1):=by show _=_;rw[Sc,co]
    go_wp2
    go_roundg (L.length-(k+1))
    case measure=>omega
    case rel=>exact⟨k+1,h,P,ht,d,s++Ds c,false,by omega,rfl,rfl,rfl,rfl,by go_num,⟨by omega,by omega,by rw[cx.out];omega⟩,(fun h=>by cases h),t,cE⟩
   ·rw[QS a1]at t
    by_cases b1:65<=c/\c<=84
    ·rw[QV b1]at t
     obtain⟨b1,b2⟩:=b1;have a2:¬85<=c:=by omega
     have bs:Hid (∀wx,Calls prog 213 #[.string (s++Ds c),.int .i64 ((x.length:Int)+(d.length:Int))] wx fun e w'=>e=.returned (.int .i64 (iO (s++Ds c) (x.length+d.length):Nat))/\ab [] wx w'):=fun wx=>by
      have:=EH (s++Ds c) (x.length+d.length) wx (by omega);rw[Int.natCast_add]at this;exact this
     have b4:=yQ (s++Ds c) (x.length+d.length);obtain⟨J,ct⟩:∃J,Hid (iO (s++Ds c) (x.length+d.length)=J):=⟨_,rfl⟩
     rw[ct.out]at bs t b4;have dk:s.size+1<=9223372036854775807:=by omega
     go_upto_region 15 with (go_at_call 213;refine(bs.out _).mono ?_;rintro e B ⟨rfl,k1⟩)
     have ch:=(show Hid _ from((ab.refl [] wr).alloc _).trans k1);have bf:=hI (F.out.Va ch.out);have W:=hI (G.out.trans ch.out);clear k1 ax Z ag ad X aS ai al af ac ar a0 ap Y Ou Ov Ow Ox aT an l0 l1 l2 l3 cf bs;obtain⟨⟨ax,Z,ag⟩,⟨ad,X,aS,ai,al⟩,⟨af,ac,ar,a0,ap⟩,⟨Y,Ou,Ov,Ow,Ox⟩,aT,an⟩:=bf.out.cells;obtain⟨cf,l1,l2,l3⟩:=b5.out B W.out
     by_cases n0:J=0
     ·rw[QV n0]at t
      subst n0;have T:Hid (j4 w H x y L=np 5 ⟨c,o,n,j⟩):=t.out.symm;go_wp2;obtain⟨M,Q,S,O,R⟩:=fj bf.out.r (.slice none 0 0) (.int .i64 5) (.string o) (.int .i64 n) (.int .i64 j);exact QX (v:=.agg #[.slice none 0 0,.int .i64 5,.string o,.int .i64 n,.int .i64 j]) (by simp[results,results176,go_sem,M,Q,S,O,R]) rfl (by rw[T.out];exact gO rfl rfl (((((W.out.setCell (QU (by simp)) _).setCell (QU (by simp)) _).setCell (QU (by simp)) _).setCell (QU (by simp)) _).setCell (QU (by simp)) _))
     ·rw[QS n0]at t
      have c9:((J:Int)==0)=false:=by simpa using n0
      by_cases n1:J<=x.length
      ·have cy:(J:Int)<=(x.length:Int):=by omega
       obtain⟨q,rfl⟩:∃q,J=q+1:=⟨J-1,by omega⟩
       have bv:q<x.length:=by omega
       have dz:(q:Int)<(x.length:Int):=by omega
       have be:Hid (rM w H x d (q+1) ⟨c,o,n,j⟩=⟨(x[q]:Nat),0,iD w H (x[q]:Nat),o,n,j⟩):=by
        show _=_
        unfold rM;rw[QV n1,SB,QP,QO bv];rfl
       have cF:=cX.out x[q] (Ra bv);obtain⟨gR,rfl,dv,cq⟩:=(qC.Va HR.out W.out) q x[q] (QO bv);rw[be.out]at t;have b6:Hid (∀wx,ab [] D wx->Calls prog 129 #[.pointer (some ⟨v,0,none⟩),.int .i64 (x[q]:Nat)] wx fun e w'=>e=.returned (.int .i64 (iD w H (x[q]:Nat):Nat))/\ab [] wx w'):=fun wx kx=>yP v f x[q] w g I H z0 b wx (fz.Va HD.out kx) cu.out cF
       clear be;generalize x[q]=rf at *;generalize iD w H (rf:Nat)=nd at *;obtain⟨U,bl⟩:∃U,Hid (B.alloc (.cells #[.int .i64 (rf:Int),.int .i64 0,.int .i64 0,.string o,.int .i64 n,.int .i64 j] 162)=U):=⟨_,rfl⟩
       have bw:ab [] B U:=by rw[<-bl.out];exact(ab.refl [] _).alloc _
       have B2:U.heap[B.heap.size]?=some (.cells #[.int .i64 (rf:Int),.int .i64 0,.int .i64 0,.string o,.int .i64 n,.int .i64 j] 162 (0,0)):=by rw[<-bl.out];exact QR _ _
       have bp:=hI (b6.out U (W.out.trans bw));have s0:U.cell? ⟨B.heap.size,0,none⟩=some (.int .i64 (rf:Int)):=by rw[aa B2];rfl
       have z2:=ae B2
       go_upto_region 20 with fail
       rw[bl.out]
       go_upto_region 22 with (go_at_call 129;refine QT bp.out ?_;rintro e w2 ⟨rfl,k2⟩;have B3:=k2.get B2 (by simp);have f3:=am B3 2;have c3:w2.cell? ⟨B.heap.size,2,none⟩=some (.int .i64 0):=(by rw[aa B3];rfl);have z3:=ae B3)
       obtain⟨E,A⟩:∃E,Hid (w2.setCell ⟨B.heap.size,2,none⟩ (.int .i64 (nd:Int))=E):=⟨_,rfl⟩
       have a6:ab [] B E:=by rw[<-A.out];exact(bw.trans k2).setCell (QU (by simp)) _
       have N:E.heap[B.heap.size]?=some (.cells #[.int .i64 (rf:Int),.int .i64 0,.int .i64 (nd:Int),.string o,.int .i64 n,.int .i64 j] 162 (0,0)):=by rw[<-A.out,ah B3];rfl
       have C:=hI (bf.out.Va a6);rw[A.out];clear ax Z ag ad X aS ai al af ac ar a0 ap Y Ou Ov Ow Ox aT an;clear B2 B3 bw k2 a6 s0 z2 f3 c3 z3 A bl bp b6 cq;obtain⟨⟨ax,Z,ag⟩,⟨ad,X,aS,ai,al⟩,⟨af,ac,ar,a0,ap⟩,⟨Y,Ou,Ov,Ow,Ox⟩,aT,an⟩:=C.out.cells;have t0:E.cell? ⟨B.heap.size,0,none⟩=some (.int .i64 (rf:Int)):=by rw[aa N];rfl
       have t1:E.cell? ⟨B.heap.size,1,none⟩=some (.int .i64 0):=by rw[aa N];rfl
       have t2:E.cell? ⟨B.heap.size,2,none⟩=some (.int .i64 (nd:Int)):=by rw[aa N];rfl
       have t3:E.cell? ⟨B.heap.size,3,none⟩=some (.string o):=by rw[aa N];rfl
       have t4:E.cell? ⟨B.heap.size,4,none⟩=some (.int .i64 n):=by rw[aa N];rfl
       have t5:E.cell? ⟨B.heap.size,5,none⟩=some (.int .i64 j):=by rw[aa N];rfl
       have t6:=ae N;have K:=C.out.op;have ba:(eI P).n<=900000000:=by show P.length<=_;omega
       go_wp2_with (at_builtin;refine bN _ rfl (.tmp 103) (.tmp 105) 120 rfl iP (.agg #[.int .i64 0,.int .i64 0,.int .i64 0,.string ⟨#[]⟩,.int .i64 0,.int .i64 0]) 56 h (eI P) [.int .i64 (rf:Int),.int .i64 0,.int .i64 (nd:Int),.string o,.int .i64 n,.int .i64 j] underlying120 br a3 a4 a7 rfl (show 0<6 by omega) rfl K ba (by omega) rfl rfl (tA (⟨(rf:Int),0,nd,o,n,j⟩:dj)) ?_;intro h5 w5 u z;rw[show([.int .i64 (rf:Int),.int .i64 0,.int .i64 (nd:Int),.string o,.int .i64 n,.int .i64 j]:List Value)=kU (⟨(rf:Int),0,nd,o,n,j⟩:dj) from rfl,mJ]at u;have HA:=hI (C.out.addP (m:=(eI P).n+1) z u (by simp[eI,kT]));have V:=z.kept.get C.out.p (fun hq=>by have:=C.out.fp _ (aN hq);omega);have f5:=am V 0;have c5:w5.cell? ⟨D.heap.size+2,0,none⟩=some (.slice h.ao P.length h.cap):=(by rw[aa V];rfl);have z5:=ae V;clear u z V)
       go_roundg (L.length-(k+1))
       case measure=>omega
       case rel=>exact⟨k+1,h5,P++[⟨(rf:Int),0,nd,o,n,j⟩],ht,d,⟨#[]⟩,true,by omega,rfl,rfl,rfl,rfl,by go_num,⟨by simp;omega,by omega,Rn _⟩,(fun _=>by simp),t,HA⟩
      ·have cy:¬(J:Int)<=(x.length:Int):=by omega
       obtain⟨q,Hq⟩:∃q,Hid (J-x.length-1=q):=⟨_,rfl⟩
       have cb:q<d.length:=by have:=Hq.out;omega
       have i1:IntKind.i64.wrap ((J:Int)-(x.length:Int))=(J:Int)-(x.length:Int):=by rw[R8];omega
       have i2:IntKind.i64.wrap ((J:Int)-(x.length:Int)-1)=(J:Int)-(x.length:Int)-1:=by rw[R8];omega
       have i3:((J:Int)-(x.length:Int)-1).toNat=q:=by have:=Hq.out;omega
       have i4:(0:Int)<=(J:Int)-(x.length:Int)-1:=by omega
       have i5:(J:Int)-(x.length:Int)-1<(d.length:Int):=by omega
       have be:Hid (rM w H x d J ⟨c,o,n,j⟩=⟨-2,d[q],0,o,n,j⟩):=by
        show _=_
        unfold rM;rw[QS n1,Hq.out,QP,QO cb];rfl
       obtain⟨gt,bz,d3,cq⟩:=bf.out.ot.srcN q d[q] (QO cb);rw[be.out]at t;clear be;generalize d[q]=tg at *;obtain⟨E,A⟩:∃E,Hid (B.alloc (.cells #[.int .i64 (-2),.int .i64 (tg:Int),.int .i64 0,.string o,.int .i64 n,.int .i64 j] 162)=E):=⟨_,rfl⟩
       have a6:ab [] B E:=by rw[<-A.out];exact(ab.refl [] _).alloc _
       have N:E.heap[B.heap.size]?=some (.cells #[.int .i64 (-2),.int .i64 (tg:Int),.int .i64 0,.string o,.int .i64 n,.int .i64 j] 162 (0,0)):=by rw[<-A.out];exact QR _ _
       have C:=hI (bf.out.Va a6);rw[bz]
       go_upto_region 22 with fail
       rw[A.out];clear ax Z ag ad X aS ai al af ac ar a0 ap Y Ou Ov Ow Ox aT an;clear a6 A cq i1 i2 i3 i4 i5;obtain⟨⟨ax,Z,ag⟩,⟨ad,X,aS,ai,al⟩,⟨af,ac,ar,a0,ap⟩,⟨Y,Ou,Ov,Ow,Ox⟩,aT,an⟩:=C.out.cells;have t0:E.cell? ⟨B.heap.size,0,none⟩=some (.int .i64 (-2)):=by rw[aa N];rfl
       have t1:E.cell? ⟨B.heap.size,1,none⟩=some (.int .i64 (tg:Int)):=by rw[aa N];rfl
       have t2:E.cell? ⟨B.heap.size,2,none⟩=some (.int .i64 0):=by rw[aa N];rfl
       have t3:E.cell? ⟨B.heap.size,3,none⟩=some (.string o):=by rw[aa N];rfl
       have t4:E.cell? ⟨B.heap.size,4,none⟩=some (.int .i64 n):=by rw[aa N];rfl
       have t5:E.cell? ⟨B.heap.size,5,none⟩=some (.int .i64 j):=by rw[aa N];rfl
       have t6:=ae N;have K:=C.out.op;have ba:(eI P).n<=900000000:=by show P.length<=_;omega
       go_wp2_with (at_builtin;refine bN _ rfl (.tmp 103) (.tmp 105) 120 rfl iP (.agg #[.int .i64 0,.int .i64 0,.int .i64 0,.string ⟨#[]⟩,.int .i64 0,.int .i64 0]) 56 h (eI P) [.int .i64 (-2),.int .i64 (tg:Int),.int .i64 0,.string o,.int .i64 n,.int .i64 j] underlying120 br a3 a4 a7 rfl (show 0<6 by omega) rfl K ba (by omega) rfl rfl (tA (⟨-2,tg,0,o,n,j⟩:dj)) ?_;intro h5 w5 u z;rw[show([.int .i64 (-2),.int .i64 (tg:Int),.int .i64 0,.string o,.int .i64 n,.int .i64 j]:List Value)=kU (⟨-2,tg,0,o,n,j⟩:dj) from rfl,mJ]at u;have HA:=hI (C.out.addP (m:=(eI P).n+1) z u (by simp[eI,kT]));have V:=z.kept.get C.out.p (fun hq=>by have:=C.out.fp _ (aN hq);omega);have f5:=am V 0;have c5:w5.cell? ⟨D.heap.size+2,0,none⟩=some (.slice h.ao P.length h.cap):=(by rw[aa V];rfl);have z5:=ae V;clear u z V)
       go_roundg (L.length-(k+1))
       case measure=>omega
       case rel=>exact⟨k+1,h5,P++[⟨-2,tg,0,o,n,j⟩],ht,d,⟨#[]⟩,true,by omega,rfl,by rw[bz],rfl,rfl,by go_num,⟨by simp;omega,by omega,Rn _⟩,(fun _=>by simp),t,HA⟩
    ·rw[QS b1]at t
     by_cases d1:c=90
     ·subst d1
      cases cc
      ·rw[QS (by simp),QS (by omega)]at t
       have T:Hid (j4 w H x y L=np 4 ⟨90,o,n,j⟩):=t.out.symm;go_wp2;obtain⟨M,Q,S,O,R⟩:=fj F.out.r (.slice none 0 0) (.int .i64 4) (.string o) (.int .i64 n) (.int .i64 j);exact QX (v:=.agg #[.slice none 0 0,.int .i64 4,.string o,.int .i64 n,.int .i64 j]) (by simp[results,results176,go_sem,M,Q,S,O,R]) rfl (by rw[T.out];exact gO rfl rfl (((((G.out.setCell (QU (by simp)) _).setCell (QU (by simp)) _).setCell (QU (by simp)) _).setCell (QU (by simp)) _).setCell (QU (by simp)) _))
      ·rw[QV ⟨rfl,rfl⟩]at t
       have dl:=HF.out rfl;have cP:((P.length-1:Nat):Int)=(P.length:Int)-1:=by omega
       have dp:IntKind.i64.wrap ((P.length:Int)-1)=(P.length:Int)-1:=by rw[R8];omega
       have cH:=F.out.ot;have cl:(bB d).n<=900000000:=by show d.length<=_;omega
       go_wp2_with (at_builtin;refine bN _ rfl (.tmp 114) (.tmp 119) 26 rfl iN (.int .i64 0) 8 ht (bB d) [.int .i64 ((P.length:Int)-1)] underlying26 cs bT b3 cj rfl Rb rfl cH cl (by omega) rfl rfl (by simp[Value.oneCell']) ?_;intro h5 w5 u z;rw[<-cP,tj]at u;have HA:=hI (F.out.addT z u);clear u z)
       go_roundg (L.length-(k+1))
       case measure=>omega
       case rel=>exact⟨k+1,h,P,h5,d++[P.length-1],s,false,by omega,rfl,by simp[bB],rfl,rfl,by go_num,⟨by omega,by simp;omega,by omega⟩,(fun h=>by cases h),t,HA⟩
     ·have df:(c==90)=false:=by simpa using d1
      rw[QS (fun h=>d1 h.1)]at t
      by_cases e1:c=63
      ·subst e1
       cases a5:(s.toList == [])
       ·rw[QS (by rw[a5];simp)]at t
        have T:Hid (j4 w H x y L=np 4 ⟨63,o,n,j⟩):=t.out.symm;go_wp2;obtain⟨M,Q,S,O,R⟩:=fj F.out.r (.slice none 0 0) (.int .i64 4) (.string o) (.int .i64 n) (.int .i64 j);exact QX (v:=.agg #[.slice none 0 0,.int .i64 4,.string o,.int .i64 n,.int .i64 j]) (by simp[results,results176,go_sem,M,Q,S,O,R]) rfl (by rw[T.out];exact gO rfl rfl (((((G.out.setCell (QU (by simp)) _).setCell (QU (by simp)) _).setCell (QU (by simp)) _).setCell (QU (by simp)) _).setCell (QU (by simp)) _))
       ·rw[QV ⟨rfl,a5⟩]at t
        have K:=F.out.op;have ba:Hid ((eI P).n<=900000000):=by show P.length<=_;omega
        have cB:Hid ((eI P).n=P.length):=rfl
        go_upto_region 29 with fail
        go_region_law (refine bH wr rfl (.tmp 129) (.tmp 136) 120 rfl iP (.agg #[.int .i64 0,.int .i64 0,.int .i64 0,.string ⟨#[]⟩,.int .i64 0,.int .i64 0]) 56 h (eI P) [.int .i64 (-1),.int .i64 0,.int .i64 0,.string o,.int .i64 n,.int .i64 j] underlying120 br a3 a4 a7 rfl (show 0<6 by omega) (by rw[cB.out];simp[Act.eval]) K ba.out (by omega) (by simp[Act.eval]) rfl (tA (⟨-1,0,0,o,n,j⟩:dj)) ?_;intro cV bx w5 u z;have V:=z.kept.get F.out.p (fun hq=>by have:=F.out.fp _ (aN hq);omega);have f5:=am V 0;have c5:w5.cell? ⟨D.heap.size+2,0,none⟩=some (.slice h.ao P.length h.cap):=(by rw[aa V];rfl);have z5:=ae V)
        all_goals
         rw[show([.int .i64 (-1),.int .i64 0,.int .i64 0,.string o,.int .i64 n,.int .i64 j]:List Value)=kU (⟨-1,0,0,o,n,j⟩:dj) from rfl,mJ]at u;have HA:=hI (F.out.addP (m:=(eI P).n+1) z u (by simp[eI,kT]));clear u z V f5 c5 z5;go_wp2
         go_roundg (L.length-(k+1))
         case measure=>omega
         case rel=>exact⟨k+1,⟨cV,bx⟩,P++[⟨-1,0,0,o,n,j⟩],ht,d,s,false,by omega,rfl,rfl,rfl,rfl,by go_num,⟨by simp;omega,by omega,by omega⟩,(fun h=>by cases h),t,HA⟩
      ·have d2:(c==63)=false:=by simpa using e1
       rw[QS (fun h=>e1 h.1)]at t;have T:Hid (j4 w H x y L=np 4 ⟨c,o,n,j⟩):=t.out.symm
       by_cases f1:85<=c
       ·have f2:¬c<=89:=fun h=>a1 ⟨f1,h⟩
        have f3:65<=c:=by omega
        have f4:¬c<=84:=by omega
        go_wp2;obtain⟨M,Q,S,O,R⟩:=fj F.out.r (.slice none 0 0) (.int .i64 4) (.string o) (.int .i64 n) (.int .i64 j);exact QX (v:=.agg #[.slice none 0 0,.int .i64 4,.string o,.int .i64 n,.int .i64 j]) (by simp[results,results176,go_sem,M,Q,S,O,R]) rfl (by rw[T.out];exact gO rfl rfl (((((G.out.setCell (QU (by simp)) _).setCell (QU (by simp)) _).setCell (QU (by simp)) _).setCell (QU (by simp)) _).setCell (QU (by simp)) _))
       ·by_cases f3:65<=c
        ·exact absurd ⟨f3,by omega⟩ b1
        ·skip
         go_wp2;obtain⟨M,Q,S,O,R⟩:=fj F.out.r (.slice none 0 0) (.int .i64 4) (.string o) (.int .i64 n) (.int .i64 j);exact QX (v:=.agg #[.slice none 0 0,.int .i64 4,.string o,.int .i64 n,.int .i64 j]) (by simp[results,results176,go_sem,M,Q,S,O,R]) rfl (by rw[T.out];exact gO rfl rfl (((((G.out.setCell (QU (by simp)) _).setCell (QU (by simp)) _).setCell (QU (by simp)) _).setCell (QU (by simp)) _).setCell (QU (by simp)) _))
  ·have e:k=L.length:=by omega
   subst e;rw[List.drop_length,ni]at t
   cases a5:(s.toList == [])
   ·rw[QV a5]at t
    have T:Hid (j4 w H x y L=np 4 y):=t.out.symm;obtain⟨ec,ef,el,eo⟩:=y;go_wp2;obtain⟨M,Q,S,O,R⟩:=fj F.out.r (.slice none 0 0) (.int .i64 4) (.string ef) (.int .i64 el) (.int .i64 eo);exact QX (v:=.agg #[.slice none 0 0,.int .i64 4,.string ef,.int .i64 el,.int .i64 eo]) (by simp[results,results176,go_sem,M,Q,S,O,R]) rfl (by rw[T.out];exact gO rfl rfl (((((G.out.setCell (QU (by simp)) _).setCell (QU (by simp)) _).setCell (QU (by simp)) _).setCell (QU (by simp)) _).setCell (QU (by simp)) _))
   ·rw[QS (by rw[a5];simp)]at t
    by_cases bk:P.length=0
    ·rw[QV bk]at t
     have T:Hid (j4 w H x y L=np 1 y):=t.out.symm;have cz:((P.length:Int)==0)=true:=by simpa using bk
     obtain⟨ec,ef,el,eo⟩:=y;go_wp2;obtain⟨M,Q,S,O,R⟩:=fj F.out.r (.slice none 0 0) (.int .i64 1) (.string ef) (.int .i64 el) (.int .i64 eo);exact QX (v:=.agg #[.slice none 0 0,.int .i64 1,.string ef,.int .i64 el,.int .i64 eo]) (by simp[results,results176,go_sem,M,Q,S,O,R]) rfl (by rw[T.out];exact gO rfl rfl (((((G.out.setCell (QU (by simp)) _).setCell (QU (by simp)) _).setCell (QU (by simp)) _).setCell (QU (by simp)) _).setCell (QU (by simp)) _))
    ·rw[QS bk]at t
     have T:Hid (j4 w H x y L=⟨P,0,⟨#[]⟩,0,0⟩):=t.out.symm;have cz:((P.length:Int)==0)=false:=by simpa using bk
     have bc:Hid (∀q,h.blk=some q->q≠D.heap.size+1):=fun q hq=>by have:=F.out.fp q hq;omega
     go_wp2;obtain⟨M,Q,S,O,R⟩:=fj F.out.r (.slice h.ao P.length h.cap) (.int .i64 0) (.string ⟨#[]⟩) (.int .i64 0) (.int .i64 0);exact QX (v:=.agg #[.slice h.ao P.length h.cap,.int .i64 0,.string ⟨#[]⟩,.int .i64 0,.int .i64 0]) (by simp[results,results176,go_sem,M,Q,S,O,R]) rfl (by rw[T.out];exact⟨h,rfl,⟨((((F.out.op.aside bc.out _ _).aside bc.out _ _).aside bc.out _ _).aside bc.out _ _).aside bc.out _ _,fun q hq=>(by have:=F.out.fp q hq;omega),((((G.out.setCell (QU (by simp)) _).setCell (QU (by simp)) _).setCell (QU (by simp)) _).setCell (QU (by simp)) _).setCell (QU (by simp)) _⟩⟩)
def Ev(t:Tk):Lt:=⟨0,t.file,t.line,t.col⟩
def u9(T:List Tk)(S:List Sm)(a z:Nat):Nat->Nat->List Nat->jS
 | 0,_,_=>np 3 (Ev (T.getD z jf))
 | n+1,i,refs =>
  if((tS T i).toList == [41])=true then j4 T S refs (Ev (T.getD z jf)) (eR T (i+1) z)
  else if eU T S a (tS T i)<0 then np 2 (Ev (T.getD i jf))
  else if refs.contains (eU T S a (tS T i)).toNat=true then np 3 (Ev (T.getD i jf))
  else u9 T S a z n (i+1) (refs++[(eU T S a (tS T i)).toNat])
def jQ(T:List Tk)(S:List Sm)(a i z:Nat):jS:=u9 T S a z (z-i) i (bW T S a)
theorem qC.cells(h:qC l z7 i):∀b,z7=some b->∀j u,(jX i)[j]?=some u->l.cell? (b.add j)=some u:=by
 intro b e j u a;rw[jX,Rp]at a
 cases d:i[j]? with
 | none=>rw[d]at a;cases a
 | some x =>
  rw[d]at a
  cases a
  obtain⟨g,f,-,c⟩:=h j x d;rw[e]at f
  cases f
  rw[bL];simpa using c
theorem LM:∀u∈jX x,u.oneCell'=true:=by
 intro u a;obtain⟨b,-,rfl⟩:=Sh.1 a;rfl
theorem Mj(M:List Nat):(⟨(bB x).e,(bB x).size,(bB x).n+M.length,(bB x).xs++jX M⟩:dN)=bB (x++M):=by
 simp[bB,jX]
theorem gw.none(a:gw l y k z6):k.ao=none->z6.n=0/\k.cap=0:=fun e=>by
 rcases a.own.ways with ⟨b,c,f⟩ | ⟨g,d,b,-⟩
 ·exact⟨c,by rw[b]⟩
 ·rw[e]at b;cases b
theorem gw.le(a:gw l y k z6):z6.n<=k.cap:=by
 rcases a.own.ways with ⟨d,e,b⟩ | ⟨g,c,d,-,b,-⟩
 ·omega
 ·exact b
theorem sJ:∀j∈bW w H b,j<b:=fun _ a=>Q9.1 (RG.1 a).1
theorem ki:(bW w H b).length<=b:=by
 unfold bW;have:=Sb (sI w H b (Dh w H b)) (List.range b);rw[Te]at this;exact this
theorem xf(e:dC w)(a z:Nat):(eR w a z).length<=1024*w.length:=by
 have:∀L:List Tk,(∀t∈L,t.s.size<=1024)->(L.flatMap uk).length<=1024*L.length:=by
  intro L
  induction L with
  | nil=>intro _;simp
  | cons t L d =>
   intro h;have f:=h t (by simp);have c:=d (fun t b=>h t (by simp[b]));rw[RH,QZ,Ro];have:(uk t).length=t.s.size:=by unfold uk;simp
   omega
 have f:=this ((w.drop a).take (z-a)) (fun t b=>(e t (List.mem_of_mem_drop (Ta b))).1);have c:((w.drop a).take (z-a)).length<=w.length:=by rw[RO,RQ];omega
 unfold eR;omega
theorem Hh:0<=aF D b/\aF D b<256:=by
 unfold aF
 split
 ·next h=>have:=(D[b]'h).toNat_lt;omega
 ·omega
theorem Mt:∀l∈eR w d b,0<=l.c/\l.c<256:=by
 intro l e;unfold eR at e;obtain⟨t,-,a⟩:=TR.1 e;unfold uk at a;obtain⟨k,-,rfl⟩:=Sh.1 a;exact Hh _ _
theorem qq(h:l.heap[T]?=some (.cells #[.slice none 0 0,.int .i64 0,.string ⟨#[]⟩,.int .i64 0,.int .i64 0] 122 (0,0))) :
  (l.cell? ⟨T,0,none⟩=some (.slice none 0 0)/\l.cell? ⟨T,1,none⟩=some (.int .i64 0)/\l.cell? ⟨T,2,none⟩=some (.string ⟨#[]⟩)/\l.cell? ⟨T,3,none⟩=some (.int .i64 0)/\l.cell? ⟨T,4,none⟩=some (.int .i64 0)) /\
  (l.frozen? ⟨T,0,none⟩=false/\l.frozen? ⟨T,1,none⟩=false/\l.frozen? ⟨T,2,none⟩=false/\l.frozen? ⟨T,3,none⟩=false/\l.frozen? ⟨T,4,none⟩=false)/\T<l.heap.size:=by
 refine⟨⟨?_,?_,?_,?_,?_⟩,⟨am h 0,am h 1,am h 2,am h 3,am h 4⟩,ae h⟩
 all_goals (rw[aa h];rfl)
theorem Bo(c:M=i.length)(h:∀q (a:q<i.length),q<M->i[q]≠T):i.contains T=false:=by
 cases e:i.contains T
 ·rfl
 ·rw[TF]at e
  obtain⟨q,a,b⟩:=RZ e;exact absurd b (h q a (by omega))
theorem EK(hD:fz n L w g I H z0 b)(ok:nJ w H S)(hn:S<H.length)(hE:cU w (au H S).h)(hO:dC w)(hi:v<=f)(hz:f<w.length) :
  Calls prog 127 #[.pointer (some ⟨L,0,none⟩),.int .i64 S,.int .i64 v,.int .i64 f] n fun e w'=>oj n (jQ w H S v f) e w':=by
 obtain⟨W,HW⟩:∃W,Hid (n.alloc (.cells #[.slice none 0 0,.int .i64 0,.string ⟨#[]⟩,.int .i64 0,.int .i64 0] 122)=W):=⟨_,rfl⟩
 have BW:W.heap[n.heap.size]?=some (.cells #[.slice none 0 0,.int .i64 0,.string ⟨#[]⟩,.int .i64 0,.int .i64 0] 122 (0,0)):=by rw[<-HW.out];exact QR _ _
 have F:Hid (ab [] n W):=by show ab [] n W;rw[<-HW.out];exact(ab.refl [] _).alloc _
 have cf:W.heap.size=n.heap.size+1:=by rw[<-HW.out];simp
 have M:=hI (hD.Va F.out);have a0:=hI ok;have ar:=hI hO;have bs:=ok.tm;have cy:=ok.sm;have bd:=hI (nO L S w g I H z0 b W M.out ok hn hE);have ch:=ki w H S;have bl:=hI (sJ w H S);have bx:Hid (u9 w H S f (f-v) v (bW w H S)=jQ w H S v f):=rfl;obtain⟨iN,az,Q,T,V⟩:=Rd zY;have bv:=hI BW
 -- a fault
 have G:Hid (∀(wr:World),ab [] W wr->(wr.heap[n.heap.size]?=some (.cells #[.slice none 0 0,.int .i64 0,.string ⟨#[]⟩,.int .i64 0,.int .i64 0] 122 (0,0)))):=fun wr k=>k.get bv.out (by simp)
 clear hD ok hO;generalize bW w H S=HY at *;go_enter func127,ntmps127
 go_upto_region 1 with fail
 rw[HW.out]
 go_upto_region 2 with (go_at_call 62;refine QT bd.out ?_;rintro e J ⟨h1,rfl,u⟩)
 have cx:=hI u.kept;have O:=hI u.own.srcN.cells;have a4:=hI u.none;have an:Hid (gw W J ⟨none,0⟩ (bB [])):=⟨QY _ _ _ _,(by intro k hk;cases hk),u.kept⟩;have a2:=an.out.own;clear u bd
 go_upto_region 3 with (at_builtin;refine ed _ rfl (.const (.slice none 0 0)) (.tmp 18) 26 rfl iN (.int .i64 0) 8 ⟨none,0⟩ (bB []) underlying26 az Q T V rfl Rb rfl a2 h1.ao HY.length h1.cap (jX HY) rfl (by simp[bB,jX]) a4.out O.out (LM HY) (by simp only[bB,Rr];omega) (by omega) ?_;intro h5 w5 Z a1;rw[Mj]at Z;have a5:=hI (an.out.grew a1 Z);clear Z a1)
 rw[Ut]at a5;have a3:(bB ([]:List Nat)).n+HY.length=HY.length:=by simp[bB]
 rw[a3];clear a3 O a4 an a2;go_wp2
 go_loopg [10,11] (f-v) (fun bo r iv wr=>∃(m:Nat) (y:Hd) (R:List Nat),(v<=m/\m<=f)/\bo=f-m/\r=.slice y.ao R.length y.cap/\iv=.int .i64 m/\R.length<=10000+m/\Hid (∀q∈R,q<S)/\Hid (u9 w H S f (f-m) m R=jQ w H S v f)/\Hid (gw W wr y (bB R)))
 case atStart=>exact⟨v,h5,HY,⟨by omega,by omega⟩,rfl,rfl,rfl,by omega,bl,bx,a5⟩
 case round =>
  obtain⟨m,y,R,⟨cl,co⟩,hg,rfl,rfl,cu,bj,c,ag⟩:=hrel;have X:=hI ag.out.kept;have B:=hI (fz.Va M.out X.out);obtain⟨c0,-,hb⟩:=B.out.cells;have BR:=G.out wr X.out;have bp:=hI (F.out.trans X.out);obtain⟨⟨r0,r1,r2,r3,r4⟩,⟨f0,f1,f2,f3,f4⟩,P⟩:=qq BR;obtain⟨gT,rfl,N,t0,-,t2,t3,t4⟩:=B.out.t.2 f _ (iw w f hz);have cb:(f:Int)<(w.length:Int):=by omega
  by_cases cj:m<f
  ·have cp:(m:Int)<(f:Int):=by omega
   have b6:(m:Int)<(w.length:Int):=by omega
   obtain⟨ca,e2,-,u0,-,u2,u3,u4⟩:=B.out.t.2 m _ (iw w m (by omega))
   cases e2
   replace u0:wr.cell? ⟨gT,m*5,none⟩=some (.string (tS w m)):=u0;obtain⟨b2,hf⟩:∃b2,f-m=b2+1:=⟨f-m-1,by omega⟩
   rw[hf,u9]at c;have aT:Hid (Calls prog 128 #[.pointer (some ⟨L,0,none⟩),.int .i64 S,.string (tS w m)] wr fun e w'=>e=.returned (.int .i64 (eU w H S (tS w m)))/\ab [] wr w'):=xq L S (tS w m) w _ I H z0 b wr B.out a0.out;have s:=pZ w H S (tS w m);obtain⟨x,Hx⟩:∃x,Hid (tS w m=x):=⟨_,rfl⟩
   rw[Hx.out]at u0 c aT s;clear Hx
   cases h1:(x.toList == [41])
   ·rw[QS (by rw[h1];simp)]at c
    go_upto_region 6 with (go_at_call 128;refine QT aT.out ?_;rintro e J ⟨rfl,k1⟩)
    have i:=hI (ag.out.Va k1);have d:=hI i.out.kept;have l:=hI (F.out.trans d.out);have o:=hI (fz.Va M.out d.out);have ai:=G.out J d.out;clear r0 r1 r2 r3 r4 f0 f1 f2 f3 f4 P;clear k1 c0 hb t0 t2 t3 t4 u0 u2 u3 u4 N;obtain⟨⟨r0,r1,r2,r3,r4⟩,⟨f0,f1,f2,f3,f4⟩,P⟩:=qq ai;obtain⟨c0,-,hb⟩:=o.out.cells;obtain⟨b4,e3,N,-,-,u2,u3,u4⟩:=o.out.t.2 m _ (iw w m (by omega))
    cases e3
    rcases s with s | ⟨j,hj,s⟩
    ·rw[s,QV (by omega)]at c
     rw[s];have U:Hid (jQ w H S v f=np 2 (Ev (w.getD m jf))):=c.out.symm;generalize w.getD m jf=tm at *;obtain⟨ms,mr,D,A,z⟩:=tm;simp only at u2 u3 u4;go_wp2;obtain⟨x0,u,C,x3,x4⟩:=fj ai (.slice none 0 0) (.int .i64 2) (.string D) (.int .i64 A) (.int .i64 z);exact QX (v:=.agg #[.slice none 0 0,.int .i64 2,.string D,.int .i64 A,.int .i64 z]) (by simp[results,results127,go_sem,x0,u,C,x3,x4]) rfl (by rw[U.out];exact gO rfl rfl (((((l.out.setCell (QU (by simp)) _).setCell (QU (by simp)) _).setCell (QU (by simp)) _).setCell (QU (by simp)) _).setCell (QU (by simp)) _))
    ·rw[s,QS (by omega),R9]at c
     rw[s];have ck:¬(j:Int)<0:=by omega
     have bw:=hI i.out.own.srcN;have aS:=i.out.le;have b5:R.length<=y.cap:=aS;clear aS;obtain⟨bg,a7⟩:=y;go_wp2
     go_loopg [13] R.length (fun bo kv wr=>∃q:Nat,q<=R.length/\bo=R.length-q/\kv=.int .i64 q/\Hid (∀p (hp:p<R.length),p<q->R[p]≠j)/\wr=J)
     case atStart=>exact⟨0,by omega,rfl,rfl,(fun p _ h=>by omega),rfl⟩
     case round =>
      obtain⟨q,hq,cc,rfl,bc,rfl⟩:=hrel
      by_cases be:q<R.length
      ·have b1:(q:Int)<(R.length:Int):=by omega
       obtain⟨gR,af,ct,cq⟩:=bw.out q R[q] (QO be);have ax:Hid (R[q]=j->R.contains j=true):=fun e=>by rw[TF,<-e];exact Ra be
       have b3:Hid (R[q]≠j->∀p (hp:p<R.length),p<q+1->R[p]≠j):=fun e p hp h2=>by
        by_cases e2:p=q
        ·subst e2;exact e
        ·exact bc.out p hp (by omega)
       generalize R[q]=rq at *;replace af:bg=some ⟨gR,0,none⟩:=af;subst af
       by_cases ac:rq=j
       ·subst ac
        rw[QV (ax.out rfl)]at c;have U:Hid (jQ w H S v f=np 3 (Ev (w.getD m jf))):=c.out.symm;generalize w.getD m jf=tm at *;obtain⟨ms,mr,D,A,z⟩:=tm;simp only at u2 u3 u4;go_wp2;obtain⟨x0,u,C,x3,x4⟩:=fj ai (.slice none 0 0) (.int .i64 3) (.string D) (.int .i64 A) (.int .i64 z);exact QX (v:=.agg #[.slice none 0 0,.int .i64 3,.string D,.int .i64 A,.int .i64 z]) (by simp[results,results127,go_sem,x0,u,C,x3,x4]) rfl (by rw[U.out];exact gO rfl rfl (((((l.out.setCell (QU (by simp)) _).setCell (QU (by simp)) _).setCell (QU (by simp)) _).setCell (QU (by simp)) _).setCell (QU (by simp)) _))
       ·have cs:((rq:Int)==(j:Int))=false:=by simpa using (fun e=>ac (by omega))
        have HM:=hI (b3.out ac);go_wp2
        go_roundg (R.length-(q+1))
        case measure=>omega
        case rel=>exact⟨q+1,by omega,rfl,by go_num,HM,rfl⟩
      ·have eq:q=R.length:=by omega
       rw[QS (by rw[Bo eq bc.out];simp)]at c;have b1:¬(q:Int)<(R.length:Int):=by omega
       have bT:=i.out.own;have bk:(bB R).n<=900000000:=by show R.length<=_;omega
       have ap:Hid (∀q∈R++[j],q<S):=fun q hq=>by
        rcases Rq.1 hq with h | h
        ·exact bj.out q h
        ·rw[Q8.1 h];exact hj
       have br:f-(m+1)=b2:=by omega
       go_wp2_with (at_builtin;refine bN _ rfl (.tmp 78) (.tmp 80) 26 rfl iN (.int .i64 0) 8 ⟨bg,a7⟩ (bB R) [.int .i64 (j:Int)] underlying26 az Q T V rfl Rb rfl bT bk (by omega) rfl rfl (by simp[Value.oneCell']) ?_;intro h6 w6 ad a6;rw[tj]at ad;have HA:=hI (i.out.grew a6 ad);clear ad a6)
       go_roundg (f-(m+1))
       case measure=>omega
       case rel=>exact⟨m+1,h6,R++[j],⟨by omega,by omega⟩,rfl,by simp[bB],by go_num,by simp;omega,ap,by rw[br];exact c,HA⟩
   ·rw[QV h1]at c
    have cz:((m:Int)==(f:Int))=false:=by simpa using (fun e:(m:Int)=(f:Int)=>by omega)
    have O:((m+1:Nat):Int)=(m:Int)+1:=by omega
    have al:=hI (Fh w (some ⟨gT,0,none⟩) I (m+1) f wr B.out.t bs (by omega) (by omega) ar.out);rw[O]at al
    go_upto_region 18 with (go_at_call 175;refine QT al.out ?_;rintro e J ⟨h2,rfl,u⟩)
    have k1:=u.kept;have b0:=hI (u.own.srcG NL);have i:=hI (ag.out.Va k1);have d:=hI i.out.kept;have l:=hI (F.out.trans d.out);have o:=hI (fz.Va M.out d.out);have Y:=hI (JT L S w (some ⟨gT,0,none⟩) I H z0 b R y.ao y.cap (eR w (m+1) f) h2.ao h2.cap (Ev (w.getD f jf)) J o.out a0.out i.out.own.srcN bj.out (by omega) b0.out (by have:=xf w ar.out (m+1) f;omega) (Mt w (m+1) f));have U:Hid (jQ w H S v f=j4 w H R (Ev (w.getD f jf)) (eR w (m+1) f)):=c.out.symm;generalize eR w (m+1) f=SP at *;clear r0 r1 r2 r3 r4 f0 f1 f2 f3 f4 P;clear c0 hb t0 t2 t3 t4 u0 u2 u3 u4 N u al;obtain⟨c0,-,hb⟩:=o.out.cells;obtain⟨b4,e3,N,-,-,t2,t3,t4⟩:=o.out.t.2 f _ (iw w f hz)
    cases e3
    generalize w.getD f jf=tm at *;obtain⟨ms,mr,D,A,z⟩:=tm;simp only at t2 t3 t4;unfold Ev at Y U;simp only at Y;generalize j4 w H R ⟨0,D,A,z⟩ SP=PF at *;obtain⟨K,pw,pf,pl,pc⟩:=PF;have bf:Hid (Calls prog 176 #[.pointer (some ⟨L,0,none⟩),.slice y.ao R.length y.cap,.slice h2.ao SP.length h2.cap,.agg #[.string D,.int .i64 A,.int .i64 z]] J fun e w'=>∃y,e=.returned (.agg #[.slice y.ao K.length y.cap,.int .i64 pw,.string pf,.int .i64 pl,.int .i64 pc])/\gw J w' y (eI K)):=Y.out;go_wp2_with (go_at_call 176;refine QT bf.out ?_;rintro e w2 ⟨h3,rfl,C⟩;have ba:=G.out w2 (d.out.trans C.kept);obtain⟨⟨r0,r1,r2,r3,r4⟩,⟨f0,f1,f2,f3,f4⟩,P⟩:=qq ba);obtain⟨y0,y1,y2,y3,y4⟩:=fj ba (.slice h3.ao K.length h3.cap) (.int .i64 pw) (.string pf) (.int .i64 pl) (.int .i64 pc);have E:Hid (∀q,h3.blk=some q->q≠n.heap.size):=fun q hq=>by have:=C.far q hq;have:=l.out.size;have:=ae (G.out J d.out);omega
    have bz:=hI (l.out.trans C.kept);exact QX (v:=.agg #[.slice h3.ao K.length h3.cap,.int .i64 pw,.string pf,.int .i64 pl,.int .i64 pc]) (by simp[results,results127,go_sem,y0,y1,y2,y3,y4]) rfl (by rw[U.out];exact⟨h3,rfl,⟨((((C.own.aside E.out _ _).aside E.out _ _).aside E.out _ _).aside E.out _ _).aside E.out _ _,fun q hq=>(by have:=C.far q hq;have:=l.out.size;omega),((((bz.out.setCell (QU (by simp)) _).setCell (QU (by simp)) _).setCell (QU (by simp)) _).setCell (QU (by simp)) _).setCell (QU (by simp)) _⟩⟩)
  ·have e:m=f:=by omega
   subst e;rw[RV,u9]at c;have U:Hid (jQ w H S v m=np 3 (Ev (w.getD m jf))):=c.out.symm;generalize w.getD m jf=tm at *;obtain⟨ms,mr,D,A,z⟩:=tm;simp only at t2 t3 t4;go_wp2;obtain⟨x0,u,C,x3,x4⟩:=fj BR (.slice none 0 0) (.int .i64 3) (.string D) (.int .i64 A) (.int .i64 z);exact QX (v:=.agg #[.slice none 0 0,.int .i64 3,.string D,.int .i64 A,.int .i64 z]) (by simp[results,results127,go_sem,x0,u,C,x3,x4]) rfl (by rw[U.out];exact gO rfl rfl (((((bp.out.setCell (QU (by simp)) _).setCell (QU (by simp)) _).setCell (QU (by simp)) _).setCell (QU (by simp)) _).setCell (QU (by simp)) _))
def m8(T:List Tk)(S:List Sm)(a zt:Nat):Nat->Nat->List dj->jS
 | 0,_,P=>if P.length=0 then np 1 (Ev (T.getD zt jf)) else⟨P,0,⟨#[]⟩,0,0⟩
 | n+1,i,P =>
  if((tS T i).toList == [63])=true then m8 T S a zt n (i+1) (P++[⟨-1,0,0,(T.getD i jf).file,(T.getD i jf).line,(T.getD i jf).col⟩])
  else if eU T S a (tS T i)<0 then np 2 (Ev (T.getD i jf))
  else m8 T S a zt n (i+1) (P++[⟨eU T S a (tS T i),0,iD T S (eU T S a (tS T i)),(T.getD i jf).file,(T.getD i jf).line,(T.getD i jf).col⟩])
def fU(T:List Tk)(S:List Sm)(a e zt:Nat):jS:=if((tS T (e+1)).toList == [40])=true then jQ T S a (e+2) zt else m8 T S a zt (zt-(e+1)) (e+1) []
structure Ok(w wr:World)(P:List dj)(h:Hd):Prop where
 r:wr.heap[w.heap.size]?=some (.cells #[.slice none 0 0,.int .i64 0,.string ⟨#[]⟩,.int .i64 0,.int .i64 0] 122 (0,0))
 p:wr.heap[w.heap.size+1]?=some (.cells #[.slice h.ao P.length h.cap,.int .i64 0,.string ⟨#[]⟩,.int .i64 0,.int .i64 0] 122 (0,0))
 op:aw wr h (eI P)
 fp:∀k,h.blk=some k->w.heap.size+1<k
 kept:ab [] w wr
theorem Ok.Va{P:List dj}(b:Ok l y P k)(c:ab [] y a):Ok l a P k:=⟨c.get b.r (by simp),c.get b.p (by simp),b.op.Va c,b.fp,b.kept.trans c⟩
theorem Ok.addP{P f:List dj}(b:Ok l y P k)(g:bt y a k o)(s:aw a o (eI f)){m:Nat}(i:m=f.length):Ok l (a.setCell ⟨l.heap.size+1,0,none⟩ (.slice o.ao m o.cap)) f o:=by
 subst i;have n:∀q,q<=l.heap.size+1->q∉k.blk.toList:=fun q c i=>by have:=b.fp q (aN i);omega
 have x:=ae b.p;have w:=g.kept.get b.r (n _ (by omega));have v:=g.kept.get b.p (n _ (by omega))
 have d:∀h,o.blk=some h->l.heap.size+1<h:=fun h j=>by
  rcases g.blk with e | ⟨q,e,c⟩
  ·exact b.fp h (by rw[<-e];exact j)
  ·rw[e]at j;cases j;omega
 have t:ab [l.heap.size+1] a (a.setCell ⟨l.heap.size+1,0,none⟩ (.slice o.ao f.length o.cap)):=(ab.refl _ _).setCell (Q0 (by simp)) _;have u:ab [] l a:=pJ g.kept (fun q c=>by have:=b.fp q (aN c);omega) b.kept;exact⟨t.get w (by simp),by rw[ah v];rfl,s.Vf (fun q c=>t.block q (s.lt c) (by simp;have:=d q c;omega)),d,u.setCell (QU (by simp)) _⟩
theorem DP(hD:fz n L w g I H z0 b)(ok:nJ w H S)(hn:S<H.length)(hE:cU w (au H S).h)(hO:dC w)(bs:(au H S).h<=v)(cA:((tS w v).toList == [36,61])=true)(a5:∀q,(au H S).h<=q->q<v->((tS w q).toList == [36,61])=false)(b5:(au H S).z=f+1)(cx:v<f)(bg:f<w.length)(Q:((tS w f).toList == [36,46])=true) :
  Calls prog 88 #[.pointer (some ⟨L,0,none⟩),.int .i64 S] n fun en w'=>oj n (fU w H S v f) en w':=by
 obtain⟨W,HW⟩:∃W,Hid (n.alloc (.cells #[.slice none 0 0,.int .i64 0,.string ⟨#[]⟩,.int .i64 0,.int .i64 0] 122)=W):=⟨_,rfl⟩
 have BW:W.heap[n.heap.size]?=some (.cells #[.slice none 0 0,.int .i64 0,.string ⟨#[]⟩,.int .i64 0,.int .i64 0] 122 (0,0)):=by rw[<-HW.out];exact QR _ _
 have ap:Hid (ab [] n W):=by show ab [] n W;rw[<-HW.out];exact(ab.refl [] _).alloc _
 have bp:W.heap.size=n.heap.size+1:=by rw[<-HW.out];simp
 have M:=hI (hD.Va ap.out);have Z:=hI hD;have aS:=hI ok;have bk:=hI hO;have co:=ok.tm;have cy:=ok.sm;have cc:(S:Int)<(H.length:Int):=by omega
 have HB:=hI BW;have be:=hI a5;have bv:=hI hE;obtain⟨iP,a4,ag,ai,an⟩:=Rd Lv;obtain⟨c0,c1,hb⟩:=M.out.cells;obtain⟨gS,rfl,b6,-,q1,q2,-⟩:=M.out.s.2 S H[S] (QO hn);rw[bM H S hn]at q1 q2;rw[b5]at q1;obtain⟨gT,rfl,l,-⟩:=M.out.t.2 v _ (iw w v (by omega));obtain⟨hd,a3⟩:∃hd,Hid ((au H S).h=hd):=⟨_,rfl⟩
 rw[a3.out]at q2 bs be;clear hD ok hO a5 hE a3;have b3:((f+1:Nat):Int)=(f:Int)+1:=by omega
 rw[b3]at q1;go_enter func88,ntmps88
 go_upto_region 1 with fail
 rw[HW.out];go_wp2
 go_loopg [5] (v-hd) (fun bl i wr=>∃k:Nat,(hd<=k/\k<=v)/\bl=v-k/\i=.int .i64 k/\wr=W)
 case atStart=>exact⟨hd,⟨by omega,by omega⟩,rfl,rfl,rfl⟩
 case round =>
  obtain⟨k,⟨br,cp⟩,hg,rfl,rfl⟩:=hrel;have ch:(k:Int)<(w.length:Int):=by omega
  obtain⟨cb,e2,-,t0,-⟩:=M.out.t.2 k _ (iw w k (by omega))
  cases e2
  replace t0:wr.cell? ⟨gT,k*5,none⟩=some (.string (tS w k)):=t0
  by_cases bf:k<v
  ·have hx:=be.out k br bf
   generalize tS w k=x at *;go_wp2
   go_roundg (v-(k+1))
   case measure=>omega
   case rel=>exact⟨k+1,⟨by omega,by omega⟩,rfl,by go_num,rfl⟩
  ·have ek:k=v:=by omega
   subst ek;obtain⟨cz,e3,-,F,-⟩:=M.out.t.2 (k+1) _ (iw w (k+1) (by omega))
   cases e3
   replace F:wr.cell? ⟨gT,(k+1)*5,none⟩=some (.string (tS w (k+1))):=F;have ca:(k:Int)+1<(w.length:Int):=by omega
   have bc:Hid (((tS w (k+1)).toList == [40])=true->Calls prog 127 #[.pointer (some ⟨L,0,none⟩),.int .i64 S,.int .i64 ((k:Int)+1+1),.int .i64 f] wr fun en w'=>oj wr (jQ w H S (k+2) f) en w'):=fun h=>by
    have cq:k+1≠f:=fun v=>by
     rw[<-v]at Q;have a1:(tS w (k+1)).toList=[40]:=by simpa using h
     rw[a1]at Q;exact absurd Q (by decide)
    have:=EK L S (k+2) f w _ I H _ b wr M.out aS.out hn bv.out bk.out (by omega) bg;rw[show((k+2:Nat):Int)=(k:Int)+1+1 by omega]at this;exact this
   have V:Hid (fU w H S k f=if((tS w (k+1)).toList == [40])=true then jQ w H S (k+2) f else m8 w H S f (f-(k+1)) (k+1) []):=rfl;obtain⟨x,Hx⟩:∃x,Hid (tS w (k+1)=x):=⟨_,rfl⟩
   rw[Hx.out]at F bc V;generalize tS w k=y at *
   cases hx:(x.toList == [40])
   ·rw[QS (by rw[hx];simp)]at V
    have S0:Hid (Ok n (wr.alloc (.cells #[.slice none 0 0,.int .i64 0,.string ⟨#[]⟩,.int .i64 0,.int .i64 0] 122)) [] ⟨none,0⟩):=⟨((ab.refl [] _).alloc _).get HB.out (by simp),by rw[<-bp];exact QR _ _,QY _ _ _ _,(by intro k hk;cases hk),ap.out.alloc _⟩;have bx:Hid (m8 w H S f (f-(k+1)) (k+1) []=fU w H S k f):=V.out.symm;go_wp2
    go_loopg [8] (f-(k+1)) (fun bl i w1=>∃(m:Nat) (h:Hd) (P:List dj),(k+1<=m/\m<=f)/\bl=f-m/\i=.int .i64 m/\P.length<=m/\Hid (m8 w H S f (f-m) m P=fU w H S k f)/\Hid (Ok n w1 P h))
    case atStart=>exact⟨k+1,⟨none,0⟩,[],⟨by omega,by omega⟩,rfl,by go_num,Rn _,bx,S0⟩
    case round =>
     obtain⟨m,h,P,⟨ct,cu⟩,cf,rfl,cj,c,d⟩:=hrel;have ar:=hI d.out.kept;have ac:=hI (fz.Va Z.out ar.out);clear c0 c1 hb q1 q2 b6 l t0 F;obtain⟨c0,-,hb⟩:=ac.out.cells
     by_cases cl:m<f
     ·have bT:(m:Int)<(f:Int):=by omega
      have bd:(m:Int)<(w.length:Int):=by omega
      obtain⟨ck,e4,l,F,-⟩:=ac.out.t.2 m _ (iw w m (by omega))
      cases e4
      replace F:wr.cell? ⟨gT,m*5,none⟩=some (.string (tS w m)):=F;obtain⟨b4,hf⟩:∃b4,f-m=b4+1:=⟨f-m-1,by omega⟩
      have a6:f-(m+1)=b4:=by omega
      rw[hf,m8]at c;have ax:Hid (Calls prog 128 #[.pointer (some ⟨L,0,none⟩),.int .i64 S,.string (tS w m)] wr fun v w'=>v=.returned (.int .i64 (eU w H S (tS w m)))/\ab [] wr w'):=xq L S (tS w m) w _ I H _ b wr ac.out aS.out;have B:=pZ w H S (tS w m);obtain⟨az,Hv⟩:∃az,Hid (tS w m=az):=⟨_,rfl⟩
      rw[Hv.out]at F c ax B
      go_upto_region 13 with (go_at_call 128;refine QT ax.out ?_;rintro v w1 ⟨rfl,k1⟩)
      have J:=hI (d.out.Va k1);have al:=hI J.out.kept;have T:=hI (fz.Va Z.out al.out);have N:=J.out.r;clear k1 c0 hb F l ax;obtain⟨c0,-,hb⟩:=T.out.cells;obtain⟨bj,e5,l,F,-,u2,Y,u4⟩:=T.out.t.2 m _ (iw w m (by omega))
      cases e5
      replace F:w1.cell? ⟨gT,m*5,none⟩=some (.string (tS w m)):=F;rw[Hv.out]at F
      cases G:(az.toList == [63])
      ·rw[QS (by rw[G];simp)]at c
       rcases B with B | ⟨j,hj,B⟩
       ·rw[B,QV (by omega)]at c
        rw[B];have HX:Hid (fU w H S k f=np 2 (Ev (w.getD m jf))):=c.out.symm;generalize w.getD m jf=tm at *;obtain⟨ms,mr,A,u,o⟩:=tm;simp only at u2 Y u4;obtain⟨⟨r0,r1,r2,r3,r4⟩,⟨f0,f1,f2,f3,f4⟩,ba⟩:=qq N;go_wp2;obtain⟨x0,x1,R,x3,x4⟩:=fj N (.slice none 0 0) (.int .i64 2) (.string A) (.int .i64 u) (.int .i64 o);exact QX (v:=.agg #[.slice none 0 0,.int .i64 2,.string A,.int .i64 u,.int .i64 o]) (by simp[results,results88,go_sem,x0,x1,R,x3,x4]) rfl (by rw[HX.out];exact gO rfl rfl (((((al.out.setCell (QU (by simp)) _).setCell (QU (by simp)) _).setCell (QU (by simp)) _).setCell (QU (by simp)) _).setCell (QU (by simp)) _))
       ·rw[B,QS (by omega)]at c
        rw[B];have cs:¬(j:Int)<0:=by omega
        have K:=hI (yP L S j w _ I H _ b w1 T.out aS.out hj);generalize iD w H (j:Int)=nd at *
        go_upto_region 18 with (go_at_call 129;refine QT K.out ?_;rintro v w2 ⟨rfl,k2⟩)
        have a:=hI (J.out.Va k2);have C:=hI (fz.Va Z.out a.out.kept);clear c0 hb F u2 Y u4 l k2 K;obtain⟨c0,-,hb⟩:=C.out.cells;obtain⟨b1,e6,l,-,-,u2,Y,u4⟩:=C.out.t.2 m _ (iw w m (by omega))
        cases e6
        generalize w.getD m jf=tm at *;obtain⟨ms,mr,A,u,o⟩:=tm;simp only at u2 Y u4;have p0:w2.cell? ⟨n.heap.size+1,0,none⟩=some (.slice h.ao P.length h.cap):=by rw[aa a.out.p];rfl
        have p1:=am a.out.p 0;have p2:=ae a.out.p;have U:=a.out.op;have a0:Hid ((eI P).n<=900000000):=by show P.length<=_;omega
        have aT:Hid ((eI P).n=P.length):=rfl
        go_region_law (refine bH w2 rfl (.tmp 97) (.tmp 109) 120 rfl iP (.agg #[.int .i64 0,.int .i64 0,.int .i64 0,.string ⟨#[]⟩,.int .i64 0,.int .i64 0]) 56 h (eI P) [.int .i64 (j:Int),.int .i64 0,.int .i64 (nd:Int),.string A,.int .i64 u,.int .i64 o] underlying120 a4 ag ai an rfl (show 0<6 by omega) (by rw[aT.out];simp[Act.eval]) U a0.out (by omega) (by simp[Act.eval]) rfl (tA (⟨(j:Int),0,nd,A,u,o⟩:dj)) ?_;intro a2 O w5 D E;have X:=E.kept.get a.out.p (fun G=>by have:=a.out.fp _ (aN G);omega);have f5:=am X 0;have c5:w5.cell? ⟨n.heap.size+1,0,none⟩=some (.slice h.ao P.length h.cap):=(by rw[aa X];rfl);have z5:=ae X)
        all_goals
         rw[show([.int .i64 (j:Int),.int .i64 0,.int .i64 (nd:Int),.string A,.int .i64 u,.int .i64 o]:List Value)=kU (⟨(j:Int),0,nd,A,u,o⟩:dj) from rfl,mJ]at D;have HA:=hI (a.out.addP (m:=(eI P).n+1) E D (by simp[eI,kT]));clear D E X f5 c5 z5;go_wp2
         go_roundg (f-(m+1))
         case measure=>omega
         case rel=>exact⟨m+1,⟨a2,O⟩,P++[(⟨(j:Int),0,nd,A,u,o⟩:dj)],⟨by omega,by omega⟩,rfl,by go_num,by simp;omega,by rw[a6];exact c,HA⟩
      ·rw[QV G]at c
       have K:=hI (IU (.pointer (some ⟨L,0,none⟩)) w H w1);have b0:Hid (iD w H (-1)=0):=rfl;rw[b0.out]at K
       go_upto_region 18 with (go_at_call 129;refine QT K.out ?_;rintro v w2 ⟨rfl,k2⟩)
       have a:=hI (J.out.Va k2);have C:=hI (fz.Va Z.out a.out.kept);clear c0 hb F u2 Y u4 l k2 K;obtain⟨c0,-,hb⟩:=C.out.cells;obtain⟨b1,e6,l,-,-,u2,Y,u4⟩:=C.out.t.2 m _ (iw w m (by omega))
       cases e6
       generalize w.getD m jf=tm at *;obtain⟨ms,mr,A,u,o⟩:=tm;simp only at u2 Y u4;have p0:w2.cell? ⟨n.heap.size+1,0,none⟩=some (.slice h.ao P.length h.cap):=by rw[aa a.out.p];rfl
       have p1:=am a.out.p 0;have p2:=ae a.out.p;have U:=a.out.op;have a0:Hid ((eI P).n<=900000000):=by show P.length<=_;omega
       have aT:Hid ((eI P).n=P.length):=rfl
       go_region_law (refine bH w2 rfl (.tmp 97) (.tmp 109) 120 rfl iP (.agg #[.int .i64 0,.int .i64 0,.int .i64 0,.string ⟨#[]⟩,.int .i64 0,.int .i64 0]) 56 h (eI P) [.int .i64 (-1),.int .i64 0,.int .i64 0,.string A,.int .i64 u,.int .i64 o] underlying120 a4 ag ai an rfl (show 0<6 by omega) (by rw[aT.out];simp[Act.eval]) U a0.out (by omega) (by simp[Act.eval]) rfl (tA (⟨(-1),0,0,A,u,o⟩:dj)) ?_;intro a2 O w5 D E;have X:=E.kept.get a.out.p (fun G=>by have:=a.out.fp _ (aN G);omega);have f5:=am X 0;have c5:w5.cell? ⟨n.heap.size+1,0,none⟩=some (.slice h.ao P.length h.cap):=(by rw[aa X];rfl);have z5:=ae X)
       all_goals
        rw[show([.int .i64 (-1),.int .i64 0,.int .i64 0,.string A,.int .i64 u,.int .i64 o]:List Value)=kU (⟨(-1),0,0,A,u,o⟩:dj) from rfl,mJ]at D;have HA:=hI (a.out.addP (m:=(eI P).n+1) E D (by simp[eI,kT]));clear D E X f5 c5 z5;go_wp2
        go_roundg (f-(m+1))
        case measure=>omega
        case rel=>exact⟨m+1,⟨a2,O⟩,P++[(⟨(-1),0,0,A,u,o⟩:dj)],⟨by omega,by omega⟩,rfl,by go_num,by simp;omega,by rw[a6];exact c,HA⟩
     ·have em:m=f:=by omega
      subst em;rw[RV,m8]at c;have bT:¬(m:Int)<(m:Int):=by omega
      have bd:(m:Int)<(w.length:Int):=by omega
      obtain⟨bj,e5,l,-,-,u2,Y,u4⟩:=ac.out.t.2 m _ (iw w m (by omega))
      cases e5
      have N:=d.out.r;obtain⟨⟨r0,r1,r2,r3,r4⟩,⟨f0,f1,f2,f3,f4⟩,ba⟩:=qq N;have p0:wr.cell? ⟨n.heap.size+1,0,none⟩=some (.slice h.ao P.length h.cap):=by rw[aa d.out.p];rfl
      have p1:wr.cell? ⟨n.heap.size+1,1,none⟩=some (.int .i64 0):=by rw[aa d.out.p];rfl
      have p2:wr.cell? ⟨n.heap.size+1,2,none⟩=some (.string ⟨#[]⟩):=by rw[aa d.out.p];rfl
      have p3:wr.cell? ⟨n.heap.size+1,3,none⟩=some (.int .i64 0):=by rw[aa d.out.p];rfl
      have p4:wr.cell? ⟨n.heap.size+1,4,none⟩=some (.int .i64 0):=by rw[aa d.out.p];rfl
      have X:=ae d.out.p
      by_cases af:P.length=0
      ·rw[QV af]at c
       have HX:Hid (fU w H S k m=np 1 (Ev (w.getD m jf))):=c.out.symm;have bw:((P.length:Int)==0)=true:=by simpa using af
       generalize w.getD m jf=tm at *;obtain⟨ms,mr,A,u,o⟩:=tm;simp only at u2 Y u4;go_wp2;obtain⟨x0,x1,R,x3,x4⟩:=fj N (.slice none 0 0) (.int .i64 1) (.string A) (.int .i64 u) (.int .i64 o);exact QX (v:=.agg #[.slice none 0 0,.int .i64 1,.string A,.int .i64 u,.int .i64 o]) (by simp[results,results88,go_sem,x0,x1,R,x3,x4]) rfl (by rw[HX.out];exact gO rfl rfl (((((ar.out.setCell (QU (by simp)) _).setCell (QU (by simp)) _).setCell (QU (by simp)) _).setCell (QU (by simp)) _).setCell (QU (by simp)) _))
      ·rw[QS af]at c
       have HX:Hid (fU w H S k m=⟨P,0,⟨#[]⟩,0,0⟩):=c.out.symm;have bw:((P.length:Int)==0)=false:=by simpa using af
       have e:Hid (∀q,h.blk=some q->q≠n.heap.size):=fun q G=>by have:=d.out.fp q G;omega
       go_wp2;obtain⟨x0,x1,R,x3,x4⟩:=fj N (.slice h.ao P.length h.cap) (.int .i64 0) (.string ⟨#[]⟩) (.int .i64 0) (.int .i64 0);exact QX (v:=.agg #[.slice h.ao P.length h.cap,.int .i64 0,.string ⟨#[]⟩,.int .i64 0,.int .i64 0]) (by simp[results,results88,go_sem,x0,x1,R,x3,x4]) rfl (by rw[HX.out];exact⟨h,rfl,⟨((((d.out.op.aside e.out _ _).aside e.out _ _).aside e.out _ _).aside e.out _ _).aside e.out _ _,fun q G=>(by have:=d.out.fp q G;omega),((((ar.out.setCell (QU (by simp)) _).setCell (QU (by simp)) _).setCell (QU (by simp)) _).setCell (QU (by simp)) _).setCell (QU (by simp)) _⟩⟩)
   ·rw[QV hx]at V
    have b2:=hI (bc.out hx);generalize jQ w H S (k+2) f=PF at *;obtain⟨ad,pw,pf,pl,pc⟩:=PF;have bo:Hid (Calls prog 127 #[.pointer (some ⟨L,0,none⟩),.int .i64 S,.int .i64 ((k:Int)+1+1),.int .i64 f] wr fun en w'=>∃h',en=.returned (.agg #[.slice h'.ao ad.length h'.cap,.int .i64 pw,.string pf,.int .i64 pl,.int .i64 pc])/\gw wr w' h' (eI ad)):=b2.out;go_wp2_with (go_at_call 127;refine QT bo.out ?_;rintro en w2 ⟨h3,rfl,R⟩;have a7:=R.kept.get HB.out (by simp);obtain⟨⟨r0,r1,r2,r3,r4⟩,⟨f0,f1,f2,f3,f4⟩,ba⟩:=qq a7);obtain⟨y0,y1,y2,y3,y4⟩:=fj a7 (.slice h3.ao ad.length h3.cap) (.int .i64 pw) (.string pf) (.int .i64 pl) (.int .i64 pc);have e:Hid (∀q,h3.blk=some q->q≠n.heap.size):=fun q G=>by have:=R.far q G;omega
    have bz:=hI (ap.out.trans R.kept);exact QX (v:=.agg #[.slice h3.ao ad.length h3.cap,.int .i64 pw,.string pf,.int .i64 pl,.int .i64 pc]) (by simp[results,results88,go_sem,y0,y1,y2,y3,y4]) rfl (by rw[V.out];exact⟨h3,rfl,⟨((((R.own.aside e.out _ _).aside e.out _ _).aside e.out _ _).aside e.out _ _).aside e.out _ _,fun q G=>(by have:=R.far q G;omega),((((bz.out.setCell (QU (by simp)) _).setCell (QU (by simp)) _).setCell (QU (by simp)) _).setCell (QU (by simp)) _).setCell (QU (by simp)) _⟩⟩)
end Go.Proofs.YtpddjjabfbfifaaGreat
