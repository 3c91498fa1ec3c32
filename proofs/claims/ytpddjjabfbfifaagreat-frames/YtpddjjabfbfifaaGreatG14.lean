import Derived.Laws.IdiomStrings
import Derived.Deep.RegionLaw
import Derived.Test.YtpddjjabfbfifaaGreatG13
namespace Go.Proofs.YtpddjjabfbfifaaGreat
open Go.RowKit Tryz
set_option maxRecDepth 100000
set_option maxHeartbeats 40000000
variable{z4:ByteArray}{T M:Nat}{l y a:World}{z7:Option Addr}{k o N:Hd}{i:List Nat}{z6:dN}(L S v f:Nat)(w:List Tk)(g:Option Addr)(I:Nat)(H:List Sm)(d:Nat)(z0:Option Addr)(D:ByteArray)(b:Nat)(n:World)(x:List Nat)
def O9(m:Nat):ByteArray:=⟨#[UInt8.ofNat (65+m % 20)]⟩
def IE(m:Nat):ByteArray:=⟨#[UInt8.ofNat (85+m % 5)]⟩
def yM:Nat->Nat->ByteArray->ByteArray
 | 0,_,s=>s
 | f+1,h,s=>if 0<h then yM f ((h-1) / 5) (IE (h-1)++s) else s
def mC(m:Nat):ByteArray:=yM (m+1) (m / 20) (O9 m)
theorem ID:(convert 312 9 (.slice (some ⟨n.heap.size,0,none⟩) 1 1)).run prog (n.alloc (.cells #[.int .u8 (65+(b:Int) % 20)] 5))=.ok (.string (O9 b)) (n.alloc (.cells #[.int .u8 (65+(b:Int) % 20)] 5)):=by
 have e:(65+(b:Int) % 20)=((UInt8.ofNat (65+b % 20)).toNat:Int):=by
  rw[UInt8.toNat_ofNat'];omega
 rw[e]
 exact Uh (n.alloc (.cells #[.int .u8 ((UInt8.ofNat (65+b % 20)).toNat:Int)] 5)) 312 9 5 ⟨n.heap.size,0,none⟩ 1 [UInt8.ofNat (65+b % 20)] underlying312 underlying5 underlying9 (by
  intro j a
  match j,a with
  | 0,_=>simp[Addr.add])
theorem IF:(convert 312 9 (.slice (some ⟨n.heap.size,0,none⟩) 1 1)).run prog (n.alloc (.cells #[.int .u8 (85+(b:Int) % 5)] 5))=.ok (.string (IE b)) (n.alloc (.cells #[.int .u8 (85+(b:Int) % 5)] 5)):=by
 have e:(85+(b:Int) % 5)=((UInt8.ofNat (85+b % 5)).toNat:Int):=by
  rw[UInt8.toNat_ofNat'];omega
 rw[e]
 exact Uh (n.alloc (.cells #[.int .u8 ((UInt8.ofNat (85+b % 5)).toNat:Int)] 5)) 312 9 5 ⟨n.heap.size,0,none⟩ 1 [UInt8.ofNat (85+b % 5)] underlying312 underlying5 underlying9 (by
  intro j a
  match j,a with
  | 0,_=>simp[Addr.add])
theorem Eq:yM d 0 D=D:=by cases d <;> rfl
theorem Cj(w:b<=1000000000) :
  Calls prog 240 #[.int .i64 ((b:Int)+1)] n fun e r=>e=.returned (.string (mC b))/\ab [] n r:=by
 have a:=fun j=>ID b j
 have c:0<=(b:Int) % 20/\(b:Int) % 20<=19:=by omega
 go_enter func240,ntmps240;go_wp2
 go_loopg [3,4] (b / 20) (fun g u v wr=>∃(f h:Nat) (s:ByteArray),g=h/\v=.int .i64 h/\u=.string s/\h<=f/\h<=1000000000/\s.size+f<=1000000003/\Hid (yM f h s=mC b)/\Hid (ab [] n wr))
 case atStart=>exact⟨b+1,b / 20,O9 b,rfl,by simp,rfl,by omega,by omega,(by show 1+_<=_;omega),rfl,(ab.refl _ _).alloc _⟩
 case round =>
  obtain⟨f,h,s,A,rfl,rfl,y,z,x,o,m⟩:=hrel;clear a c
  cases h with
  | zero =>
   have k:Hid (s=mC b):=by show _=_;rw[<-o.out,Eq]
   go_wp2;go_ret;exact⟨by rw[<-k.out];rfl,m.out⟩
  | succ q =>
   obtain⟨d,rfl⟩:∃d,f=d+1:=⟨f-1,by omega⟩
   have a:=fun j=>IF q j
   have t:0<=(q:Int) % 5/\(q:Int) % 5<=4:=by omega
   have p:(0:Int)<(q:Int)+1:=by omega
   have k:Hid (yM d (q / 5) (IE q++s)=mC b):=by
    show _=_
    rw[<-o.out,yM,QW (by omega),SD]
   have l:(IE q).size=1:=rfl;have i:Hid ((IE q++s).size=1+s.size):=by show _=_;rw[Sd,l]
   go_wp2
   go_roundg (q / 5)
   case measure=>omega
   case rel=>exact⟨d,q / 5,IE q++s,rfl,by simp,rfl,by omega,by omega,by have:=i.out;omega,k,m.out.alloc _⟩
def An(s:ByteArray)(i:Nat):Bool:=((mC i).toList==s.toList)
def iO(s:ByteArray)(top:Nat):Nat:=match (List.range top).find? (An s) with
 | some i=>i+1
 | none=>0
theorem EK(a:M<T)(h:An z4 M=true)(c:∀j,j<M->An z4 j=false):iO z4 T=M+1:=by
 have e:(List.range T).find? (An z4)=some M:=by
  rw[Sj];exact⟨h,Ra.2 a,fun j b=>by rw[c j b];rfl⟩
 unfold iO;rw[e]
theorem I9(b:∀j,j<T->An z4 j=false):iO z4 T=0:=by
 have e:(List.range T).find? (An z4)=none:=by
  rw[Sk];intro j a;rw[b j (Ra.1 a)];simp
 unfold iO;rw[e]
theorem EJ(w:b<=1000000000) :
  Calls prog 213 #[.string D,.int .i64 b] n fun e r=>e=.returned (.int .i64 (iO D b:Nat))/\ab [] n r:=by
 go_enter func213,ntmps213;go_wp2
 go_loopg [5] b (fun g i wr=>∃k:Nat,k<=b/\g=b-k/\i=.int .i64 ((k:Int)+1)/\Hid (∀j,j<k->An D j=false)/\Hid (ab [] n wr))
 case atStart=>exact⟨0,by omega,rfl,by simp,(fun j u=>by omega),ab.refl _ _⟩
 case round =>
  obtain⟨k,v,x,rfl,m,h⟩:=hrel
  by_cases f:k<b
  ·have l:(k:Int)+1<=(b:Int):=by omega
   have q:=hI (Cj k wr (by omega));have o:Hid (An D k=((mC k).toList==D.toList)):=rfl;generalize mC k=t at *
   cases p:(t.toList==D.toList)
   ·have d:=hI (dU m.out (by rw[o.out,p]))
    go_wp2_with (go_at_call 240;refine QU q.out ?_;rintro e s ⟨rfl,c⟩;have a:=hI (h.out.trans c);clear c)
    go_roundg (b-(k+1))
    case measure=>omega
    case rel=>exact⟨k+1,by omega,rfl,by go_num,d,a⟩
   ·have d:Hid (iO D b=k+1):=EK f (by rw[o.out,p]) m.out
    go_wp2_with (go_at_call 240;refine QU q.out ?_;rintro e s ⟨rfl,c⟩;have a:=hI (h.out.trans c);clear c);go_ret;exact⟨by rw[d.out];rfl,a.out⟩
  ·have d:Hid (iO D b=0):=I9 (fun j u=>m.out j (by omega))
   have l:¬(k:Int)+1<=(b:Int):=by omega
   go_wp2;go_ret;exact⟨by rw[d.out];rfl,h.out⟩
def kU{α:Type}(e s:Nat)(f:α->List Value)(L:List α):dN:=⟨e,s,L.length,L.flatMap f⟩
theorem N6{α:Type}{f:α->List Value}(b:∀x,(f x).length=T)(L:List α)(j:Nat)(t:α)(h:L[j]?=some t)(c:Nat)(e:c<T):(L.flatMap f)[j*T+c]?=(f t)[c]?:=by
 induction L generalizing j with
 | nil=>cases h
 | cons a L d =>
  rw[RI]
  cases j with
  | zero =>
   simp at h;subst h;rw[Q7 (by rw[b];omega)];simp
  | succ j =>
   rw[Q5 (by rw[b,Nat.succ_mul];omega),show(j+1)*T+c-(f a).length=j*T+c by rw[b,Nat.succ_mul];omega];exact d j (by simpa using h)
theorem gM{α:Type}(f:α->List Value)(L:List α)(x:α):(⟨(kU d b f L).e,(kU d b f L).size,(kU d b f L).n+1,(kU d b f L).xs++f x⟩:dN)=kU d b f (L++[x]):=by
 simp[kU]
def cm{α:Type}(w:World)(ao:Option Addr)(s:Nat)(f:α->List Value)(L:List α):Prop:=∀(k:Nat) (x:α),L[k]?=some x->∃g,ao=some ⟨g,0,none⟩/\g<w.heap.size/\∀(c:Nat) (u:Value),(f x)[c]?=some u->w.cell? ⟨g,k*s+c,none⟩=some u
theorem cm.Vb{α:Type}{f:α->List Value}{L:List α}(h:cm l z7 T f L)(k:ab [] l y):cm y z7 T f L:=by
 intro j x d;obtain⟨g,e,a,i⟩:=h j x d;exact⟨g,e,QX a k.size,fun c u b=>by rw[Q6 (k.block g a (by simp))];exact i c u b⟩
theorem aw.srcG{α:Type}{f:α->List Value}{L:List α}(o:aw l k (kU T M f L))(h:∀x,(f x).length=M):cm l k.ao M f L:=by
 intro a x e;have m:=(Q8.1 e).1;obtain⟨g,b,i,-⟩:=qq o (show 0<L.length by omega);refine⟨g,b,i,fun c u d=>o.cell b (a*M+c) u ?_⟩;have j:c<M:=by rw[<-h x];exact(Q8.1 d).1
 show(L.flatMap f)[a*M+c]?=some u
 rw[N6 h L a x e c j];exact d
structure Lt where
 c:Int
 file:ByteArray
 line:Int
 col:Int
def Qe(l:Lt):List Value:=[.int .u8 l.c,.string l.file,.int .i64 l.line,.int .i64 l.col]
theorem NM(l:Lt):(Qe l).length=4:=rfl
def uN(L:List Lt):dN:=kU 311 4 Qe L
theorem OV:(prog.info? 311).map (fun i=>(i.zero,i.size,i.bytes))=some (some (.agg #[.int .u8 0,.string ⟨#[]⟩,.int .i64 0,.int .i64 0]),4,40):=by kernel_rfl
def dC(T:List Tk):Prop:=∀t∈T,t.s.size<=1024/\0<=t.col/\t.col<=10000
def IL(t:Tk)(k:Nat):Lt:=⟨aF t.s k,t.file,t.line,t.col+k⟩
def um(t:Tk):List Lt:=(List.range t.s.size).map (IL t)
def eR(T:List Tk)(a z:Nat):List Lt:=((T.drop a).take (z-a)).flatMap um
theorem C3(f:d<=b)(g:b<w.length):eR w d (b+1)=eR w d b++um w[b]:=by
 unfold eR;have e:b+1-d=(b-d)+1:=by omega
 have a:b-d<(w.drop d).length:=by rw[RT];omega
 rw[e,RG a,Sh];have c:(w.drop d)[b-d]=w[b]:=by rw[TI];congr 1;omega
 rw[c];simp
theorem JN(t:Tk)(k:Nat)(h:k<t.s.size):(um t).take (k+1)=(um t).take k++[IL t k]:=by
 unfold um;rw[RG (by simpa using h)];simp
theorem Fj(T:lj n g I w)(hl:w.length<=10000)(ha:d<=b)(hz:b<=w.length)(hO:dC w) :
  Calls prog 175 #[.slice g w.length I,.int .i64 d,.int .i64 b] n fun e f=>∃r,e=.returned (.slice r.ao (eR w d b).length r.cap)/\gw n f r (uN (eR w d b)):=by
 have ar:=T.1;have HT:=hI T;have ai:Hid (gw n n ⟨none,0⟩ (uN [])):=⟨QZ _ _ _ _,(by intro k hk;cases hk),ab.refl _ _⟩;obtain⟨iL,Y,E,K,L⟩:=Re OV;have ad:Hid (([]:List Lt)=eR w d d):=by show _=_;unfold eR;simp
 clear T;go_enter func175,ntmps175;go_wp2
 go_loopg [7,8] (b-d) (fun R o i wr=>∃(k:Nat) (r:Hd) (O:List Lt),(d<=k/\k<=b)/\R=b-k/\o=.slice r.ao O.length r.cap/\i=.int .i64 k/\O.length<=1024*k/\Hid (O=eR w d k)/\Hid (gw n wr r (uN O)))
 case atStart=>exact⟨d,⟨none,0⟩,[],⟨by omega,by omega⟩,rfl,rfl,rfl,by simp,ad,ai⟩
 case round =>
  obtain⟨k,r,O,⟨ag,ax⟩,hg,rfl,rfl,az,HE,HW⟩:=hrel
  by_cases a1:k<b
  ·have v:k<w.length:=by omega
   have a2:(k:Int)<(b:Int):=by omega
   have ap:(k:Int)<(w.length:Int):=by omega
   have al:Hid (O++um w[k]=eR w d (k+1)):=by show _=_;rw[C3 w d k ag v,<-HE.out]
   obtain⟨o1,o2,o3⟩:=hO w[k] (Rb v);obtain⟨p,rfl,X,-⟩:=HT.out.2 k w[k] (QP v)
   have HC:Hid (∀f,ab [] n f->f.cell? ⟨p,k*5,none⟩=some (.string w[k].s)/\f.cell? ⟨p,k*5+2,none⟩=some (.string w[k].file)/\f.cell? ⟨p,k*5+3,none⟩=some (.int .i64 w[k].line)/\f.cell? ⟨p,k*5+4,none⟩=some (.int .i64 w[k].col)):=fun f kw=>by
    obtain⟨R,e,hg,U,c1,c2,c3,c4⟩:=(lj.Vb HT.out kw).2 k w[k] (QP v)
    cases e
    exact⟨U,c2,c3,c4⟩
   generalize w[k]=t at *;obtain⟨a,F,c,j,l⟩:=t;simp only at o1 o2 o3 HC;go_wp2_with fail
   go_loopg [7,9] a.size (fun R o i wr=>∃(m:Nat) (B:Hd) (P:List Lt),m<=a.size/\R=a.size-m/\o=.slice B.ao P.length B.cap/\i=.int .i64 m/\P.length<=O.length+m/\Hid (P=O++(um ⟨a,F,c,j,l⟩).take m)/\Hid (gw n wr B (uN P)))
   case atStart=>exact⟨0,r,O,by omega,rfl,rfl,rfl,by omega,by show _=_;simp,HW⟩
   case round =>
    obtain⟨m,B,P,hm,a3,rfl,rfl,hP,D,h⟩:=hrel;obtain⟨U,c2,c3,c4⟩:=HC.out wr h.out.kept;have H:p<wr.heap.size:=QX X h.out.kept.size
    by_cases x:m<a.size
    ·have aT:(m:Int)<(a.size:Int):=by omega
     have V:Hid (P++[IL ⟨a,F,c,j,l⟩ m]=O++(um ⟨a,F,c,j,l⟩).take (m+1)):=by show _=_;rw[D.out,JN _ m x,Sy]
     have ac:Hid (Qe (IL ⟨a,F,c,j,l⟩ m)=[.int .u8 ((a[m]'hlt2).toNat:Int),.string c,.int .i64 j,.int .i64 (l+m)]):=by show _=_;unfold Qe IL;simp only;rw[bP a m x]
     obtain⟨W,y⟩:∃W,Hid (wr.alloc (.cells #[.string c,.int .i64 j,.int .i64 (l+m)] 36)=W):=⟨_,rfl⟩
     have M:ab [] wr W:=by rw[<-y.out];exact(ab.refl [] _).alloc _
     have C:W.heap[wr.heap.size]?=some (.cells #[.string c,.int .i64 j,.int .i64 (l+m)] 36 (0,0)):=by rw[<-y.out];exact QS _ _
     have J:=hI (h.out.Vb M);have af:=J.out.own;have d0:W.cell? ⟨p,k*5,none⟩=some (.string a):=by rw[Q6 (M.block p H (by simp))];exact U
     have d1:W.cell? ⟨wr.heap.size,0,none⟩=some (.string c):=by rw[aa C];rfl
     have d2:W.cell? ⟨wr.heap.size,1,none⟩=some (.int .i64 j):=by rw[aa C];rfl
     have d3:W.cell? ⟨wr.heap.size,2,none⟩=some (.int .i64 (l+m)):=by rw[aa C];rfl
     have HS:Hid (∀q h5,bt W q B h5->q.cell? ⟨p,k*5,none⟩=some (.string a)/\q.cell? ⟨wr.heap.size,0,none⟩=some (.string c)/\q.cell? ⟨wr.heap.size,1,none⟩=some (.int .i64 j)/\q.cell? ⟨wr.heap.size,2,none⟩=some (.int .i64 (l+m))):=fun q h5 gr=>by
      have q1:q.heap[p]?=W.heap[p]?:=gr.kept.block p (QX H M.size) (fun S=>by have:=h.out.far _ (aN S);omega);have N:q.heap[wr.heap.size]?=W.heap[wr.heap.size]?:=gr.kept.block _ (ae C) (fun S=>by have:=h.out.own.lt (aN S);omega);exact⟨by rw[Q6 q1];exact d0,by rw[Q6 N];exact d1,by rw[Q6 N];exact d2,by rw[Q6 N];exact d3⟩
     have a0:wr.heap.size<W.heap.size:=ae C;have aS:p<W.heap.size:=by omega
     clear C M
     go_upto_region 10 with fail
     rw[y.out]
     have s3:Hid (∀u∈([.int .u8 ((a[m]'hlt2).toNat:Int),.string c,.int .i64 j,.int .i64 (l+m)]:List Value),u.oneCell'=true):=by
      intro u hu;simp only[List.mem_cons,List.not_mem_nil,or_false]at hu;rcases hu with rfl | rfl | rfl | rfl <;> rfl
     have s4:Hid ((uN P).n<=900000000):=by show P.length<=_;omega
     go_region_held3 (fun f=>f.cell? ⟨p,k*5,none⟩=some (.string a)/\f.cell? ⟨wr.heap.size,0,none⟩=some (.string c)/\f.cell? ⟨wr.heap.size,1,none⟩=some (.int .i64 j)/\f.cell? ⟨wr.heap.size,2,none⟩=some (.int .i64 (l+m))) (go_keep) ((refine bH W (by rfl) (.tmp 37) (.tmp 47) 267 (by rfl) iL (.agg #[.int .u8 0,.string ⟨#[]⟩,.int .i64 0,.int .i64 0]) 40 B (uN P) [.int .u8 ((a[m]'hlt2).toNat:Int),.string c,.int .i64 j,.int .i64 (l+m)] underlying267 Y E K L rfl (show 0<4 by omega) (by simp[Act.eval] <;> rfl) af s4.out (by omega) (by simp[Act.eval]) rfl s3.out ?_;intro Z G q z A;obtain⟨q1,N,q3,q4⟩:=HS.out q _ A))
     rw[<-ac.out,uN,gM]at z;have an:=hI (J.out.Vl A z);clear z A;go_wp2
     go_roundg (a.size-(m+1))
     case measure=>omega
     case rel=>exact⟨m+1,⟨Z,G⟩,P++[IL ⟨a,F,c,j,l⟩ m],by omega,rfl,by simp[uN,kU],by go_num,by simp;omega,V,an⟩
    ·have e:m=a.size:=by omega
     subst e
     have Q:Hid (P=eR w d (k+1)):=by
      show _=_
      rw[D.out,<-al.out]
      congr 1
      rw[Tu (by unfold um;simp)]
     go_wp2
     go_roundg (b-(k+1))
     case measure=>omega
     case rel=>exact⟨k+1,B,P,⟨by omega,by omega⟩,rfl,rfl,by go_num,by omega,Q,h⟩
  ·have e:k=b:=by omega
   subst e;have Q:Hid (eR w d k=O):=HE.out.symm;go_wp2;go_ret;exact⟨r,by rw[Q.out];rfl,by rw[Q.out];exact HW.out⟩
structure dj where
  ref:Int
  back:Nat
  need:Nat
  file:ByteArray
  line:Int
  col:Int
def kV(s:dj):List Value:=[.int .i64 s.ref,.int .i64 s.back,.int .i64 s.need,.string s.file,.int .i64 s.line,.int .i64 s.col]
theorem Mx(s:dj):(kV s).length=6:=rfl
def eI(L:List dj):dN:=kU 162 6 kV L
theorem mK(L:List dj)(x:dj):(⟨(eI L).e,(eI L).size,(eI L).n+1,(eI L).xs++kV x⟩:dN)=eI (L++[x]):=gM _ _ _ _ _
theorem tB(x:dj):∀u∈kV x,u.oneCell'=true:=by
  intro u a;simp only[kV,List.mem_cons,List.not_mem_nil,or_false]at a
  rcases a with rfl | rfl | rfl | rfl | rfl | rfl <;> rfl
structure jS where
  st:List dj
  why:Int
  file:ByteArray
  line:Int
  col:Int
def Qg(p:jS)(h:Hd):Value:=.agg #[.slice h.ao p.st.length h.cap,.int .i64 p.why,.string p.file,.int .i64 p.line,.int .i64 p.col]
theorem Lx:(prog.info? 162).map (fun i=>(i.zero,i.size,i.bytes))=some (some (.agg #[.int .i64 0,.int .i64 0,.int .i64 0,.string ⟨#[]⟩,.int .i64 0,.int .i64 0]),6,56):=by kernel_rfl
theorem fj{k o p n q:Value}(h:l.heap[T]?=some (.cells #[k,o,p,n,q] 122 (0,0)))(a b c d e:Value) :
    (l.setCell ⟨T,0,none⟩ a).cell? ⟨T,0,none⟩=some a/\((l.setCell ⟨T,0,none⟩ a).setCell ⟨T,1,none⟩ b).cell? ⟨T,1,none⟩=some b/\(((l.setCell ⟨T,0,none⟩ a).setCell ⟨T,1,none⟩ b).setCell ⟨T,2,none⟩ c).cell? ⟨T,2,none⟩=some c/\((((l.setCell ⟨T,0,none⟩ a).setCell ⟨T,1,none⟩ b).setCell ⟨T,2,none⟩ c).setCell ⟨T,3,none⟩ d).cell? ⟨T,3,none⟩=some d/\(((((l.setCell ⟨T,0,none⟩ a).setCell ⟨T,1,none⟩ b).setCell ⟨T,2,none⟩ c).setCell ⟨T,3,none⟩ d).setCell ⟨T,4,none⟩ e).cell? ⟨T,4,none⟩=some e:=by
  have g:=ah h 0 a;have j:=ah g 1 b;have f:=ah j 2 c;have i:=ah f 3 d;have m:=ah i 4 e;exact⟨by rw[aa g];rfl,by rw[aa j];rfl,by rw[aa f];rfl,by rw[aa i];rfl,by rw[aa m];rfl⟩
def Du(c:Int):ByteArray:=⟨#[UInt8.ofNat c.toNat]⟩
theorem Nh(c:Int)(d:0<=c/\c<256)(a:World):(convert 312 9 (.slice (some ⟨a.heap.size,0,none⟩) 1 1)).run prog (a.alloc (.cells #[.int .u8 c] 5))=.ok (.string (Du c)) (a.alloc (.cells #[.int .u8 c] 5)):=by
  have e:c=((UInt8.ofNat c.toNat).toNat:Int):=by
    rw[UInt8.toNat_ofNat'];omega
  unfold Du;generalize UInt8.ofNat c.toNat=u at *;rw[e]
  exact Uh (a.alloc (.cells #[.int .u8 (u.toNat:Int)] 5)) 312 9 5 ⟨a.heap.size,0,none⟩ 1 [u] underlying312 underlying5 underlying9 (by
    intro j b
    match j,b with
    | 0,_=>simp[Addr.add])
def nr(why:Int)(l:Lt):jS:=⟨[],why,l.file,l.line,l.col⟩
def rN(T:List Tk)(S:List Sm)(refs tags:List Nat)(n:Nat)(l:Lt):dj :=
  if n<=refs.length then⟨(refs.getD (n-1) 0:Nat),0,iD T S (refs.getD (n-1) 0:Nat),l.file,l.line,l.col⟩ else⟨-2,tags.getD (n-refs.length-1) 0,0,l.file,l.line,l.col⟩
def nj(T:List Tk)(S:List Sm)(refs:List Nat)(en:Lt):List Lt->List dj->List Nat->ByteArray->Bool->jS
  | [],P,_,num,_=>if(num.toList == [])=false then nr 4 en else if P.length=0 then nr 1 en else⟨P,0,⟨#[]⟩,0,0⟩
  | l :: r,P,tags,num,fr =>
    if 85<=l.c/\l.c<=89 then nj T S refs en r P tags (num++Du l.c) false
    else if 65<=l.c/\l.c<=84 then
      (if iO (num++Du l.c) (refs.length+tags.length)=0 then nr 5 l
       else nj T S refs en r (P++[rN T S refs tags (iO (num++Du l.c) (refs.length+tags.length)) l]) tags ⟨#[]⟩ true)
    else if l.c=90/\fr=true then nj T S refs en r P (tags++[P.length-1]) num false
    else if l.c=63/\(num.toList == [])=true then nj T S refs en r (P++[⟨-1,0,0,l.file,l.line,l.col⟩]) tags num false
    else nr 4 l
def j4(T:List Tk)(S:List Sm)(refs:List Nat)(en:Lt)(L:List Lt):jS:=nj T S refs en L [] [] ⟨#[]⟩ false
theorem yS:iO D b<=b:=by
  unfold iO
  cases h:(List.range b).find? (An D) with
  | none=>exact Ro _
  | some i=>have:=Ra.1 (Rz h);show i+1<=b;omega
structure FR(w wr:World)(en:Lt)(P:List dj)(h:Hd)(tags:List Nat)(ht:Hd):Prop where
  e:wr.heap[w.heap.size]?=some (.cells #[.string en.file,.int .i64 en.line,.int .i64 en.col] 36 (0,0))
  r:wr.heap[w.heap.size+1]?=some (.cells #[.slice none 0 0,.int .i64 0,.string ⟨#[]⟩,.int .i64 0,.int .i64 0] 122 (0,0))
  p:wr.heap[w.heap.size+2]?=some (.cells #[.slice h.ao P.length h.cap,.int .i64 0,.string ⟨#[]⟩,.int .i64 0,.int .i64 0] 122 (0,0))
  op:aw wr h (eI P)
  ot:aw wr ht (bB tags)
  fp:∀k,h.blk=some k->w.heap.size+2<k
  ft:∀k,ht.blk=some k->w.heap.size+2<k
  ap:∀k,h.blk=some k->ht.blk≠some k
  kept:ab [] w wr
theorem FR.Vb{d:Lt}{P:List dj}(b:FR l y d P k i o)(c:ab [] y a):FR l a d P k i o :=
  ⟨c.get b.e (by simp),c.get b.r (by simp),c.get b.p (by simp),b.op.Vb c,b.ot.Vb c,b.fp,b.ft,b.ap,b.kept.trans c⟩
theorem pK(k:ab i y a)(e:∀q∈i,l.heap.size<=q)(b:ab [] l y):ab [] l a :=
  ⟨k.os.trans b.os,k.tape.trans b.tape,k.output.trans b.output,Q3 b.size k.size,fun q c _=>by
    rw[k.block q (QX c b.size) (fun d=>by have:=e q d;omega),b.block q c (by simp)]⟩
theorem FR.addT{n:Lt}{P:List dj}{c:List Nat}(b:FR l y n P k i o)(g:bt y a o N)(s:aw a N (bB c)):FR l a n P k c N:=by
  have m:∀q,q<=l.heap.size+2->q∉o.blk.toList:=fun q j t=>by have:=b.ft q (aN t);omega
  have u:=ae b.p;refine⟨g.kept.get b.e (m _ (by omega)),g.kept.get b.r (m _ (by omega)),g.kept.get b.p (m _ (by omega)),g.beside b.op (fun h d=>b.ap h d),s,b.fp,fun h d=>?_,fun h d f=>?_,pK g.kept (fun q j=>by have:=b.ft q (aN j);omega) b.kept⟩
  · rcases g.blk with e | ⟨q,e,j⟩
    · exact b.ft h (by rw[<-e];exact d)
    · rw[e]at d;cases d;omega
  · rcases g.blk with e | ⟨q,e,j⟩
    · exact b.ap h d (by rw[<-e];exact f)
    · rw[e]at f;cases f
      have:=b.op.lt d;omega
theorem FR.addP{x:Lt}{P s:List dj}(b:FR l y x P k i o)(g:bt y a k N)(w:aw a N (eI s)){m:Nat}(u:m=s.length):FR l (a.setCell ⟨l.heap.size+2,0,none⟩ (.slice N.ao m N.cap)) x s N i o:=by
  subst u;have v:∀q,q<=l.heap.size+2->q∉k.blk.toList:=fun q c u=>by have:=b.fp q (aN u);omega
  have D:=ae b.p;have A:=g.kept.get b.e (v _ (by omega));have B:=g.kept.get b.r (v _ (by omega));have z:=g.kept.get b.p (v _ (by omega))
  have n:∀h,N.blk=some h->l.heap.size+2<h:=fun h f=>by
    rcases g.blk with e | ⟨q,e,c⟩
    · exact b.fp h (by rw[<-e];exact f)
    · rw[e]at f;cases f;omega
  have j:aw a o (bB i):=g.beside b.ot (fun h f d=>b.ap h d f);have t:ab [l.heap.size+2] a (a.setCell ⟨l.heap.size+2,0,none⟩ (.slice N.ao s.length N.cap)):=(ab.refl _ _).setCell (Q1 (by simp)) _;refine⟨t.get A (by simp),t.get B (by simp),by rw[ah z];rfl,w.Vg (fun q c=>t.block q (w.lt c) (by simp;have:=n q c;omega)),j.Vg (fun q c=>t.block q (j.lt c) (by simp;have:=b.ft q c;omega)),n,b.ft,fun h f d=>?_,?_⟩
  · rcases g.blk with e | ⟨q,e,c⟩
    · exact b.ap h (by rw[<-e];exact f) d
    · rw[e]at f;cases f
      have:=b.ot.lt d;omega
  · have C:ab [] l a:=pK g.kept (fun q c=>by have:=b.fp q (aN c);omega) b.kept
    exact C.setCell (QV (by simp)) _
theorem FR.cells{b:Lt}{P:List dj}(a:FR l y b P k i o) :
    (y.cell? ⟨l.heap.size,0,none⟩=some (.string b.file)/\y.cell? ⟨l.heap.size,1,none⟩=some (.int .i64 b.line)/\y.cell? ⟨l.heap.size,2,none⟩=some (.int .i64 b.col)) /\
    (y.cell? ⟨l.heap.size+1,0,none⟩=some (.slice none 0 0)/\y.cell? ⟨l.heap.size+1,1,none⟩=some (.int .i64 0)/\y.cell? ⟨l.heap.size+1,2,none⟩=some (.string ⟨#[]⟩)/\y.cell? ⟨l.heap.size+1,3,none⟩=some (.int .i64 0)/\y.cell? ⟨l.heap.size+1,4,none⟩=some (.int .i64 0)) /\
    (y.cell? ⟨l.heap.size+2,0,none⟩=some (.slice k.ao P.length k.cap)/\y.cell? ⟨l.heap.size+2,1,none⟩=some (.int .i64 0)/\y.cell? ⟨l.heap.size+2,2,none⟩=some (.string ⟨#[]⟩)/\y.cell? ⟨l.heap.size+2,3,none⟩=some (.int .i64 0)/\y.cell? ⟨l.heap.size+2,4,none⟩=some (.int .i64 0)) /\
    (y.frozen? ⟨l.heap.size+1,0,none⟩=false/\y.frozen? ⟨l.heap.size+1,1,none⟩=false/\y.frozen? ⟨l.heap.size+1,2,none⟩=false/\y.frozen? ⟨l.heap.size+1,3,none⟩=false/\y.frozen? ⟨l.heap.size+1,4,none⟩=false)/\y.frozen? ⟨l.heap.size+2,0,none⟩=false/\l.heap.size+2<y.heap.size:=by
  refine⟨⟨?_,?_,?_⟩,⟨?_,?_,?_,?_,?_⟩,⟨?_,?_,?_,?_,?_⟩,⟨am a.r 0,am a.r 1,am a.r 2,am a.r 3,am a.r 4⟩,am a.p 0,ae a.p⟩
  all_goals first | (rw[aa a.e];rfl) | (rw[aa a.r];rfl) | (rw[aa a.p];rfl)
theorem bN{P:Program}{l:Array Oper}{d:List Oper}{o:Oper}{a:Act}{Q:Exit->Act->World->Prop}(G:o.guard=none)(s x:Operand)(t:TypeId)(p:o.op=Op.call { callee:=Callee.builtin Builtin.append,args:=#[s,x],argTypes:=#[t,t] })(i:TypeInfo)(z:Value)(c:Nat)(h:Hd)(r:dN)(b:List Value)(w:P.underlying t=some (.slice r.e))(y:P.info? r.e=some i)(I:i.zero=some z)(H:i.size=r.size)(L:i.bytes=c)(v:z.cells.size=r.size)(F:0<r.size)(C:a.eval s=.slice h.ao r.n h.cap)(k:aw n h r)(N:r.n<=900000000)(B:c<=1000)(M:a.eval x=.slice (some ⟨n.heap.size,0,none⟩) 1 1)(R:b.length=r.size)(m:∀u∈b,u.oneCell'=true)(K:∀f g,aw g f ⟨r.e,r.size,r.n+1,r.xs++b⟩->bt n g h f->wpList P l Q d (a.put o.dst (.slice f.ao (r.n+1) f.cap)) g) :
  wpList P l Q (o :: d) a (n.alloc (.cells b.toArray r.e)):=by
 have q:ab [] n (n.alloc (.cells b.toArray r.e)):=(ab.refl [] _).alloc _;have D:(n.alloc (.cells b.toArray r.e)).heap[n.heap.size]?=some (.cells b.toArray r.e (0,0)):=QS _ _;refine ed _ G s x t p i z c h r w y I H L v F C (k.Vb q) (some ⟨n.heap.size,0,none⟩) 1 1 b M (by omega) (fun e=>by cases e) ?_ m (by omega) B ?_
 ·intro O e j u E
  cases e
  rw[bL,aa D];simpa using E
 ·intro f g A J
  exact K f g A ((bt.Vb q).trans J)
def om(w:World)(p:jS)(e:Ending)(w':World):Prop:=∃h',e=.returned (Qg p h')/\gw w w' h' (eI p.st)
theorem gO{p:jS}{e:Ending}(a:p.st=[])(c:e=.returned (.agg #[.slice none 0 0,.int .i64 p.why,.string p.file,.int .i64 p.line,.int .i64 p.col]))(k:ab [] l y):om l p e y :=
 ⟨⟨none,0⟩,by rw[c,Qg,a];rfl,by rw[a];exact⟨QZ _ _ _ _,(by intro k b;cases b),k⟩⟩
theorem aw.Vk(o:aw l k z6)(c:∀a,k.blk=some a->a≠T)(i:Nat)(v:Value):aw (l.setCell ⟨T,i,none⟩ v) k z6:=by
 have a:ab [T] l (l.setCell ⟨T,i,none⟩ v):=(ab.refl _ _).setCell (Q1 (by simp)) _;exact o.Vg (fun q b=>a.block q (o.lt b) (by simp;exact c q b))
theorem Id{α:Type}(L:List α)(k:Nat)(h:k<L.length):L.drop k=L[k] :: L.drop (k+1):=Rf h
theorem JV(cj:Option Addr)(cR:Nat)(L:List Lt)(ck:Option Addr)(cL:Nat)(y:Lt)(D:World)(hD:fz D v w g I H z0 b)(ok:nK w H f)(hR:qD D cj x)(hr:∀r∈x,r<f)(dz:x.length<=30000)(hL:cm D ck 4 Qe L)(df:L.length<=20000000)(ag:∀l∈L,0<=l.c/\l.c<256) :
  Calls prog 176 #[.pointer (some ⟨v,0,none⟩),.slice cj x.length cR,.slice ck L.length cL,.agg #[.string y.file,.int .i64 y.line,.int .i64 y.col]] D fun e w'=>om D (j4 w H x y L) e w':=by
 have HD:=hI hD;have cx:=hI ok;have HR:=hI hR;have HL:=hI hL;have cX:=hI ag;have cl:=hI hr;obtain⟨iN,cz,bx,b4,bT⟩:=Re z8;obtain⟨iP,bv,be,a5,bc⟩:=Re Lx
 have S0:Hid (FR D (((D.alloc (.cells #[.string y.file,.int .i64 y.line,.int .i64 y.col] 36)).alloc (.cells #[.slice none 0 0,.int .i64 0,.string ⟨#[]⟩,.int .i64 0,.int .i64 0] 122)).alloc (.cells #[.slice none 0 0,.int .i64 0,.string ⟨#[]⟩,.int .i64 0,.int .i64 0] 122)) y [] ⟨none,0⟩ [] ⟨none,0⟩):=by
  obtain⟨W1,bg⟩:∃W1,W1=D.alloc (.cells #[.string y.file,.int .i64 y.line,.int .i64 y.col] 36):=⟨_,rfl⟩
  obtain⟨T,bj⟩:∃T,T=W1.alloc (.cells #[.slice none 0 0,.int .i64 0,.string ⟨#[]⟩,.int .i64 0,.int .i64 0] 122):=⟨_,rfl⟩
  have z1:W1.heap.size=D.heap.size+1:=by rw[bg];simp
  have z2:T.heap.size=D.heap.size+2:=by rw[bj];simp[z1]
  have k1:ab [] W1 T:=by rw[bj];exact(ab.refl [] _).alloc _
  have k0:ab [] D W1:=by rw[bg];exact(ab.refl [] _).alloc _
  have k2:ab [] T (T.alloc (.cells #[.slice none 0 0,.int .i64 0,.string ⟨#[]⟩,.int .i64 0,.int .i64 0] 122)):=(ab.refl [] _).alloc _;have e0:W1.heap[D.heap.size]?=some (.cells #[.string y.file,.int .i64 y.line,.int .i64 y.col] 36 (0,0)):=by rw[bg];exact QS _ _
  have e1:T.heap[D.heap.size+1]?=some (.cells #[.slice none 0 0,.int .i64 0,.string ⟨#[]⟩,.int .i64 0,.int .i64 0] 122 (0,0)):=by rw[bj,<-z1];exact QS _ _
  show FR _ _ _ _ _ _ _
  rw[<-bg,<-bj];exact⟨k2.get (k1.get e0 (by simp)) (by simp),k2.get e1 (by simp),by rw[<-z2];exact QS _ _,QZ _ _ _ _,QZ _ _ _ _,(by intro k hk;cases hk),(by intro k hk;cases hk),(by intro k hk;cases hk),(k0.trans k1).trans k2⟩
 clear hD ok hR hL ag hr;go_enter func176,ntmps176;go_wp2
 go_loopg [10,11,12,13] L.length (fun d2 tg nm fr i wr=>∃(k:Nat) (h:Hd) (P:List dj) (ht:Hd) (d:List Nat) (s:ByteArray) (b6:Bool),k<=L.length/\d2=L.length-k/\tg=.slice ht.ao d.length ht.cap/\nm=.string s/\fr=.bool b6/\i=.int .i64 k/\(P.length<=k/\d.length<=k/\s.size<=k)/\Hid (b6=true->0<P.length)/\Hid (nj w H x y (L.drop k) P d s b6=j4 w H x y L)/\Hid (FR D wr y P h d ht))
 case atStart=>exact⟨0,⟨none,0⟩,[],⟨none,0⟩,[],⟨#[]⟩,false,by omega,rfl,rfl,rfl,rfl,rfl,⟨QR _,QR _,QR _⟩,(fun h=>by cases h),rfl,S0⟩
 case round =>
  obtain⟨k,h,P,ht,d,s,b6,hk,hg,rfl,rfl,rfl,rfl,⟨dl,d0,c1⟩,HF,t,F⟩:=hrel;obtain⟨⟨ai,a0,Z⟩,⟨ad,Y,af,aS,al⟩,⟨ac,an,az,aT,ar⟩,⟨X,Ov,Ow,Ox,Oy⟩,ap,ax⟩:=F.out.cells;have G:=hI F.out.kept
  by_cases bo:k<L.length
  ·have dv:(k:Int)<(L.length:Int):=by omega
   obtain⟨gL,rfl,bz,a4⟩:=(cm.Vb HL.out G.out) k L[k] (QP bo);have l0:wr.cell? ⟨gL,k*4,none⟩=some (.int .u8 L[k].c):=a4 0 _ rfl;have l1:=a4 1 _ rfl;have l2:=a4 2 _ rfl;have l3:=a4 3 _ rfl
   have b3:Hid (∀w',ab [] D w'->gL<w'.heap.size/\w'.cell? ⟨gL,k*4+1,none⟩=some (.string L[k].file)/\w'.cell? ⟨gL,k*4+2,none⟩=some (.int .i64 L[k].line)/\w'.cell? ⟨gL,k*4+3,none⟩=some (.int .i64 L[k].col)):=fun w' kw=>by
    obtain⟨g2,e2,h2,c2⟩:=(cm.Vb HL.out kw) k L[k] (QP bo)
    cases e2
    exact⟨h2,c2 1 _ rfl,c2 2 _ rfl,c2 3 _ rfl⟩
   have ag:=cX.out L[k] (Rb bo);have cf:=hI (Id L k bo);rw[cf.out,nj]at t;clear a4 cf;generalize L[k]=l at *;obtain⟨c,j,o,n⟩:=l;simp only at l0 l1 l2 l3 ag t b3;have db:=fun wx=>Nh c ag wx
   obtain⟨d3,dT⟩:=ag;have cH:(Du c).size=1:=rfl
   -- a fault at this letter
   have dt:Hid (∀(w2:World) (e:Ending),ab [] D w2->e=.returned (.agg #[.slice none 0 0,.int .i64 4,.string j,.int .i64 o,.int .i64 n])->j4 w H x y L=nr 4 ⟨c,j,o,n⟩->om D (j4 w H x y L) e w2):=fun w2 e k2 he hx=>by rw[hx];exact gO rfl he k2
   by_cases a1:85<=c/\c<=89
   ·rw[QW a1]at t
    obtain⟨a1,a2⟩:=a1;have cy:=(show Hid _ from(ab.refl [] wr).alloc (.cells #[.int .u8 c] 5));have cs:=hI (F.out.Vb cy.out);have cp:Hid ((s++Du c).size=s.size+1):=by show _=_;rw[Sd,cH]
    go_wp2
    go_roundg (L.length-(k+1))
    case measure=>omega
    case rel=>exact⟨k+1,h,P,ht,d,s++Du c,false,by omega,rfl,rfl,rfl,rfl,by go_num,⟨by omega,by omega,by rw[cp.out];omega⟩,(fun h=>by cases h),t,cs⟩
   ·rw[QT a1]at t
    by_cases b1:65<=c/\c<=84
    ·rw[QW b1]at t
     obtain⟨b1,b2⟩:=b1;have a2:¬85<=c:=by omega
     have br:Hid (∀wx,Calls prog 213 #[.string (s++Du c),.int .i64 ((x.length:Int)+(d.length:Int))] wx fun e w'=>e=.returned (.int .i64 (iO (s++Du c) (x.length+d.length):Nat))/\ab [] wx w'):=fun wx=>by
      have:=EJ (s++Du c) (x.length+d.length) wx (by omega);rw[Int.natCast_add]at this;exact this
     have ca:=yS (s++Du c) (x.length+d.length);obtain⟨J,cA⟩:∃J,Hid (iO (s++Du c) (x.length+d.length)=J):=⟨_,rfl⟩
     rw[cA.out]at br t ca;have c0:s.size+1<=9223372036854775807:=by omega
     go_upto_region 15 with (go_at_call 213;refine(br.out _).mono ?_;rintro e B ⟨rfl,k1⟩)
     have cc:=(show Hid _ from((ab.refl [] wr).alloc _).trans k1);have a3:=hI (F.out.Vb cc.out);have V:=hI (G.out.trans cc.out);clear k1 ai a0 Z ad Y af aS al ac an az aT ar X Ov Ow Ox Oy ap ax l0 l1 l2 l3 bz br;obtain⟨⟨ai,a0,Z⟩,⟨ad,Y,af,aS,al⟩,⟨ac,an,az,aT,ar⟩,⟨X,Ov,Ow,Ox,Oy⟩,ap,ax⟩:=a3.out.cells;obtain⟨bz,l1,l2,l3⟩:=b3.out B V.out
     by_cases n0:J=0
     ·rw[QW n0]at t
      subst n0;have U:Hid (j4 w H x y L=nr 5 ⟨c,j,o,n⟩):=t.out.symm;go_wp2;obtain⟨S,M,O,Q,R⟩:=fj a3.out.r (.slice none 0 0) (.int .i64 5) (.string j) (.int .i64 o) (.int .i64 n);exact QY (v:=.agg #[.slice none 0 0,.int .i64 5,.string j,.int .i64 o,.int .i64 n]) (by simp[results,results176,go_sem,S,M,O,Q,R]) rfl (by rw[U.out];exact gO rfl rfl (((((V.out.setCell (QV (by simp)) _).setCell (QV (by simp)) _).setCell (QV (by simp)) _).setCell (QV (by simp)) _).setCell (QV (by simp)) _))
     ·rw[QT n0]at t
      have c7:((J:Int)==0)=false:=by simpa using n0
      by_cases n1:J<=x.length
      ·have ct:(J:Int)<=(x.length:Int):=by omega
       obtain⟨q,rfl⟩:∃q,J=q+1:=⟨J-1,by omega⟩
       have bs:q<x.length:=by omega
       have c8:(q:Int)<(x.length:Int):=by omega
       have bd:Hid (rN w H x d (q+1) ⟨c,j,o,n⟩=⟨(x[q]:Nat),0,iD w H (x[q]:Nat),j,o,n⟩):=by
        show _=_
        unfold rN;rw[QW n1,SD,QQ,QP bs];rfl
       have cF:=cl.out x[q] (Rb bs);obtain⟨gR,rfl,c9,cq⟩:=(qD.Vb HR.out V.out) q x[q] (QP bs);rw[bd.out]at t;have cb:Hid (∀wx,ab [] D wx->Calls prog 129 #[.pointer (some ⟨v,0,none⟩),.int .i64 (x[q]:Nat)] wx fun e w'=>e=.returned (.int .i64 (iD w H (x[q]:Nat):Nat))/\ab [] wx w'):=fun wx kx=>yR v f x[q] w g I H z0 b wx (fz.Vb HD.out kx) cx.out cF
       clear bd;generalize x[q]=rf at *;generalize iD w H (rf:Nat)=nd at *;obtain⟨T,bk⟩:∃T,Hid (B.alloc (.cells #[.int .i64 (rf:Int),.int .i64 0,.int .i64 0,.string j,.int .i64 o,.int .i64 n] 162)=T):=⟨_,rfl⟩
       have bw:ab [] B T:=by rw[<-bk.out];exact(ab.refl [] _).alloc _
       have B2:T.heap[B.heap.size]?=some (.cells #[.int .i64 (rf:Int),.int .i64 0,.int .i64 0,.string j,.int .i64 o,.int .i64 n] 162 (0,0)):=by rw[<-bk.out];exact QS _ _
       have bp:=hI (cb.out T (V.out.trans bw));have s0:T.cell? ⟨B.heap.size,0,none⟩=some (.int .i64 (rf:Int)):=by rw[aa B2];rfl
       have z2:=ae B2
       go_upto_region 20 with fail
       rw[bk.out]
       go_upto_region 22 with (go_at_call 129;refine QU bp.out ?_;rintro e w2 ⟨rfl,k2⟩;have B3:=k2.get B2 (by simp);have f3:=am B3 2;have c3:w2.cell? ⟨B.heap.size,2,none⟩=some (.int .i64 0):=(by rw[aa B3];rfl);have z3:=ae B3)
       obtain⟨E,A⟩:∃E,Hid (w2.setCell ⟨B.heap.size,2,none⟩ (.int .i64 (nd:Int))=E):=⟨_,rfl⟩
       have a7:ab [] B E:=by rw[<-A.out];exact(bw.trans k2).setCell (QV (by simp)) _
       have N:E.heap[B.heap.size]?=some (.cells #[.int .i64 (rf:Int),.int .i64 0,.int .i64 (nd:Int),.string j,.int .i64 o,.int .i64 n] 162 (0,0)):=by rw[<-A.out,ah B3];rfl
       have C:=hI (a3.out.Vb a7);rw[A.out];clear ai a0 Z ad Y af aS al ac an az aT ar X Ov Ow Ox Oy ap ax;clear B2 B3 bw k2 a7 s0 z2 f3 c3 z3 A bk bp cb cq;obtain⟨⟨ai,a0,Z⟩,⟨ad,Y,af,aS,al⟩,⟨ac,an,az,aT,ar⟩,⟨X,Ov,Ow,Ox,Oy⟩,ap,ax⟩:=C.out.cells;have t0:E.cell? ⟨B.heap.size,0,none⟩=some (.int .i64 (rf:Int)):=by rw[aa N];rfl
       have t1:E.cell? ⟨B.heap.size,1,none⟩=some (.int .i64 0):=by rw[aa N];rfl
       have t2:E.cell? ⟨B.heap.size,2,none⟩=some (.int .i64 (nd:Int)):=by rw[aa N];rfl
       have t3:E.cell? ⟨B.heap.size,3,none⟩=some (.string j):=by rw[aa N];rfl
       have t4:E.cell? ⟨B.heap.size,4,none⟩=some (.int .i64 o):=by rw[aa N];rfl
       have t5:E.cell? ⟨B.heap.size,5,none⟩=some (.int .i64 n):=by rw[aa N];rfl
       have t6:=ae N;have K:=C.out.op;have a6:(eI P).n<=900000000:=by show P.length<=_;omega
       go_wp2_with (at_builtin;refine bN _ rfl (.tmp 103) (.tmp 105) 120 rfl iP (.agg #[.int .i64 0,.int .i64 0,.int .i64 0,.string ⟨#[]⟩,.int .i64 0,.int .i64 0]) 56 h (eI P) [.int .i64 (rf:Int),.int .i64 0,.int .i64 (nd:Int),.string j,.int .i64 o,.int .i64 n] underlying120 bv be a5 bc rfl (show 0<6 by omega) rfl K a6 (by omega) rfl rfl (tB (⟨(rf:Int),0,nd,j,o,n⟩:dj)) ?_;intro h5 w5 u z;rw[show([.int .i64 (rf:Int),.int .i64 0,.int .i64 (nd:Int),.string j,.int .i64 o,.int .i64 n]:List Value)=kV (⟨(rf:Int),0,nd,j,o,n⟩:dj) from rfl,mK]at u;have HA:=hI (C.out.addP (m:=(eI P).n+1) z u (by simp[eI,kU]));have W:=z.kept.get C.out.p (fun hq=>by have:=C.out.fp _ (aN hq);omega);have f5:=am W 0;have c5:w5.cell? ⟨D.heap.size+2,0,none⟩=some (.slice h.ao P.length h.cap):=(by rw[aa W];rfl);have z5:=ae W;clear u z W)
       go_roundg (L.length-(k+1))
       case measure=>omega
       case rel=>exact⟨k+1,h5,P++[⟨(rf:Int),0,nd,j,o,n⟩],ht,d,⟨#[]⟩,true,by omega,rfl,rfl,rfl,rfl,by go_num,⟨by simp;omega,by omega,Ro _⟩,(fun _=>by simp),t,HA⟩
      ·have ct:¬(J:Int)<=(x.length:Int):=by omega
       obtain⟨q,Hq⟩:∃q,Hid (J-x.length-1=q):=⟨_,rfl⟩
       have b5:q<d.length:=by have:=Hq.out;omega
       have i1:IntKind.i64.wrap ((J:Int)-(x.length:Int))=(J:Int)-(x.length:Int):=by rw[R9];omega
       have i2:IntKind.i64.wrap ((J:Int)-(x.length:Int)-1)=(J:Int)-(x.length:Int)-1:=by rw[R9];omega
       have i3:((J:Int)-(x.length:Int)-1).toNat=q:=by have:=Hq.out;omega
       have i4:(0:Int)<=(J:Int)-(x.length:Int)-1:=by omega
       have i5:(J:Int)-(x.length:Int)-1<(d.length:Int):=by omega
       have bd:Hid (rN w H x d J ⟨c,j,o,n⟩=⟨-2,d[q],0,j,o,n⟩):=by
        show _=_
        unfold rN;rw[QT n1,Hq.out,QQ,QP b5];rfl
       obtain⟨gt,b0,dp,cq⟩:=a3.out.ot.srcN q d[q] (QP b5);rw[bd.out]at t;clear bd;generalize d[q]=tg at *;obtain⟨E,A⟩:∃E,Hid (B.alloc (.cells #[.int .i64 (-2),.int .i64 (tg:Int),.int .i64 0,.string j,.int .i64 o,.int .i64 n] 162)=E):=⟨_,rfl⟩
       have a7:ab [] B E:=by rw[<-A.out];exact(ab.refl [] _).alloc _
       have N:E.heap[B.heap.size]?=some (.cells #[.int .i64 (-2),.int .i64 (tg:Int),.int .i64 0,.string j,.int .i64 o,.int .i64 n] 162 (0,0)):=by rw[<-A.out];exact QS _ _
       have C:=hI (a3.out.Vb a7);rw[b0]
       go_upto_region 22 with fail
       rw[A.out];clear ai a0 Z ad Y af aS al ac an az aT ar X Ov Ow Ox Oy ap ax;clear a7 A cq i1 i2 i3 i4 i5;obtain⟨⟨ai,a0,Z⟩,⟨ad,Y,af,aS,al⟩,⟨ac,an,az,aT,ar⟩,⟨X,Ov,Ow,Ox,Oy⟩,ap,ax⟩:=C.out.cells;have t0:E.cell? ⟨B.heap.size,0,none⟩=some (.int .i64 (-2)):=by rw[aa N];rfl
       have t1:E.cell? ⟨B.heap.size,1,none⟩=some (.int .i64 (tg:Int)):=by rw[aa N];rfl
       have t2:E.cell? ⟨B.heap.size,2,none⟩=some (.int .i64 0):=by rw[aa N];rfl
       have t3:E.cell? ⟨B.heap.size,3,none⟩=some (.string j):=by rw[aa N];rfl
       have t4:E.cell? ⟨B.heap.size,4,none⟩=some (.int .i64 o):=by rw[aa N];rfl
       have t5:E.cell? ⟨B.heap.size,5,none⟩=some (.int .i64 n):=by rw[aa N];rfl
       have t6:=ae N;have K:=C.out.op;have a6:(eI P).n<=900000000:=by show P.length<=_;omega
       go_wp2_with (at_builtin;refine bN _ rfl (.tmp 103) (.tmp 105) 120 rfl iP (.agg #[.int .i64 0,.int .i64 0,.int .i64 0,.string ⟨#[]⟩,.int .i64 0,.int .i64 0]) 56 h (eI P) [.int .i64 (-2),.int .i64 (tg:Int),.int .i64 0,.string j,.int .i64 o,.int .i64 n] underlying120 bv be a5 bc rfl (show 0<6 by omega) rfl K a6 (by omega) rfl rfl (tB (⟨-2,tg,0,j,o,n⟩:dj)) ?_;intro h5 w5 u z;rw[show([.int .i64 (-2),.int .i64 (tg:Int),.int .i64 0,.string j,.int .i64 o,.int .i64 n]:List Value)=kV (⟨-2,tg,0,j,o,n⟩:dj) from rfl,mK]at u;have HA:=hI (C.out.addP (m:=(eI P).n+1) z u (by simp[eI,kU]));have W:=z.kept.get C.out.p (fun hq=>by have:=C.out.fp _ (aN hq);omega);have f5:=am W 0;have c5:w5.cell? ⟨D.heap.size+2,0,none⟩=some (.slice h.ao P.length h.cap):=(by rw[aa W];rfl);have z5:=ae W;clear u z W)
       go_roundg (L.length-(k+1))
       case measure=>omega
       case rel=>exact⟨k+1,h5,P++[⟨-2,tg,0,j,o,n⟩],ht,d,⟨#[]⟩,true,by omega,rfl,by rw[b0],rfl,rfl,by go_num,⟨by simp;omega,by omega,Ro _⟩,(fun _=>by simp),t,HA⟩
    ·rw[QT b1]at t
     by_cases d1:c=90
     ·subst d1
      cases b6
      ·rw[QT (by simp),QT (by omega)]at t
       have U:Hid (j4 w H x y L=nr 4 ⟨90,j,o,n⟩):=t.out.symm;go_wp2;obtain⟨S,M,O,Q,R⟩:=fj F.out.r (.slice none 0 0) (.int .i64 4) (.string j) (.int .i64 o) (.int .i64 n);exact QY (v:=.agg #[.slice none 0 0,.int .i64 4,.string j,.int .i64 o,.int .i64 n]) (by simp[results,results176,go_sem,S,M,O,Q,R]) rfl (by rw[U.out];exact gO rfl rfl (((((G.out.setCell (QV (by simp)) _).setCell (QV (by simp)) _).setCell (QV (by simp)) _).setCell (QV (by simp)) _).setCell (QV (by simp)) _))
      ·rw[QW ⟨rfl,rfl⟩]at t
       have c6:=HF.out rfl;have cP:((P.length-1:Nat):Int)=(P.length:Int)-1:=by omega
       have dk:IntKind.i64.wrap ((P.length:Int)-1)=(P.length:Int)-1:=by rw[R9];omega
       have cV:=F.out.ot;have co:(bB d).n<=900000000:=by show d.length<=_;omega
       go_wp2_with (at_builtin;refine bN _ rfl (.tmp 114) (.tmp 119) 26 rfl iN (.int .i64 0) 8 ht (bB d) [.int .i64 ((P.length:Int)-1)] underlying26 cz bx b4 bT rfl Rc rfl cV co (by omega) rfl rfl (by simp[Value.oneCell']) ?_;intro h5 w5 u z;rw[<-cP,tn]at u;have HA:=hI (F.out.addT z u);clear u z)
       go_roundg (L.length-(k+1))
       case measure=>omega
       case rel=>exact⟨k+1,h,P,h5,d++[P.length-1],s,false,by omega,rfl,by simp[bB],rfl,rfl,by go_num,⟨by omega,by simp;omega,by omega⟩,(fun h=>by cases h),t,HA⟩
     ·have ds:(c==90)=false:=by simpa using d1
      rw[QT (fun h=>d1 h.1)]at t
      by_cases e1:c=63
      ·subst e1
       cases ba:(s.toList == [])
       ·rw[QT (by rw[ba];simp)]at t
        have U:Hid (j4 w H x y L=nr 4 ⟨63,j,o,n⟩):=t.out.symm;go_wp2;obtain⟨S,M,O,Q,R⟩:=fj F.out.r (.slice none 0 0) (.int .i64 4) (.string j) (.int .i64 o) (.int .i64 n);exact QY (v:=.agg #[.slice none 0 0,.int .i64 4,.string j,.int .i64 o,.int .i64 n]) (by simp[results,results176,go_sem,S,M,O,Q,R]) rfl (by rw[U.out];exact gO rfl rfl (((((G.out.setCell (QV (by simp)) _).setCell (QV (by simp)) _).setCell (QV (by simp)) _).setCell (QV (by simp)) _).setCell (QV (by simp)) _))
       ·rw[QW ⟨rfl,ba⟩]at t
        have K:=F.out.op;have a6:Hid ((eI P).n<=900000000):=by show P.length<=_;omega
        have cu:Hid ((eI P).n=P.length):=rfl
        go_upto_region 29 with fail
        go_region_law (refine bH wr rfl (.tmp 129) (.tmp 136) 120 rfl iP (.agg #[.int .i64 0,.int .i64 0,.int .i64 0,.string ⟨#[]⟩,.int .i64 0,.int .i64 0]) 56 h (eI P) [.int .i64 (-1),.int .i64 0,.int .i64 0,.string j,.int .i64 o,.int .i64 n] underlying120 bv be a5 bc rfl (show 0<6 by omega) (by rw[cu.out];simp[Act.eval]) K a6.out (by omega) (by simp[Act.eval]) rfl (tB (⟨-1,0,0,j,o,n⟩:dj)) ?_;intro cB ch w5 u z;have W:=z.kept.get F.out.p (fun hq=>by have:=F.out.fp _ (aN hq);omega);have f5:=am W 0;have c5:w5.cell? ⟨D.heap.size+2,0,none⟩=some (.slice h.ao P.length h.cap):=(by rw[aa W];rfl);have z5:=ae W)
        all_goals
         rw[show([.int .i64 (-1),.int .i64 0,.int .i64 0,.string j,.int .i64 o,.int .i64 n]:List Value)=kV (⟨-1,0,0,j,o,n⟩:dj) from rfl,mK]at u;have HA:=hI (F.out.addP (m:=(eI P).n+1) z u (by simp[eI,kU]));clear u z W f5 c5 z5;go_wp2
         go_roundg (L.length-(k+1))
         case measure=>omega
         case rel=>exact⟨k+1,⟨cB,ch⟩,P++[⟨-1,0,0,j,o,n⟩],ht,d,s,false,by omega,rfl,rfl,rfl,rfl,by go_num,⟨by simp;omega,by omega,by omega⟩,(fun h=>by cases h),t,HA⟩
      ·have c4:(c==63)=false:=by simpa using e1
       rw[QT (fun h=>e1 h.1)]at t;have U:Hid (j4 w H x y L=nr 4 ⟨c,j,o,n⟩):=t.out.symm
       by_cases f1:85<=c
       ·have f2:¬c<=89:=fun h=>a1 ⟨f1,h⟩
        have f3:65<=c:=by omega
        have f4:¬c<=84:=by omega
        go_wp2;obtain⟨S,M,O,Q,R⟩:=fj F.out.r (.slice none 0 0) (.int .i64 4) (.string j) (.int .i64 o) (.int .i64 n);exact QY (v:=.agg #[.slice none 0 0,.int .i64 4,.string j,.int .i64 o,.int .i64 n]) (by simp[results,results176,go_sem,S,M,O,Q,R]) rfl (by rw[U.out];exact gO rfl rfl (((((G.out.setCell (QV (by simp)) _).setCell (QV (by simp)) _).setCell (QV (by simp)) _).setCell (QV (by simp)) _).setCell (QV (by simp)) _))
       ·by_cases f3:65<=c
        ·exact absurd ⟨f3,by omega⟩ b1
        ·skip
         go_wp2;obtain⟨S,M,O,Q,R⟩:=fj F.out.r (.slice none 0 0) (.int .i64 4) (.string j) (.int .i64 o) (.int .i64 n);exact QY (v:=.agg #[.slice none 0 0,.int .i64 4,.string j,.int .i64 o,.int .i64 n]) (by simp[results,results176,go_sem,S,M,O,Q,R]) rfl (by rw[U.out];exact gO rfl rfl (((((G.out.setCell (QV (by simp)) _).setCell (QV (by simp)) _).setCell (QV (by simp)) _).setCell (QV (by simp)) _).setCell (QV (by simp)) _))
  ·have e:k=L.length:=by omega
   subst e;rw[List.drop_length,nj]at t
   cases ba:(s.toList == [])
   ·rw[QW ba]at t
    have U:Hid (j4 w H x y L=nr 4 y):=t.out.symm;obtain⟨ec,ef,el,eo⟩:=y;go_wp2;obtain⟨S,M,O,Q,R⟩:=fj F.out.r (.slice none 0 0) (.int .i64 4) (.string ef) (.int .i64 el) (.int .i64 eo);exact QY (v:=.agg #[.slice none 0 0,.int .i64 4,.string ef,.int .i64 el,.int .i64 eo]) (by simp[results,results176,go_sem,S,M,O,Q,R]) rfl (by rw[U.out];exact gO rfl rfl (((((G.out.setCell (QV (by simp)) _).setCell (QV (by simp)) _).setCell (QV (by simp)) _).setCell (QV (by simp)) _).setCell (QV (by simp)) _))
   ·rw[QT (by rw[ba];simp)]at t
    by_cases bl:P.length=0
    ·rw[QW bl]at t
     have U:Hid (j4 w H x y L=nr 1 y):=t.out.symm;have cE:((P.length:Int)==0)=true:=by simpa using bl
     obtain⟨ec,ef,el,eo⟩:=y;go_wp2;obtain⟨S,M,O,Q,R⟩:=fj F.out.r (.slice none 0 0) (.int .i64 1) (.string ef) (.int .i64 el) (.int .i64 eo);exact QY (v:=.agg #[.slice none 0 0,.int .i64 1,.string ef,.int .i64 el,.int .i64 eo]) (by simp[results,results176,go_sem,S,M,O,Q,R]) rfl (by rw[U.out];exact gO rfl rfl (((((G.out.setCell (QV (by simp)) _).setCell (QV (by simp)) _).setCell (QV (by simp)) _).setCell (QV (by simp)) _).setCell (QV (by simp)) _))
    ·rw[QT bl]at t
     have U:Hid (j4 w H x y L=⟨P,0,⟨#[]⟩,0,0⟩):=t.out.symm;have cE:((P.length:Int)==0)=false:=by simpa using bl
     have bf:Hid (∀q,h.blk=some q->q≠D.heap.size+1):=fun q hq=>by have:=F.out.fp q hq;omega
     go_wp2;obtain⟨S,M,O,Q,R⟩:=fj F.out.r (.slice h.ao P.length h.cap) (.int .i64 0) (.string ⟨#[]⟩) (.int .i64 0) (.int .i64 0);exact QY (v:=.agg #[.slice h.ao P.length h.cap,.int .i64 0,.string ⟨#[]⟩,.int .i64 0,.int .i64 0]) (by simp[results,results176,go_sem,S,M,O,Q,R]) rfl (by rw[U.out];exact⟨h,rfl,⟨((((F.out.op.Vk bf.out _ _).Vk bf.out _ _).Vk bf.out _ _).Vk bf.out _ _).Vk bf.out _ _,fun q hq=>(by have:=F.out.fp q hq;omega),((((G.out.setCell (QV (by simp)) _).setCell (QV (by simp)) _).setCell (QV (by simp)) _).setCell (QV (by simp)) _).setCell (QV (by simp)) _⟩⟩)
def Ez(t:Tk):Lt:=⟨0,t.file,t.line,t.col⟩
def ve(T:List Tk)(S:List Sm)(a z:Nat):Nat->Nat->List Nat->jS
 | 0,_,_=>nr 3 (Ez (T.getD z jf))
 | n+1,i,refs =>
  if((tS T i).toList == [41])=true then j4 T S refs (Ez (T.getD z jf)) (eR T (i+1) z)
  else if eU T S a (tS T i)<0 then nr 2 (Ez (T.getD i jf))
  else if refs.contains (eU T S a (tS T i)).toNat=true then nr 3 (Ez (T.getD i jf))
  else ve T S a z n (i+1) (refs++[(eU T S a (tS T i)).toNat])
def jQ(T:List Tk)(S:List Sm)(a i z:Nat):jS:=ve T S a z (z-i) i (bW T S a)
theorem qD.cells(h:qD l z7 i):∀b,z7=some b->∀j u,(jX i)[j]?=some u->l.cell? (b.add j)=some u:=by
 intro b e j u a;rw[jX,Rq]at a
 cases d:i[j]? with
 | none=>rw[d]at a;cases a
 | some x =>
  rw[d]at a
  cases a
  obtain⟨g,f,-,c⟩:=h j x d;rw[e]at f
  cases f
  rw[bL];simpa using c
theorem LN:∀u∈jX x,u.oneCell'=true:=by
 intro u a;obtain⟨b,-,rfl⟩:=Si.1 a;rfl
theorem Mk(M:List Nat):(⟨(bB x).e,(bB x).size,(bB x).n+M.length,(bB x).xs++jX M⟩:dN)=bB (x++M):=by
 simp[bB,jX]
theorem gw.none(a:gw l y k z6):k.ao=none->z6.n=0/\k.cap=0:=fun e=>by
 rcases a.own.Vm with ⟨b,c,f⟩ | ⟨g,d,b,-⟩
 ·exact⟨c,by rw[b]⟩
 ·rw[e]at b;cases b
theorem gw.le(a:gw l y k z6):z6.n<=k.cap:=by
 rcases a.own.Vm with ⟨d,e,b⟩ | ⟨g,c,d,-,b,-⟩
 ·omega
 ·exact b
theorem sK:∀j∈bW w H b,j<b:=fun _ a=>Ra.1 (RH.1 a).1
theorem kj:(bW w H b).length<=b:=by
 unfold bW;have:=Sc (sJ w H b (Dj w H b)) (List.range b);rw[Tf]at this;exact this
theorem xg(f:dC w)(a z:Nat):(eR w a z).length<=1024*w.length:=by
 have:∀L:List Tk,(∀t∈L,t.s.size<=1024)->(L.flatMap um).length<=1024*L.length:=by
  intro L
  induction L with
  | nil=>intro _;simp
  | cons t L e =>
   intro h;have c:=h t (by simp);have d:=e (fun t b=>h t (by simp[b]));rw[RI,Q0,Rp];have:(um t).length=t.s.size:=by unfold um;simp
   omega
 have c:=this ((w.drop a).take (z-a)) (fun t b=>(f t (List.mem_of_mem_drop (Tb b))).1);have d:((w.drop a).take (z-a)).length<=w.length:=by rw[RQ,RT];omega
 unfold eR;omega
theorem Ht:0<=aF D b/\aF D b<256:=by
 unfold aF
 split
 ·next h=>have:=(D[b]'h).toNat_lt;omega
 ·omega
theorem Mu:∀l∈eR w d b,0<=l.c/\l.c<256:=by
 intro l a;unfold eR at a;obtain⟨t,-,e⟩:=TT.1 a;unfold um at e;obtain⟨k,-,rfl⟩:=Si.1 e;exact Ht _ _
theorem qr(h:l.heap[T]?=some (.cells #[.slice none 0 0,.int .i64 0,.string ⟨#[]⟩,.int .i64 0,.int .i64 0] 122 (0,0))) :
  (l.cell? ⟨T,0,none⟩=some (.slice none 0 0)/\l.cell? ⟨T,1,none⟩=some (.int .i64 0)/\l.cell? ⟨T,2,none⟩=some (.string ⟨#[]⟩)/\l.cell? ⟨T,3,none⟩=some (.int .i64 0)/\l.cell? ⟨T,4,none⟩=some (.int .i64 0)) /\
  (l.frozen? ⟨T,0,none⟩=false/\l.frozen? ⟨T,1,none⟩=false/\l.frozen? ⟨T,2,none⟩=false/\l.frozen? ⟨T,3,none⟩=false/\l.frozen? ⟨T,4,none⟩=false)/\T<l.heap.size:=by
 refine⟨⟨?_,?_,?_,?_,?_⟩,⟨am h 0,am h 1,am h 2,am h 3,am h 4⟩,ae h⟩
 all_goals (rw[aa h];rfl)
theorem Br(c:M=i.length)(h:∀q (a:q<i.length),q<M->i[q]≠T):i.contains T=false:=by
 cases e:i.contains T
 ·rfl
 ·rw[TG]at e
  obtain⟨q,a,b⟩:=R0 e;exact absurd b (h q a (by omega))
theorem EM(hD:fz n L w g I H z0 b)(ok:nK w H S)(hn:S<H.length)(hE:cU w (au H S).h)(hO:dC w)(hi:v<=f)(hz:f<w.length) :
  Calls prog 127 #[.pointer (some ⟨L,0,none⟩),.int .i64 S,.int .i64 v,.int .i64 f] n fun e w'=>om n (jQ w H S v f) e w':=by
 obtain⟨W,HW⟩:∃W,Hid (n.alloc (.cells #[.slice none 0 0,.int .i64 0,.string ⟨#[]⟩,.int .i64 0,.int .i64 0] 122)=W):=⟨_,rfl⟩
 have BW:W.heap[n.heap.size]?=some (.cells #[.slice none 0 0,.int .i64 0,.string ⟨#[]⟩,.int .i64 0,.int .i64 0] 122 (0,0)):=by rw[<-HW.out];exact QS _ _
 have N:Hid (ab [] n W):=by show ab [] n W;rw[<-HW.out];exact(ab.refl [] _).alloc _
 have cp:W.heap.size=n.heap.size+1:=by rw[<-HW.out];simp
 have G:=hI (hD.Vb N.out);have aT:=hI ok;have a3:=hI hO;have br:=ok.tm;have ch:=ok.sm;have ar:=hI (nP L S w g I H z0 b W G.out ok hn hE);have cc:=kj w H S;have bT:=hI (sK w H S);have bs:Hid (ve w H S f (f-v) v (bW w H S)=jQ w H S v f):=rfl;obtain⟨iN,a4,Q,V,T⟩:=Re z8;have b1:=hI BW
 -- a fault
 have O:Hid (∀(wr:World),ab [] W wr->(wr.heap[n.heap.size]?=some (.cells #[.slice none 0 0,.int .i64 0,.string ⟨#[]⟩,.int .i64 0,.int .i64 0] 122 (0,0)))):=fun wr k=>k.get b1.out (by simp)
 clear hD ok hO;generalize bW w H S=HY at *;go_enter func127,ntmps127
 go_upto_region 1 with fail
 rw[HW.out]
 go_upto_region 2 with (go_at_call 62;refine QU ar.out ?_;rintro e M ⟨h1,rfl,u⟩)
 have co:=hI u.kept;have P:=hI u.own.srcN.cells;have be:=hI u.none;have an:Hid (gw W M ⟨none,0⟩ (bB [])):=⟨QZ _ _ _ _,(by intro k hk;cases hk),u.kept⟩;have bg:=an.out.own;clear u ar
 go_upto_region 3 with (at_builtin;refine ed _ rfl (.const (.slice none 0 0)) (.tmp 18) 26 rfl iN (.int .i64 0) 8 ⟨none,0⟩ (bB []) underlying26 a4 Q V T rfl Rc rfl bg h1.ao HY.length h1.cap (jX HY) rfl (by simp[bB,jX]) be.out P.out (LN HY) (by simp only[bB,List.length_nil];omega) (by omega) ?_;intro h5 w5 ac bd;rw[Mk]at ac;have bj:=hI (an.out.Vl bd ac);clear ac bd)
 rw[Uu]at bj;have ax:(bB ([]:List Nat)).n+HY.length=HY.length:=by simp[bB]
 rw[ax];clear ax P be an bg;go_wp2
 go_loopg [10,11] (f-v) (fun b2 r iv wr=>∃(m:Nat) (y:Hd) (R:List Nat),(v<=m/\m<=f)/\b2=f-m/\r=.slice y.ao R.length y.cap/\iv=.int .i64 m/\R.length<=10000+m/\Hid (∀q∈R,q<S)/\Hid (ve w H S f (f-m) m R=jQ w H S v f)/\Hid (gw W wr y (bB R)))
 case atStart=>exact⟨v,h5,HY,⟨by omega,by omega⟩,rfl,rfl,rfl,by omega,bT,bs,bj⟩
 case round =>
  obtain⟨m,y,R,⟨cb,cy⟩,hg,rfl,rfl,cz,a0,c,X⟩:=hrel;have ag:=hI X.out.kept;have B:=hI (fz.Vb G.out ag.out);obtain⟨c0,-,hb⟩:=B.out.cells;have BR:=O.out wr ag.out;have b3:=hI (N.out.trans ag.out);obtain⟨⟨r0,r1,r2,r3,r4⟩,⟨f0,f1,f2,f3,f4⟩,J⟩:=qr BR;obtain⟨gT,rfl,K,t0,-,t2,t3,t4⟩:=B.out.t.2 f _ (iw w f hz);have cj:(f:Int)<(w.length:Int):=by omega
  by_cases ct:m<f
  ·have cl:(m:Int)<(f:Int):=by omega
   have b5:(m:Int)<(w.length:Int):=by omega
   obtain⟨ca,e2,-,u0,-,u2,u3,u4⟩:=B.out.t.2 m _ (iw w m (by omega))
   cases e2
   replace u0:wr.cell? ⟨gT,m*5,none⟩=some (.string (tS w m)):=u0;obtain⟨bw,hf⟩:∃bw,f-m=bw+1:=⟨f-m-1,by omega⟩
   rw[hf,ve]at c;have a1:Hid (Calls prog 128 #[.pointer (some ⟨L,0,none⟩),.int .i64 S,.string (tS w m)] wr fun e w'=>e=.returned (.int .i64 (eU w H S (tS w m)))/\ab [] wr w'):=xr L S (tS w m) w _ I H z0 b wr B.out aT.out;have s:=p9 w H S (tS w m);obtain⟨x,Hx⟩:∃x,Hid (tS w m=x):=⟨_,rfl⟩
   rw[Hx.out]at u0 c a1 s;clear Hx
   cases h1:(x.toList == [41])
   ·rw[QT (by rw[h1];simp)]at c
    go_upto_region 6 with (go_at_call 128;refine QU a1.out ?_;rintro e M ⟨rfl,k1⟩)
    have d:=hI (X.out.Vb k1);have i:=hI d.out.kept;have o:=hI (N.out.trans i.out);have l:=hI (fz.Vb G.out i.out);have Z:=O.out M i.out;clear r0 r1 r2 r3 r4 f0 f1 f2 f3 f4 J;clear k1 c0 hb t0 t2 t3 t4 u0 u2 u3 u4 K;obtain⟨⟨r0,r1,r2,r3,r4⟩,⟨f0,f1,f2,f3,f4⟩,J⟩:=qr Z;obtain⟨c0,-,hb⟩:=l.out.cells;obtain⟨bx,e3,K,-,-,u2,u3,u4⟩:=l.out.t.2 m _ (iw w m (by omega))
    cases e3
    rcases s with s | ⟨j,hj,s⟩
    ·rw[s,QW (by omega)]at c
     rw[s];have U:Hid (jQ w H S v f=nr 2 (Ez (w.getD m jf))):=c.out.symm;generalize w.getD m jf=tm at *;obtain⟨ms,mr,z,D,C⟩:=tm;simp only at u2 u3 u4;go_wp2;obtain⟨x0,u,A,x3,x4⟩:=fj Z (.slice none 0 0) (.int .i64 2) (.string z) (.int .i64 D) (.int .i64 C);exact QY (v:=.agg #[.slice none 0 0,.int .i64 2,.string z,.int .i64 D,.int .i64 C]) (by simp[results,results127,go_sem,x0,u,A,x3,x4]) rfl (by rw[U.out];exact gO rfl rfl (((((o.out.setCell (QV (by simp)) _).setCell (QV (by simp)) _).setCell (QV (by simp)) _).setCell (QV (by simp)) _).setCell (QV (by simp)) _))
    ·rw[s,QT (by omega),Sa]at c
     rw[s];have cf:¬(j:Int)<0:=by omega
     have bl:=hI d.out.own.srcN;have a6:=d.out.le;have b6:R.length<=y.cap:=a6;clear a6;obtain⟨a2,ba⟩:=y;go_wp2
     go_loopg [13] R.length (fun b2 kv wr=>∃q:Nat,q<=R.length/\b2=R.length-q/\kv=.int .i64 q/\Hid (∀p (hp:p<R.length),p<q->R[p]≠j)/\wr=M)
     case atStart=>exact⟨0,by omega,rfl,rfl,(fun p _ h=>by omega),rfl⟩
     case round =>
      obtain⟨q,hq,cu,rfl,bf,rfl⟩:=hrel
      by_cases a7:q<R.length
      ·have bv:(q:Int)<(R.length:Int):=by omega
       obtain⟨gR,af,ck,cq⟩:=bl.out q R[q] (QP a7);have aS:Hid (R[q]=j->R.contains j=true):=fun e=>by rw[TG,<-e];exact Rb a7
       have b4:Hid (R[q]≠j->∀p (hp:p<R.length),p<q+1->R[p]≠j):=fun e p hp h2=>by
        by_cases e2:p=q
        ·subst e2;exact e
        ·exact bf.out p hp (by omega)
       generalize R[q]=rq at *;replace af:a2=some ⟨gR,0,none⟩:=af;subst af
       by_cases ad:rq=j
       ·subst ad
        rw[QW (aS.out rfl)]at c;have U:Hid (jQ w H S v f=nr 3 (Ez (w.getD m jf))):=c.out.symm;generalize w.getD m jf=tm at *;obtain⟨ms,mr,z,D,C⟩:=tm;simp only at u2 u3 u4;go_wp2;obtain⟨x0,u,A,x3,x4⟩:=fj Z (.slice none 0 0) (.int .i64 3) (.string z) (.int .i64 D) (.int .i64 C);exact QY (v:=.agg #[.slice none 0 0,.int .i64 3,.string z,.int .i64 D,.int .i64 C]) (by simp[results,results127,go_sem,x0,u,A,x3,x4]) rfl (by rw[U.out];exact gO rfl rfl (((((o.out.setCell (QV (by simp)) _).setCell (QV (by simp)) _).setCell (QV (by simp)) _).setCell (QV (by simp)) _).setCell (QV (by simp)) _))
       ·have cs:((rq:Int)==(j:Int))=false:=by simpa using (fun e=>ad (by omega))
        have HM:=hI (b4.out ad);go_wp2
        go_roundg (R.length-(q+1))
        case measure=>omega
        case rel=>exact⟨q+1,by omega,rfl,by go_num,HM,rfl⟩
      ·have eq:q=R.length:=by omega
       rw[QT (by rw[Br eq bf.out];simp)]at c;have bv:¬(q:Int)<(R.length:Int):=by omega
       have b0:=d.out.own;have bo:(bB R).n<=900000000:=by show R.length<=_;omega
       have ap:Hid (∀q∈R++[j],q<S):=fun q hq=>by
        rcases Rr.1 hq with h | h
        ·exact a0.out q h
        ·rw[Q9.1 h];exact hj
       have bp:f-(m+1)=bw:=by omega
       go_wp2_with (at_builtin;refine bN _ rfl (.tmp 78) (.tmp 80) 26 rfl iN (.int .i64 0) 8 ⟨a2,ba⟩ (bB R) [.int .i64 (j:Int)] underlying26 a4 Q V T rfl Rc rfl b0 bo (by omega) rfl rfl (by simp[Value.oneCell']) ?_;intro h6 w6 Y az;rw[tn]at Y;have HA:=hI (d.out.Vl az Y);clear Y az)
       go_roundg (f-(m+1))
       case measure=>omega
       case rel=>exact⟨m+1,h6,R++[j],⟨by omega,by omega⟩,rfl,by simp[bB],by go_num,by simp;omega,ap,by rw[bp];exact c,HA⟩
   ·rw[QW h1]at c
    have cx:((m:Int)==(f:Int))=false:=by simpa using (fun e:(m:Int)=(f:Int)=>by omega)
    have P:((m+1:Nat):Int)=(m:Int)+1:=by omega
    have al:=hI (Fj w (some ⟨gT,0,none⟩) I (m+1) f wr B.out.t br (by omega) (by omega) a3.out);rw[P]at al
    go_upto_region 18 with (go_at_call 175;refine QU al.out ?_;rintro e M ⟨h2,rfl,u⟩)
    have k1:=u.kept;have bz:=hI (u.own.srcG NM);have d:=hI (X.out.Vb k1);have i:=hI d.out.kept;have o:=hI (N.out.trans i.out);have l:=hI (fz.Vb G.out i.out);have ai:=hI (JV L S w (some ⟨gT,0,none⟩) I H z0 b R y.ao y.cap (eR w (m+1) f) h2.ao h2.cap (Ez (w.getD f jf)) M l.out aT.out d.out.own.srcN a0.out (by omega) bz.out (by have:=xg w a3.out (m+1) f;omega) (Mu w (m+1) f));have U:Hid (jQ w H S v f=j4 w H R (Ez (w.getD f jf)) (eR w (m+1) f)):=c.out.symm;generalize eR w (m+1) f=SP at *;clear r0 r1 r2 r3 r4 f0 f1 f2 f3 f4 J;clear c0 hb t0 t2 t3 t4 u0 u2 u3 u4 K u al;obtain⟨c0,-,hb⟩:=l.out.cells;obtain⟨bx,e3,K,-,-,t2,t3,t4⟩:=l.out.t.2 f _ (iw w f hz)
    cases e3
    generalize w.getD f jf=tm at *;obtain⟨ms,mr,z,D,C⟩:=tm;simp only at t2 t3 t4;unfold Ez at ai U;simp only at ai;generalize j4 w H R ⟨0,z,D,C⟩ SP=PF at *;obtain⟨F,pw,pf,pl,pc⟩:=PF;have a5:Hid (Calls prog 176 #[.pointer (some ⟨L,0,none⟩),.slice y.ao R.length y.cap,.slice h2.ao SP.length h2.cap,.agg #[.string z,.int .i64 D,.int .i64 C]] M fun e w'=>∃y,e=.returned (.agg #[.slice y.ao F.length y.cap,.int .i64 pw,.string pf,.int .i64 pl,.int .i64 pc])/\gw M w' y (eI F)):=ai.out;go_wp2_with (go_at_call 176;refine QU a5.out ?_;rintro e w2 ⟨h3,rfl,A⟩;have bc:=O.out w2 (i.out.trans A.kept);obtain⟨⟨r0,r1,r2,r3,r4⟩,⟨f0,f1,f2,f3,f4⟩,J⟩:=qr bc);obtain⟨y0,y1,y2,y3,y4⟩:=fj bc (.slice h3.ao F.length h3.cap) (.int .i64 pw) (.string pf) (.int .i64 pl) (.int .i64 pc);have E:Hid (∀q,h3.blk=some q->q≠n.heap.size):=fun q hq=>by have:=A.far q hq;have:=o.out.size;have:=ae (O.out M i.out);omega
    have bk:=hI (o.out.trans A.kept);exact QY (v:=.agg #[.slice h3.ao F.length h3.cap,.int .i64 pw,.string pf,.int .i64 pl,.int .i64 pc]) (by simp[results,results127,go_sem,y0,y1,y2,y3,y4]) rfl (by rw[U.out];exact⟨h3,rfl,⟨((((A.own.Vk E.out _ _).Vk E.out _ _).Vk E.out _ _).Vk E.out _ _).Vk E.out _ _,fun q hq=>(by have:=A.far q hq;have:=o.out.size;omega),((((bk.out.setCell (QV (by simp)) _).setCell (QV (by simp)) _).setCell (QV (by simp)) _).setCell (QV (by simp)) _).setCell (QV (by simp)) _⟩⟩)
  ·have e:m=f:=by omega
   subst e;rw[RY,ve]at c;have U:Hid (jQ w H S v m=nr 3 (Ez (w.getD m jf))):=c.out.symm;generalize w.getD m jf=tm at *;obtain⟨ms,mr,z,D,C⟩:=tm;simp only at t2 t3 t4;go_wp2;obtain⟨x0,u,A,x3,x4⟩:=fj BR (.slice none 0 0) (.int .i64 3) (.string z) (.int .i64 D) (.int .i64 C);exact QY (v:=.agg #[.slice none 0 0,.int .i64 3,.string z,.int .i64 D,.int .i64 C]) (by simp[results,results127,go_sem,x0,u,A,x3,x4]) rfl (by rw[U.out];exact gO rfl rfl (((((b3.out.setCell (QV (by simp)) _).setCell (QV (by simp)) _).setCell (QV (by simp)) _).setCell (QV (by simp)) _).setCell (QV (by simp)) _))
def m9(T:List Tk)(S:List Sm)(a zt:Nat):Nat->Nat->List dj->jS
 | 0,_,P=>if P.length=0 then nr 1 (Ez (T.getD zt jf)) else⟨P,0,⟨#[]⟩,0,0⟩
 | n+1,i,P =>
  if((tS T i).toList == [63])=true then m9 T S a zt n (i+1) (P++[⟨-1,0,0,(T.getD i jf).file,(T.getD i jf).line,(T.getD i jf).col⟩])
  else if eU T S a (tS T i)<0 then nr 2 (Ez (T.getD i jf))
  else m9 T S a zt n (i+1) (P++[⟨eU T S a (tS T i),0,iD T S (eU T S a (tS T i)),(T.getD i jf).file,(T.getD i jf).line,(T.getD i jf).col⟩])
def fU(T:List Tk)(S:List Sm)(a e zt:Nat):jS:=if((tS T (e+1)).toList == [40])=true then jQ T S a (e+2) zt else m9 T S a zt (zt-(e+1)) (e+1) []
structure Ol(w wr:World)(P:List dj)(h:Hd):Prop where
 r:wr.heap[w.heap.size]?=some (.cells #[.slice none 0 0,.int .i64 0,.string ⟨#[]⟩,.int .i64 0,.int .i64 0] 122 (0,0))
 p:wr.heap[w.heap.size+1]?=some (.cells #[.slice h.ao P.length h.cap,.int .i64 0,.string ⟨#[]⟩,.int .i64 0,.int .i64 0] 122 (0,0))
 op:aw wr h (eI P)
 fp:∀k,h.blk=some k->w.heap.size+1<k
 kept:ab [] w wr
theorem Ol.Vb{P:List dj}(b:Ol l y P k)(c:ab [] y a):Ol l a P k:=⟨c.get b.r (by simp),c.get b.p (by simp),b.op.Vb c,b.fp,b.kept.trans c⟩
theorem Ol.addP{P f:List dj}(b:Ol l y P k)(g:bt y a k o)(n:aw a o (eI f)){m:Nat}(i:m=f.length):Ol l (a.setCell ⟨l.heap.size+1,0,none⟩ (.slice o.ao m o.cap)) f o:=by
 subst i;have s:∀q,q<=l.heap.size+1->q∉k.blk.toList:=fun q c i=>by have:=b.fp q (aN i);omega
 have x:=ae b.p;have v:=g.kept.get b.r (s _ (by omega));have w:=g.kept.get b.p (s _ (by omega))
 have d:∀h,o.blk=some h->l.heap.size+1<h:=fun h j=>by
  rcases g.blk with e | ⟨q,e,c⟩
  ·exact b.fp h (by rw[<-e];exact j)
  ·rw[e]at j;cases j;omega
 have t:ab [l.heap.size+1] a (a.setCell ⟨l.heap.size+1,0,none⟩ (.slice o.ao f.length o.cap)):=(ab.refl _ _).setCell (Q1 (by simp)) _;have u:ab [] l a:=pK g.kept (fun q c=>by have:=b.fp q (aN c);omega) b.kept;exact⟨t.get v (by simp),by rw[ah w];rfl,n.Vg (fun q c=>t.block q (n.lt c) (by simp;have:=d q c;omega)),d,u.setCell (QV (by simp)) _⟩
theorem DR(hD:fz n L w g I H z0 b)(ok:nK w H S)(hn:S<H.length)(hE:cU w (au H S).h)(hO:dC w)(bj:(au H S).h<=v)(cx:((tS w v).toList == [36,61])=true)(bd:∀q,(au H S).h<=q->q<v->((tS w q).toList == [36,61])=false)(bl:(au H S).z=f+1)(cz:v<f)(b6:f<w.length)(V:((tS w f).toList == [36,46])=true) :
  Calls prog 88 #[.pointer (some ⟨L,0,none⟩),.int .i64 S] n fun en w'=>om n (fU w H S v f) en w':=by
 obtain⟨W,HW⟩:∃W,Hid (n.alloc (.cells #[.slice none 0 0,.int .i64 0,.string ⟨#[]⟩,.int .i64 0,.int .i64 0] 122)=W):=⟨_,rfl⟩
 have BW:W.heap[n.heap.size]?=some (.cells #[.slice none 0 0,.int .i64 0,.string ⟨#[]⟩,.int .i64 0,.int .i64 0] 122 (0,0)):=by rw[<-HW.out];exact QS _ _
 have a0:Hid (ab [] n W):=by show ab [] n W;rw[<-HW.out];exact(ab.refl [] _).alloc _
 have bw:W.heap.size=n.heap.size+1:=by rw[<-HW.out];simp
 have K:=hI (hD.Vb a0.out);have ad:=hI hD;have ax:=hI ok;have bs:=hI hO;have cj:=ok.tm;have cl:=ok.sm;have cs:(S:Int)<(H.length:Int):=by omega
 have HB:=hI BW;have ba:=hI bd;have b2:=hI hE;obtain⟨iP,a4,an,ag,ai⟩:=Re Lx;obtain⟨c0,c1,hb⟩:=K.out.cells;obtain⟨gS,rfl,br,-,q1,q2,-⟩:=K.out.s.2 S H[S] (QP hn);rw[bM H S hn]at q1 q2;rw[bl]at q1;obtain⟨gT,rfl,l,-⟩:=K.out.t.2 v _ (iw w v (by omega));obtain⟨hd,a5⟩:∃hd,Hid ((au H S).h=hd):=⟨_,rfl⟩
 rw[a5.out]at q2 bj ba;clear hD ok hO bd hE a5;have b3:((f+1:Nat):Int)=(f:Int)+1:=by omega
 rw[b3]at q1;go_enter func88,ntmps88
 go_upto_region 1 with fail
 rw[HW.out];go_wp2
 go_loopg [5] (v-hd) (fun b5 i wr=>∃k:Nat,(hd<=k/\k<=v)/\b5=v-k/\i=.int .i64 k/\wr=W)
 case atStart=>exact⟨hd,⟨by omega,by omega⟩,rfl,rfl,rfl⟩
 case round =>
  obtain⟨k,⟨b0,cb⟩,hg,rfl,rfl⟩:=hrel;have ct:(k:Int)<(w.length:Int):=by omega
  obtain⟨cc,e2,-,t0,-⟩:=K.out.t.2 k _ (iw w k (by omega))
  cases e2
  replace t0:wr.cell? ⟨gT,k*5,none⟩=some (.string (tS w k)):=t0
  by_cases bz:k<v
  ·have hx:=ba.out k b0 bz
   generalize tS w k=x at *;go_wp2
   go_roundg (v-(k+1))
   case measure=>omega
   case rel=>exact⟨k+1,⟨by omega,by omega⟩,rfl,by go_num,rfl⟩
  ·have ek:k=v:=by omega
   subst ek;obtain⟨cp,e3,-,D,-⟩:=K.out.t.2 (k+1) _ (iw w (k+1) (by omega))
   cases e3
   replace D:wr.cell? ⟨gT,(k+1)*5,none⟩=some (.string (tS w (k+1))):=D;have ca:(k:Int)+1<(w.length:Int):=by omega
   have be:Hid (((tS w (k+1)).toList == [40])=true->Calls prog 127 #[.pointer (some ⟨L,0,none⟩),.int .i64 S,.int .i64 ((k:Int)+1+1),.int .i64 f] wr fun en w'=>om wr (jQ w H S (k+2) f) en w'):=fun h=>by
    have cA:k+1≠f:=fun v=>by
     rw[<-v]at V;have a1:(tS w (k+1)).toList=[40]:=by simpa using h
     rw[a1]at V;exact absurd V (by decide)
    have:=EM L S (k+2) f w _ I H _ b wr K.out ax.out hn b2.out bs.out (by omega) b6;rw[show((k+2:Nat):Int)=(k:Int)+1+1 by omega]at this;exact this
   have O:Hid (fU w H S k f=if((tS w (k+1)).toList == [40])=true then jQ w H S (k+2) f else m9 w H S f (f-(k+1)) (k+1) []):=rfl;obtain⟨x,Hx⟩:∃x,Hid (tS w (k+1)=x):=⟨_,rfl⟩
   rw[Hx.out]at D be O;generalize tS w k=y at *
   cases hx:(x.toList == [40])
   ·rw[QT (by rw[hx];simp)]at O
    have S0:Hid (Ol n (wr.alloc (.cells #[.slice none 0 0,.int .i64 0,.string ⟨#[]⟩,.int .i64 0,.int .i64 0] 122)) [] ⟨none,0⟩):=⟨((ab.refl [] _).alloc _).get HB.out (by simp),by rw[<-bw];exact QS _ _,QZ _ _ _ _,(by intro k hk;cases hk),a0.out.alloc _⟩;have bk:Hid (m9 w H S f (f-(k+1)) (k+1) []=fU w H S k f):=O.out.symm;go_wp2
    go_loopg [8] (f-(k+1)) (fun b5 i w1=>∃(m:Nat) (h:Hd) (P:List dj),(k+1<=m/\m<=f)/\b5=f-m/\i=.int .i64 m/\P.length<=m/\Hid (m9 w H S f (f-m) m P=fU w H S k f)/\Hid (Ol n w1 P h))
    case atStart=>exact⟨k+1,⟨none,0⟩,[],⟨by omega,by omega⟩,rfl,by go_num,Ro _,bk,S0⟩
    case round =>
     obtain⟨m,h,P,⟨ch,cy⟩,cu,rfl,co,c,d⟩:=hrel;have a2:=hI d.out.kept;have af:=hI (fz.Vb ad.out a2.out);clear c0 c1 hb q1 q2 br l t0 D;obtain⟨c0,-,hb⟩:=af.out.cells
     by_cases cq:m<f
     ·have bo:(m:Int)<(f:Int):=by omega
      have a6:(m:Int)<(w.length:Int):=by omega
      obtain⟨cf,e4,l,D,-⟩:=af.out.t.2 m _ (iw w m (by omega))
      cases e4
      replace D:wr.cell? ⟨gT,m*5,none⟩=some (.string (tS w m)):=D;obtain⟨bp,hf⟩:∃bp,f-m=bp+1:=⟨f-m-1,by omega⟩
      have a3:f-(m+1)=bp:=by omega
      rw[hf,m9]at c;have az:Hid (Calls prog 128 #[.pointer (some ⟨L,0,none⟩),.int .i64 S,.string (tS w m)] wr fun v w'=>v=.returned (.int .i64 (eU w H S (tS w m)))/\ab [] wr w'):=xr L S (tS w m) w _ I H _ b wr af.out ax.out;have A:=p9 w H S (tS w m);obtain⟨aT,Hv⟩:∃aT,Hid (tS w m=aT):=⟨_,rfl⟩
      rw[Hv.out]at D c az A
      go_upto_region 13 with (go_at_call 128;refine QU az.out ?_;rintro v w1 ⟨rfl,k1⟩)
      have J:=hI (d.out.Vb k1);have al:=hI J.out.kept;have R:=hI (fz.Vb ad.out al.out);have M:=J.out.r;clear k1 c0 hb D l az;obtain⟨c0,-,hb⟩:=R.out.cells;obtain⟨bv,e5,l,D,-,Y,u3,u4⟩:=R.out.t.2 m _ (iw w m (by omega))
      cases e5
      replace D:w1.cell? ⟨gT,m*5,none⟩=some (.string (tS w m)):=D;rw[Hv.out]at D
      cases G:(aT.toList == [63])
      ·rw[QT (by rw[G];simp)]at c
       rcases A with A | ⟨j,hj,A⟩
       ·rw[A,QW (by omega)]at c
        rw[A];have HX:Hid (fU w H S k f=nr 2 (Ez (w.getD m jf))):=c.out.symm;generalize w.getD m jf=tm at *;obtain⟨ms,mr,u,C,B⟩:=tm;simp only at Y u3 u4;obtain⟨⟨r0,r1,r2,r3,r4⟩,⟨f0,f1,f2,f3,f4⟩,a7⟩:=qr M;go_wp2;obtain⟨x0,x1,Q,x3,x4⟩:=fj M (.slice none 0 0) (.int .i64 2) (.string u) (.int .i64 C) (.int .i64 B);exact QY (v:=.agg #[.slice none 0 0,.int .i64 2,.string u,.int .i64 C,.int .i64 B]) (by simp[results,results88,go_sem,x0,x1,Q,x3,x4]) rfl (by rw[HX.out];exact gO rfl rfl (((((al.out.setCell (QV (by simp)) _).setCell (QV (by simp)) _).setCell (QV (by simp)) _).setCell (QV (by simp)) _).setCell (QV (by simp)) _))
       ·rw[A,QT (by omega)]at c
        rw[A];have ck:¬(j:Int)<0:=by omega
        have N:=hI (yR L S j w _ I H _ b w1 R.out ax.out hj);generalize iD w H (j:Int)=nd at *
        go_upto_region 18 with (go_at_call 129;refine QU N.out ?_;rintro v w2 ⟨rfl,k2⟩)
        have a:=hI (J.out.Vb k2);have o:=hI (fz.Vb ad.out a.out.kept);clear c0 hb D Y u3 u4 l k2 N;obtain⟨c0,-,hb⟩:=o.out.cells;obtain⟨b4,e6,l,-,-,Y,u3,u4⟩:=o.out.t.2 m _ (iw w m (by omega))
        cases e6
        generalize w.getD m jf=tm at *;obtain⟨ms,mr,u,C,B⟩:=tm;simp only at Y u3 u4;have p0:w2.cell? ⟨n.heap.size+1,0,none⟩=some (.slice h.ao P.length h.cap):=by rw[aa a.out.p];rfl
        have p1:=am a.out.p 0;have p2:=ae a.out.p;have U:=a.out.op;have ap:Hid ((eI P).n<=900000000):=by show P.length<=_;omega
        have ar:Hid ((eI P).n=P.length):=rfl
        go_region_law (refine bH w2 rfl (.tmp 97) (.tmp 109) 120 rfl iP (.agg #[.int .i64 0,.int .i64 0,.int .i64 0,.string ⟨#[]⟩,.int .i64 0,.int .i64 0]) 56 h (eI P) [.int .i64 (j:Int),.int .i64 0,.int .i64 (nd:Int),.string u,.int .i64 C,.int .i64 B] underlying120 a4 an ag ai rfl (show 0<6 by omega) (by rw[ar.out];simp[Act.eval]) U ap.out (by omega) (by simp[Act.eval]) rfl (tB (⟨(j:Int),0,nd,u,C,B⟩:dj)) ?_;intro aS T w5 E F;have X:=F.kept.get a.out.p (fun G=>by have:=a.out.fp _ (aN G);omega);have f5:=am X 0;have c5:w5.cell? ⟨n.heap.size+1,0,none⟩=some (.slice h.ao P.length h.cap):=(by rw[aa X];rfl);have z5:=ae X)
        all_goals
         rw[show([.int .i64 (j:Int),.int .i64 0,.int .i64 (nd:Int),.string u,.int .i64 C,.int .i64 B]:List Value)=kV (⟨(j:Int),0,nd,u,C,B⟩:dj) from rfl,mK]at E;have HA:=hI (a.out.addP (m:=(eI P).n+1) F E (by simp[eI,kU]));clear E F X f5 c5 z5;go_wp2
         go_roundg (f-(m+1))
         case measure=>omega
         case rel=>exact⟨m+1,⟨aS,T⟩,P++[(⟨(j:Int),0,nd,u,C,B⟩:dj)],⟨by omega,by omega⟩,rfl,by go_num,by simp;omega,by rw[a3];exact c,HA⟩
      ·rw[QW G]at c
       have N:=hI (IW (.pointer (some ⟨L,0,none⟩)) w H w1);have b1:Hid (iD w H (-1)=0):=rfl;rw[b1.out]at N
       go_upto_region 18 with (go_at_call 129;refine QU N.out ?_;rintro v w2 ⟨rfl,k2⟩)
       have a:=hI (J.out.Vb k2);have o:=hI (fz.Vb ad.out a.out.kept);clear c0 hb D Y u3 u4 l k2 N;obtain⟨c0,-,hb⟩:=o.out.cells;obtain⟨b4,e6,l,-,-,Y,u3,u4⟩:=o.out.t.2 m _ (iw w m (by omega))
       cases e6
       generalize w.getD m jf=tm at *;obtain⟨ms,mr,u,C,B⟩:=tm;simp only at Y u3 u4;have p0:w2.cell? ⟨n.heap.size+1,0,none⟩=some (.slice h.ao P.length h.cap):=by rw[aa a.out.p];rfl
       have p1:=am a.out.p 0;have p2:=ae a.out.p;have U:=a.out.op;have ap:Hid ((eI P).n<=900000000):=by show P.length<=_;omega
       have ar:Hid ((eI P).n=P.length):=rfl
       go_region_law (refine bH w2 rfl (.tmp 97) (.tmp 109) 120 rfl iP (.agg #[.int .i64 0,.int .i64 0,.int .i64 0,.string ⟨#[]⟩,.int .i64 0,.int .i64 0]) 56 h (eI P) [.int .i64 (-1),.int .i64 0,.int .i64 0,.string u,.int .i64 C,.int .i64 B] underlying120 a4 an ag ai rfl (show 0<6 by omega) (by rw[ar.out];simp[Act.eval]) U ap.out (by omega) (by simp[Act.eval]) rfl (tB (⟨(-1),0,0,u,C,B⟩:dj)) ?_;intro aS T w5 E F;have X:=F.kept.get a.out.p (fun G=>by have:=a.out.fp _ (aN G);omega);have f5:=am X 0;have c5:w5.cell? ⟨n.heap.size+1,0,none⟩=some (.slice h.ao P.length h.cap):=(by rw[aa X];rfl);have z5:=ae X)
       all_goals
        rw[show([.int .i64 (-1),.int .i64 0,.int .i64 0,.string u,.int .i64 C,.int .i64 B]:List Value)=kV (⟨(-1),0,0,u,C,B⟩:dj) from rfl,mK]at E;have HA:=hI (a.out.addP (m:=(eI P).n+1) F E (by simp[eI,kU]));clear E F X f5 c5 z5;go_wp2
        go_roundg (f-(m+1))
        case measure=>omega
        case rel=>exact⟨m+1,⟨aS,T⟩,P++[(⟨(-1),0,0,u,C,B⟩:dj)],⟨by omega,by omega⟩,rfl,by go_num,by simp;omega,by rw[a3];exact c,HA⟩
     ·have em:m=f:=by omega
      subst em;rw[RY,m9]at c;have bo:¬(m:Int)<(m:Int):=by omega
      have a6:(m:Int)<(w.length:Int):=by omega
      obtain⟨bv,e5,l,-,-,Y,u3,u4⟩:=af.out.t.2 m _ (iw w m (by omega))
      cases e5
      have M:=d.out.r;obtain⟨⟨r0,r1,r2,r3,r4⟩,⟨f0,f1,f2,f3,f4⟩,a7⟩:=qr M;have p0:wr.cell? ⟨n.heap.size+1,0,none⟩=some (.slice h.ao P.length h.cap):=by rw[aa d.out.p];rfl
      have p1:wr.cell? ⟨n.heap.size+1,1,none⟩=some (.int .i64 0):=by rw[aa d.out.p];rfl
      have p2:wr.cell? ⟨n.heap.size+1,2,none⟩=some (.string ⟨#[]⟩):=by rw[aa d.out.p];rfl
      have p3:wr.cell? ⟨n.heap.size+1,3,none⟩=some (.int .i64 0):=by rw[aa d.out.p];rfl
      have p4:wr.cell? ⟨n.heap.size+1,4,none⟩=some (.int .i64 0):=by rw[aa d.out.p];rfl
      have X:=ae d.out.p
      by_cases Z:P.length=0
      ·rw[QW Z]at c
       have HX:Hid (fU w H S k m=nr 1 (Ez (w.getD m jf))):=c.out.symm;have bx:((P.length:Int)==0)=true:=by simpa using Z
       generalize w.getD m jf=tm at *;obtain⟨ms,mr,u,C,B⟩:=tm;simp only at Y u3 u4;go_wp2;obtain⟨x0,x1,Q,x3,x4⟩:=fj M (.slice none 0 0) (.int .i64 1) (.string u) (.int .i64 C) (.int .i64 B);exact QY (v:=.agg #[.slice none 0 0,.int .i64 1,.string u,.int .i64 C,.int .i64 B]) (by simp[results,results88,go_sem,x0,x1,Q,x3,x4]) rfl (by rw[HX.out];exact gO rfl rfl (((((a2.out.setCell (QV (by simp)) _).setCell (QV (by simp)) _).setCell (QV (by simp)) _).setCell (QV (by simp)) _).setCell (QV (by simp)) _))
      ·rw[QT Z]at c
       have HX:Hid (fU w H S k m=⟨P,0,⟨#[]⟩,0,0⟩):=c.out.symm;have bx:((P.length:Int)==0)=false:=by simpa using Z
       have e:Hid (∀q,h.blk=some q->q≠n.heap.size):=fun q G=>by have:=d.out.fp q G;omega
       go_wp2;obtain⟨x0,x1,Q,x3,x4⟩:=fj M (.slice h.ao P.length h.cap) (.int .i64 0) (.string ⟨#[]⟩) (.int .i64 0) (.int .i64 0);exact QY (v:=.agg #[.slice h.ao P.length h.cap,.int .i64 0,.string ⟨#[]⟩,.int .i64 0,.int .i64 0]) (by simp[results,results88,go_sem,x0,x1,Q,x3,x4]) rfl (by rw[HX.out];exact⟨h,rfl,⟨((((d.out.op.Vk e.out _ _).Vk e.out _ _).Vk e.out _ _).Vk e.out _ _).Vk e.out _ _,fun q G=>(by have:=d.out.fp q G;omega),((((a2.out.setCell (QV (by simp)) _).setCell (QV (by simp)) _).setCell (QV (by simp)) _).setCell (QV (by simp)) _).setCell (QV (by simp)) _⟩⟩)
   ·rw[QW hx]at O
    have bT:=hI (be.out hx);generalize jQ w H S (k+2) f=PF at *;obtain⟨ac,pw,pf,pl,pc⟩:=PF;have bg:Hid (Calls prog 127 #[.pointer (some ⟨L,0,none⟩),.int .i64 S,.int .i64 ((k:Int)+1+1),.int .i64 f] wr fun en w'=>∃h',en=.returned (.agg #[.slice h'.ao ac.length h'.cap,.int .i64 pw,.string pf,.int .i64 pl,.int .i64 pc])/\gw wr w' h' (eI ac)):=bT.out;go_wp2_with (go_at_call 127;refine QU bg.out ?_;rintro en w2 ⟨h3,rfl,Q⟩;have bc:=Q.kept.get HB.out (by simp);obtain⟨⟨r0,r1,r2,r3,r4⟩,⟨f0,f1,f2,f3,f4⟩,a7⟩:=qr bc);obtain⟨y0,y1,y2,y3,y4⟩:=fj bc (.slice h3.ao ac.length h3.cap) (.int .i64 pw) (.string pf) (.int .i64 pl) (.int .i64 pc);have e:Hid (∀q,h3.blk=some q->q≠n.heap.size):=fun q G=>by have:=Q.far q G;omega
    have bf:=hI (a0.out.trans Q.kept);exact QY (v:=.agg #[.slice h3.ao ac.length h3.cap,.int .i64 pw,.string pf,.int .i64 pl,.int .i64 pc]) (by simp[results,results88,go_sem,y0,y1,y2,y3,y4]) rfl (by rw[O.out];exact⟨h3,rfl,⟨((((Q.own.Vk e.out _ _).Vk e.out _ _).Vk e.out _ _).Vk e.out _ _).Vk e.out _ _,fun q G=>(by have:=Q.far q G;omega),((((bf.out.setCell (QV (by simp)) _).setCell (QV (by simp)) _).setCell (QV (by simp)) _).setCell (QV (by simp)) _).setCell (QV (by simp)) _⟩⟩)
end Go.Proofs.YtpddjjabfbfifaaGreat
