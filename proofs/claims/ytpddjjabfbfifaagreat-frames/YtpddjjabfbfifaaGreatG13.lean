import Derived.Deep.RegionHeld3
import Derived.Laws.OwnMore
import Derived.BigQuiet
import Derived.Test.YtpddjjabfbfifaaGreatG12
namespace Go.Proofs.YtpddjjabfbfifaaGreat
open Go.RowKit Tryz
set_option maxRecDepth 100000
set_option maxHeartbeats 40000000
variable{y:List Tk}{x:List Sm}{v:ByteArray}{D z4:Nat}{d M g:World}{I z0:Hd}{y1:Array Oper}{y3:List Oper}{z7:Oper}{zb:Act}{y4:Exit->Act->World->Prop}{z2:Option Addr}{z1:List ByteArray}{z6:dN}{y0:List Nat}(a f:Nat)(i H:ByteArray)(N:List ByteArray)(l:Nat)(b:List Tk)(L:Option Addr)(o:Nat)(w:List Sm)(k:Option Addr)(T:Nat)(n:World)(zt:ByteArray)(z3:Sm)(S:Nat)
def tV(T:List Tk)(S:List Sm)(v:ByteArray)(n j:Nat):Bool:=((au S j).k.toList == [36,102])&&(((tS T ((au S j).h+1)).toList==v.toList)&&aV S j n)
def gg(T:List Tk)(S:List Sm)(v:ByteArray)(n:Nat):Int:=match (List.range n).find? (tV T S v n) with
 | some j=>j
 | none=>-1
theorem In(a:z4<D)(h:tV y x v D z4=true)(c:∀j,j<z4->tV y x v D j=false):gg y x v D=z4:=by
 have e:(List.range D).find? (tV y x v D)=some z4:=by
  rw[Sj];exact⟨h,Ra.2 a,fun j b=>by rw[c j b];rfl⟩
 unfold gg;rw[e]
theorem Li(b:∀j,j<D->tV y x v D j=false):gg y x v D=-1:=by
 have e:(List.range D).find? (tV y x v D)=none:=by
  rw[Sk];intro j a;rw[b j (Ra.1 a)];simp
 unfold gg;rw[e]
theorem Ik(O:fz n a b L o w k T)(F:il b w f)(hf:∀j,j<f->((au w j).k.toList == [36,102])=true->(au w j).h+1<b.length) :
  Calls prog 174 #[.pointer (some ⟨a,0,none⟩),.string H,.int .i64 f] n fun e J=>e=.returned (.int .i64 (gg b w H f))/\ab [] n J:=by
 have P:=hI O;have hn:=F.m;have Y:=F.s;have hT:=F.t;clear O;go_enter func174,ntmps174;go_wp2
 go_loopg [7] f (fun g i wr=>∃c:Nat,c<=f/\g=f-c/\i=.int .i64 c/\Hid (∀j,j<c->tV b w H f j=false)/\Hid (ab [] n wr))
 case atStart=>exact⟨0,by omega,rfl,rfl,(fun j hj=>by omega),ab.refl _ _⟩
 case round =>
  obtain⟨c,hk,hg,rfl,E,B⟩:=hrel
  by_cases z:c<f
  ·have v:c<w.length:=by omega
   have r:=hI (fz.Vb P.out B.out);obtain⟨c0,c1,hb⟩:=r.out.cells;obtain⟨gs,rfl,af,-,-,V,q3⟩:=r.out.s.2 c w[c] (QP v);have ad:(c:Int)<(f:Int):=by omega
   have Q:(c:Int)<(w.length:Int):=by omega
   have u:Hid (tV b w H f c=((w[c].k.toList == [36,102])&&(((tS b (w[c].h+1)).toList==H.toList)&&aV w c f))):=by show _=_;unfold tV;rw[bM w c v]
   have R:Hid ((w[c].k.toList == [36,102])=true->w[c].h+1<b.length):=by have:=hf c z;rw[<-bM w c v]at this;exact this
   have C:Hid (∀A,ab [] n A->Calls prog 92 #[.pointer (some ⟨a,0,none⟩),.int .i64 c,.int .i64 f] A fun e J=>e=.returned (.bool (aV w c f))/\J=A):=fun A kx=>lk a c f b L o w _ T A (fz.Vb P.out kx) (by omega) hn Y
   generalize w[c]=s at *;obtain⟨sa,sz,l,sk⟩:=s;simp only at V q3 u R;obtain⟨M,I⟩:∃M,Hid (aV w c f=M):=⟨_,rfl⟩
   rw[I.out]at u C
   cases x:(sk.toList == [36,102])
   ·have q:=hI (dU E.out (by rw[u.out,x];rfl))
    go_upto_region 4 with fail
    go_region
    all_goals
     have d:=hI B.out.drew;go_wp2
     go_roundg (f-(c+1))
     case measure=>omega
     case rel=>exact⟨c+1,by omega,rfl,by go_num,q,d⟩
   ·have G:=R.out x
    obtain⟨Z,rfl,W,N,-⟩:=r.out.t.2 (l+1) _ (iw b (l+1) G);replace N:wr.cell? ⟨Z,(l+1)*5,none⟩=some (.string (tS b (l+1))):=N;obtain⟨y,U⟩:∃y,Hid (tS b (l+1)=y):=⟨_,rfl⟩
    rw[U.out]at N u;have X:(l:Int)+1<(b.length:Int):=by omega
    have ag:IntKind.i64.wrap ((l:Int)+1)=(l:Int)+1:=by rw[R9];omega
    have S:((l:Int)+1).toNat=l+1:=by omega
    have ai:(0:Int)<=(l:Int)+1:=by omega
    cases K:(y.toList==H.toList)
    ·have q:=hI (dU E.out (by rw[u.out,x,K];rfl))
     go_upto_region 4 with fail
     go_region
     all_goals
      have d:=hI B.out.drew;go_wp2
      go_roundg (f-(c+1))
      case measure=>omega
      case rel=>exact⟨c+1,by omega,rfl,by go_num,q,d⟩
    ·go_upto_region 4 with fail
     go_region
     all_goals
      have d:=hI B.out.drew;have D:=hI (C.out wr.drew d.out)
     cases M
     ·have q:=hI (dU E.out (by rw[u.out,x,K];rfl))
      go_wp2_with (go_at_call 92;refine QU D.out ?_;rintro e w9 ⟨rfl,p⟩;rw[p];clear p)
      go_roundg (f-(c+1))
      case measure=>omega
      case rel=>exact⟨c+1,by omega,rfl,by go_num,q,d⟩
     ·have q:Hid (gg b w H f=c):=In z (by rw[u.out,x,K];rfl) E.out
      go_wp2_with (go_at_call 92;refine QU D.out ?_;rintro e w9 ⟨rfl,p⟩;rw[p];clear p);go_ret;exact⟨QN q.out.symm,d.out⟩
  ·have q:Hid (gg b w H f=-1):=Li (fun j hj=>E.out j (by omega))
   go_wp2;go_ret;exact⟨QN q.out.symm,B.out⟩
def l8(T:List Tk)(S:List Sm)(n:Nat):Prop:=∀j,j<n->((au S j).k.toList == [36,102])=true->(au S j).h+1<T.length
def jm(T:List Tk)(S:List Sm)(key x:ByteArray)(n:Nat)(before:List ByteArray):Int :=
 if(key.toList == [36,100])=true then(if kZ T S x n=false then 18 else if aJ before x=true then 19 else 0)
 else if(before.length==0)=true then(if eF T S x n=false then 17 else 0)
 else if(key.toList == [36,102])=true then(if 1<before.length then 16 else if kZ T S x n=false then 18 else if 0<=gg T S x n then 20 else 0)
 else if eF T S x n=true then 0 else if kZ T S x n=false then 21 else if gg T S x n<0 then 22 else 0
theorem Fn(T:List Tk)(r:Option Addr)(O:Nat)(d:List Sm)(x:Option Addr)(K:Nat)(w:World)(L:fz w a T r O d x K)(u:il T d f)(hf:l8 T d f)(W:ge w k N)(Z:N.length<=1000000) :
  Calls prog 126 #[.pointer (some ⟨a,0,none⟩),.string i,.string H,.int .i64 f,.slice k N.length S] w fun e B=>e=.returned (.int .i64 (jm T d i H f N))/\ab [] w B:=by
 have V:=hI (tM a f H T r O d x K w L u.m u.s u.t u.c);have F:Hid (∀j,ab [] w j->Calls prog 173 #[.pointer (some ⟨a,0,none⟩),.string H,.int .i64 f] j fun e B=>e=.returned (.bool (kZ T d H f))/\ab [] j B):=fun j C=>AJ a f H T r O d x K j (L.Vb C) u.m u.s u.t u.v
 have G:Hid (∀j,ab [] w j->Calls prog 174 #[.pointer (some ⟨a,0,none⟩),.string H,.int .i64 f] j fun e B=>e=.returned (.int .i64 (gg T d H f))/\ab [] j B):=fun j C=>Ik a f H T r O d x K j (L.Vb C) u hf
 have J:Hid (∀j,ab [] w j->Calls prog 93 #[.slice k N.length S,.string H] j fun e B=>e=.returned (.bool (aJ N H))/\B=j):=fun j C=>j9 N k S H j (fun ac y hy=>by
  obtain⟨g,e,Y,c⟩:=W ac y hy;exact⟨g,e,QX Y C.size,by rw[Q6 (C.block g Y (by simp))];exact c⟩) (by omega)
 have o:Hid (jm T d i H f N=if(i.toList == [36,100])=true then(if kZ T d H f=false then 18 else if aJ N H=true then 19 else 0)
  else if(N.length==0)=true then(if eF T d H f=false then 17 else 0)
  else if(i.toList == [36,102])=true then(if 1<N.length then 16 else if kZ T d H f=false then 18 else if 0<=gg T d H f then 20 else 0)
  else if eF T d H f=true then 0 else if kZ T d H f=false then 21 else if gg T d H f<0 then 22 else 0):=rfl
 generalize jm T d i H f N=R at *;generalize aJ N H=ag at *;generalize gg T d H f=D at *;generalize eF T d H f=c at *;generalize kZ T d H f=v at *;generalize N.length=p at *;clear L W;go_enter func126,ntmps126
 go_upto_region 3 with (go_at_call 172;refine QU V.out ?_;rintro e w3 ⟨rfl,M⟩)
 have F:=hI (F.out w3 M)
 go_upto_region 4 with (go_at_call 173;refine QU F.out ?_;rintro e w4 ⟨rfl,P⟩)
 have G:=hI (G.out w4 (M.trans P))
 go_upto_region 5 with (go_at_call 174;refine QU G.out ?_;rintro e w5 ⟨rfl,X⟩)
 have l:=(show Hid _ from(M.trans P).trans X);have J:=hI (J.out w5 l.out)
 go_upto_region 6 with (go_at_call 93;refine QU J.out ?_;rintro e w9 ⟨rfl,E⟩;rw[E];clear E)
 clear V F G J M P X
 cases n:(i.toList == [36,100])
 ·by_cases q:p=0
  ·have U:((p:Int)==0)=true:=by simpa using q
   cases c
   ·have b:Hid (R=17):=by show _=_;rw[o.out];simp[n,q]
    go_wp2;go_ret;exact⟨QN b.out.symm,l.out⟩
   ·have b:Hid (R=0):=by show _=_;rw[o.out];simp[n,q]
    go_wp2;go_ret;exact⟨QN b.out.symm,l.out⟩
  ·have U:((p:Int)==0)=false:=by simpa using q
   cases z:(i.toList == [36,102])
   ·cases c
    ·cases v
     ·have b:Hid (R=21):=by show _=_;rw[o.out];simp[n,q,z]
      go_wp2;go_ret;exact⟨QN b.out.symm,l.out⟩
     ·by_cases h:D<0
      ·have A:D<0:=h
       have b:Hid (R=22):=by show _=_;rw[o.out];simp[n,q,z,h]
       go_wp2;go_ret;exact⟨QN b.out.symm,l.out⟩
      ·have A:¬D<0:=h
       have b:Hid (R=0):=by show _=_;rw[o.out];simp[n,q,z,h]
       go_wp2;go_ret;exact⟨QN b.out.symm,l.out⟩
    ·have b:Hid (R=0):=by show _=_;rw[o.out];simp[n,q,z]
     go_wp2;go_ret;exact⟨QN b.out.symm,l.out⟩
   ·by_cases I:1<p
    ·have Q:(1:Int)<(p:Int):=by omega
     have b:Hid (R=16):=by show _=_;rw[o.out];simp[n,q,z,I]
     go_wp2;go_ret;exact⟨QN b.out.symm,l.out⟩
    ·have Q:¬(1:Int)<(p:Int):=by omega
     cases v
     ·have b:Hid (R=18):=by show _=_;rw[o.out];simp[n,q,z,I]
      go_wp2;go_ret;exact⟨QN b.out.symm,l.out⟩
     ·by_cases h:0<=D
      ·have A:0<=D:=h
       have b:Hid (R=20):=by show _=_;rw[o.out];simp[n,q,z,I,h]
       go_wp2;go_ret;exact⟨QN b.out.symm,l.out⟩
      ·have A:¬0<=D:=h
       have b:Hid (R=0):=by show _=_;rw[o.out];simp[n,q,z,I,h]
       go_wp2;go_ret;exact⟨QN b.out.symm,l.out⟩
 ·cases v
  ·have b:Hid (R=18):=by show _=_;rw[o.out];simp[n]
   go_wp2;go_ret;exact⟨QN b.out.symm,l.out⟩
  ·cases ag
   ·have b:Hid (R=0):=by show _=_;rw[o.out];simp[n]
    go_wp2;go_ret;exact⟨QN b.out.symm,l.out⟩
   ·have b:Hid (R=19):=by show _=_;rw[o.out];simp[n]
    go_wp2;go_ret;exact⟨QN b.out.symm,l.out⟩
def Fg(s:Sm):List Value:=[.int .i64 s.a,.int .i64 s.z,.int .i64 s.h,.string s.k]
def PG(L:List Sm):List Value:=L.flatMap Fg
def tj(L:List Sm):dN:=⟨145,4,L.length,PG L⟩
theorem Pt(L:List Sm)(j:Nat)(t:Sm)(h:L[j]?=some t)(c:Nat)(d:c<4):(PG L)[j*4+c]?=(Fg t)[c]?:=by
 induction L generalizing j with
 | nil=>cases h
 | cons a L b =>
  have e:PG (a :: L)=Fg a++PG L:=rfl
  cases j with
  | zero =>
   simp at h;subst h;rw[e,Q7 (by simp[Fg];omega)];simp
  | succ j =>
   rw[e,Q5 (by simp[Fg];omega),show(j+1)*4+c-(Fg a).length=j*4+c by simp[Fg];omega];exact b j (by simpa using h)
theorem JD:(⟨(tj w).e,(tj w).size,(tj w).n+1,(tj w).xs++Fg z3⟩:dN)=tj (w++[z3]):=by
 simp[tj,PG]
theorem aw.srcS(o:aw d I (tj x)):A6 d I.ao I.cap x:=by
 refine⟨?_,fun k t b=>?_⟩
 ·rcases o.Vm with ⟨e,f,_⟩ | ⟨g,i,q,n,j,-⟩
  ·have f:x.length=0:=f
   omega
  ·exact j
 ·have p:=(Q8.1 b).1
  obtain⟨g,a,l,-⟩:=qq o (show 0<x.length by omega);have e:∀c,c<4->∀u,(Fg t)[c]?=some u->d.cell? ⟨g,k*4+c,none⟩=some u:=fun c m u h=>o.cell a (k*4+c) u (by show(PG x)[k*4+c]?=some u;rw[Pt x k t b c m];exact h)
  exact⟨g,a,l,e 0 (by omega) _ rfl,e 1 (by omega) _ rfl,e 2 (by omega) _ rfl,e 3 (by omega) _ rfl⟩
theorem O0:(prog.info? 145).map (fun i=>(i.zero,i.size,i.bytes))=some (some (.agg #[.int .i64 0,.int .i64 0,.int .i64 0,.string ⟨#[]⟩]),4,40):=by kernel_rfl
theorem uw(A:z7.guard=none)(s x:Operand)(l:z7.op=Op.call { callee:=Callee.builtin Builtin.append,args:=#[s,x],argTypes:=#[139,139] })(h:Hd)(L:List Sm)(t:Sm)(v:zb.eval s=.slice h.ao L.length h.cap)(a:aw n h (tj L))(E:L.length<=1000000)(D:zb.eval x=.slice (some ⟨n.heap.size,0,none⟩) 1 1)(C:∀e i,aw i e (tj (L++[t]))->bt n i h e->wpList prog y1 y4 y3 (zb.put z7.dst (.slice e.ao (L.length+1) e.cap)) i) :
  wpList prog y1 y4 (z7 :: y3) zb (n.alloc (.cells (Fg t).toArray 145)):=by
 obtain⟨B,w,m,g,k⟩:=Re O0;have p:ab [] n (n.alloc (.cells (Fg t).toArray 145)):=(ab.refl [] _).alloc _;have y:(n.alloc (.cells (Fg t).toArray 145)).heap[n.heap.size]?=some (.cells (Fg t).toArray 145 (0,0)):=QS _ _;refine aM _ A s x 139 l B (.agg #[.int .i64 0,.int .i64 0,.int .i64 0,.string ⟨#[]⟩]) 40 h (tj L) underlying139 w m g k rfl (show 0<4 by omega) v (a.Vb p) ⟨n.heap.size,0,none⟩ 1 1 (Fg t) D rfl ?_ ?_ Rc (by simp only[tj];unfold maxLen;omega) (by simp only[tj];omega) ?_
 ·intro j u z
  rw[bL,aa y];simpa using z
 ·intro u o
  simp only[Fg,List.mem_cons,List.not_mem_nil,or_false]at o
  rcases o with rfl | rfl | rfl | rfl <;> rfl
 ·intro q b r d c f
  rw[JD]at d;exact C ⟨some ⟨q,0,none⟩,b⟩ r d ((bt.Vb p).trans (bt.made c f))
def eO(T:List Tk):Nat->List Sm×Nat
 | 0=>([],0)
 | i+1=>if bS (tS T i)=true then((eO T i).1++[⟨(eO T i).2,i+1,(ew T (eO T i).2).2,(ew T (eO T i).2).1⟩],i+1) else eO T i
def aj(T:List Tk):List Sm:=(eO T T.length).1
theorem LK(i:Nat):(eO b i).2<=i:=by
 induction i with
 | zero=>exact QR _
 | succ i a =>
  rw[eO]
  split
  ·exact QR _
  ·omega
theorem oG(i:Nat):(eO b i).1.length<=i:=by
 induction i with
 | zero=>exact QR _
 | succ i a =>
  rw[eO]
  split
  ·simp;omega
  ·omega
structure PT(w wr:World)(T:List Tk)(aoT:Option Addr)(cT:Nat)(S:List Sm)(h:Hd):Prop where
 d:wr.heap[w.heap.size]?=some (.cells #[.slice aoT T.length cT,.slice h.ao S.length h.cap] 141 (0,0))
 own:aw wr h (tj S)
 far:∀k,h.blk=some k->w.heap.size<k
 kept:ab [] w wr
theorem PT.add{i:List Sm}(a:PT d M y z2 D x I)(o:aw g z0 (tj i))(f:bt M g I z0):PT d (g.setCell ⟨d.heap.size,1,none⟩ (.slice z0.ao i.length z0.cap)) y z2 D i z0:=by
 have n:=ae a.d;have l:=f.kept.get a.d (fun c=>by have:=a.far _ (aN c);omega)
 have b:∀k,z0.blk=some k->d.heap.size<k:=fun k h=>by
  rcases f.blk with e | ⟨q,e,c⟩
  ·exact a.far k (by rw[<-e];exact h)
  ·rw[e]at h;cases h;omega
 have m:ab [d.heap.size] g (g.setCell ⟨d.heap.size,1,none⟩ (.slice z0.ao i.length z0.cap)):=(ab.refl _ _).setCell (Q1 (by simp)) _;have j:ab [] d g:=⟨f.kept.os.trans a.kept.os,f.kept.tape.trans a.kept.tape,f.kept.output.trans a.kept.output,Q3 a.kept.size f.kept.size,fun k h _=>by rw[f.kept.block k (QX h a.kept.size) (fun c=>by have:=a.far _ (aN c);omega),a.kept.block k h (by simp)]⟩;exact⟨by rw[ah l];rfl,o.Vg (fun q c=>m.block q (o.lt c) (by simp;have:=b q c;omega)),b,j.setCell (QV (by simp)) _⟩
theorem LJ(E:lj n k T b)(R:b.length<=100000)(Z:∀i,(tS b i).size<=1073741824) :
  Calls prog 55 #[.slice k b.length T] n fun e w=>e=.returned (.pointer (some ⟨n.heap.size,0,none⟩))/\∃q Y,fz w n.heap.size b k T (aj b) q Y/\ab [] n w/\∀g,q=some ⟨g,0,none⟩->n.heap.size<=g/\g<w.heap.size:=by
 have S0:Hid (PT n (n.alloc (.cells #[.slice k b.length T,.slice none 0 0] 141)) b k T [] ⟨none,0⟩):=⟨QS _ _,QZ _ _ _ _,(by intro a O;cases O),(ab.refl [] _).alloc _⟩;have K:=hI E;have N:=E.1;clear E;go_enter func55,ntmps55;go_wp2
 go_loopg [4,5] b.length (fun g f i wr=>∃(a l:Nat) (S:List Sm) (h:Hd),a<=b.length/\g=b.length-a/\f=.int .i64 l/\i=.int .i64 a/\(l<=a/\S.length<=a)/\Hid (eO b a=(S,l))/\Hid (PT n wr b k T S h))
 case atStart=>exact⟨0,0,[],⟨none,0⟩,by omega,rfl,rfl,rfl,⟨by omega,by simp⟩,rfl,S0⟩
 case round =>
  obtain⟨a,l,S,h,O,hg,rfl,rfl,⟨hf,ac⟩,Q,j⟩:=hrel
  by_cases D:a<b.length
  ·have r:=hI (lj.Vb K.out j.out.kept)
   obtain⟨C,rfl,U,J,-⟩:=r.out.2 a _ (iw b a D);replace J:wr.cell? ⟨C,a*5,none⟩=some (.string (tS b a)):=J;have ad:(a:Int)<(b.length:Int):=by omega
   have s:Hid (eO b (a+1)=if bS (tS b a)=true then(S++[⟨l,a+1,(ew b l).2,(ew b l).1⟩],a+1) else(S,l)):=by show _=_;rw[eO,Q.out]
   obtain⟨x,V⟩:∃x,Hid (tS b a=x):=⟨_,rfl⟩
   rw[V.out]at J s;have z:Hid (fz wr n.heap.size b (some ⟨C,0,none⟩) T S h.ao h.cap):=⟨j.out.d,r.out,j.out.own.srcS⟩;have p:=hI (Gq n.heap.size l b (some ⟨C,0,none⟩) T S h.ao h.cap wr z.out (by omega) R Z);obtain⟨y,G⟩:∃y,Hid (ew b l=y):=⟨_,rfl⟩
   rw[G.out]at p s;obtain⟨B,I⟩:=y;have c1:wr.cell? ⟨n.heap.size,1,none⟩=some (.slice h.ao S.length h.cap):=by rw[aa j.out.d];rfl
   have hz:=ae j.out.d;have v:=j.out.own;obtain⟨F,m⟩:∃F,Hid (bS x=F):=⟨_,rfl⟩
   rw[m.out]at s
   cases F
   ·have H:Hid (eO b (a+1)=(S,l)):=by show _=_;rw[s.out,QT (by simp)]
    go_wp2_with (go_at_call 84;refine(tR x _).mono ?_;rintro e P ⟨rfl,c⟩;rw[c,m.out];clear c)
    go_roundg (b.length-(a+1))
    case measure=>omega
    case rel=>exact⟨a+1,l,S,h,by omega,rfl,rfl,by go_num,⟨by omega,by omega⟩,H,j⟩
   ·have H:Hid (eO b (a+1)=(S++[⟨l,a+1,I,B⟩],a+1)):=by show _=_;rw[s.out,QW rfl]
    have A:((a+1:Nat):Int)=(a:Int)+1:=by omega
    go_upto_region 9 with (first | (go_at_call 84;refine(tR x _).mono ?_;rintro e P ⟨rfl,c⟩;rw[c,m.out];clear c) | (go_at_call 85;refine QU p.out ?_;rintro e P ⟨rfl,c⟩;rw[c];clear c))
    go_wp2_with (at_builtin;rw[<-A];refine uw _ rfl (.tmp 35) (.tmp 42) rfl h S ⟨l,a+1,I,B⟩ rfl v (by omega) rfl ?_;intro h5 W t o;have L:=hI (j.out.add t o);have u:=o.kept.get j.out.d (fun X=>by have:=j.out.far _ (aN X);omega);have f5:=am u 1;have e5:W.cell? ⟨n.heap.size,1,none⟩=some (.slice h.ao S.length h.cap):=(by rw[aa u];rfl);have z5:=ae u;clear t o u);rw[Q0]at L
    go_roundg (b.length-(a+1))
    case measure=>omega
    case rel=>exact⟨a+1,a+1,S++[⟨l,a+1,I,B⟩],h5,by omega,rfl,by go_num,by go_num,⟨by omega,by simp;omega⟩,H,L⟩
  ·have e:a=b.length:=by omega
   subst e;have HE:Hid (aj b=S):=by show _=_;unfold aj;rw[Q.out]
   go_wp2;go_ret;exact⟨rfl,h.ao,h.cap,by rw[HE.out];exact⟨j.out.d,lj.Vb K.out j.out.kept,j.out.own.srcS⟩,j.out.kept,fun g eg=>have M:h.blk=some g:=(by unfold Hd.blk;rw[eg];rfl);⟨RM (j.out.far g M),j.out.own.lt M⟩⟩
def nt(i:Nat):List Sm->Nat
 | []=>0
 | s :: r=>if s.z<=i then nt i r+1 else 0
def i8(S:List Sm)(i:Nat):Nat:=nt i S
def kz(S:List Sm)(n:Nat):Nat:=if 0<n then(au S (n-1)).z else 0
def fa(T:List Tk)(h i:Nat):List ByteArray:=((T.drop h).take (i-h)).map (·.s)
theorem Be(f:T<=S)(c:S<b.length):fa b T (S+1)=fa b T S++[tS b S]:=by
 unfold fa;have e:S+1-T=(S-T)+1:=by omega
 have a:S-T<(b.drop T).length:=by rw[RT];omega
 rw[e,RG a,Ry];have d:(b.drop T)[S-T]=b[S]:=by rw[TI];congr 1;omega
 rw[d];unfold tS;rw[QQ,QP c];rfl
theorem OQ(a:List Sm):nt S a<=a.length:=by
 induction a with
 | nil=>exact QR _
 | cons s r b=>rw[nt];split <;> simp;omega
theorem Bo(a:List Sm)(j:Nat)(h:j<nt S a):∃s,a[j]?=some s/\s.z<=S:=by
 induction a generalizing j with
 | nil=>simp[nt]at h
 | cons s r b =>
  rw[nt]at h
  split at h
  ·cases j with
   | zero=>exact⟨s,rfl,by assumption⟩
   | succ j=>exact b j (by omega)
  ·omega
theorem KM:kz w (i8 w S)<=S:=by
 unfold kz
 split
 ·next h =>
  obtain⟨s,a,b⟩:=Bo S w (i8 w S-1) (by unfold i8 at h ⊢;omega);unfold au;rw[QQ,a];exact b
 ·omega
def lW(T:List Tk)(S:List Sm)(key x:ByteArray)(n:Nat)(before:List ByteArray):Int :=
 if(x.toList == [36,46])=true then ip key before
 else if((x.toList == [36,61])&&((key.toList == [36,112]) && !(aJ before ⟨#[36,61]⟩)))=true then(if before.length=0 then 15 else 0)
 else if ii x ⟨#[36]⟩=true then 8
 else if aJ before ⟨#[36,61]⟩=true then 0
 else if((key.toList == [36,99])||(key.toList == [36,118]))=true then jW T S x n (key.toList == [36,99]) before
 else jm T S key x n before
def bh(T:List Tk)(S:List Sm)(i:Nat):Int :=
 if i=kz S (i8 S i) then dw T S (tS T i) (i8 S i)
 else if i<(ew T (kz S (i8 S i))).2 then(if(aC (tS T i)||aG (tS T i))=true then 0 else 14)
 else lW T S (ew T (kz S (i8 S i))).1 (tS T i) (i8 S i) (fa T (ew T (kz S (i8 S i))).2 i)
theorem Bj(Y:fz n f b L o w k T)(hi:l<b.length)(P:il b w (i8 w l))(hf:l8 b w (i8 w l))(hs:∀l,(tS b l).size<=1073741824) :
  Calls prog 86 #[.pointer (some ⟨f,0,none⟩),.int .i64 l] n fun e w'=>e=.returned (.int .i64 (bh b w l))/\ab [] n w':=by
 have HD:=hI Y;have hT:=P.t;have cj:=P.s;obtain⟨c0,c1,hb⟩:=Y.cells;obtain⟨W,rfl,cl,t0,-⟩:=Y.t.2 l _ (iw b l hi);replace t0:n.cell? ⟨W,l*5,none⟩=some (.string (tS b l)):=t0;have cc:(l:Int)<(b.length:Int):=by omega
 have I:=hI (Ea f (i8 w l) (tS b l) b (some ⟨W,0,none⟩) o w k T n Y P (hs l));have ax:=KM w l;have u:=hI (Gq f (kz w (i8 w l)) b (some ⟨W,0,none⟩) o w k T n Y (by omega) hT hs)
 have d:Hid (bh b w l=if l=kz w (i8 w l) then dw b w (tS b l) (i8 w l)
  else if l<(ew b (kz w (i8 w l))).2 then(if(aC (tS b l)||aG (tS b l))=true then 0 else 14)
  else lW b w (ew b (kz w (i8 w l))).1 (tS b l) (i8 w l) (fa b (ew b (kz w (i8 w l))).2 l)):=rfl
 have a6:=hs l;have HB:Hid (kz w (i8 w l)=if 0<i8 w l then(au w (i8 w l-1)).z else 0):=rfl;obtain⟨x,Hx⟩:∃x,Hid (tS b l=x):=⟨_,rfl⟩
 rw[Hx.out]at t0 I d a6;obtain⟨J,Hn⟩:∃J,Hid (i8 w l=J):=⟨_,rfl⟩
 have bp:Hid (J=nt l w):=Hn.out.symm;rw[Hn.out]at I u d HB ax P hf;obtain⟨K,a5⟩:∃K,Hid (kz w J=K):=⟨_,rfl⟩
 rw[a5.out]at u d HB ax;obtain⟨kw,bl⟩:∃kw,Hid (ew b K=kw):=⟨_,rfl⟩
 rw[bl.out]at u d;obtain⟨p,G⟩:=kw;simp only at u d;have ca:J<=w.length:=P.m;clear Y;go_enter func86,ntmps86;go_wp2
 go_loopg [5] w.length (fun g be wr=>∃a:Nat,a<=w.length/\g=w.length-a/\be=.int .i64 a/\Hid (a+nt l (w.drop a)=J)/\wr=n)
 case atStart=>exact⟨0,by omega,rfl,rfl,by show _=_;rw[U0,SJ];exact bp.out.symm,rfl⟩
 case round =>
  obtain⟨a,hk,hg,rfl,HC,rfl⟩:=hrel
  obtain⟨r,ad,bs,ap⟩:∃r:Bool,Hid (∀h:a<w.length,w[a].z<=l->r=true)/\Hid (r=true->a<w.length/\a+1+nt l (w.drop (a+1))=J)/\Hid ((∀h:a<w.length,¬w[a].z<=l)->r=false):=by
   by_cases i:a<w.length
   ·have A:=HC.out
    rw[Rf i,nt]at A;refine⟨decide (w[a].z<=l),fun h S=>by simpa using S,fun h=>⟨i,?_⟩,fun h=>by simpa using h i⟩;rw[QW (by simpa using h)]at A;omega
   ·exact⟨false,(fun h=>absurd h i),(fun h=>by cases h),(fun _=>rfl)⟩
  have a3:Hid (r=false->a=J):=fun h=>by
   have A:=HC.out
   by_cases i:a<w.length
   ·rw[Rf i,nt]at A
    by_cases S:w[a].z<=l
    ·have:=ad.out i S;rw[h]at this;cases this
    ·rw[QT S]at A;omega
   ·rw[Tz (by omega),nt]at A;omega
  go_upto_region 2 with fail
  go_cut [34] from 16 to 34 (fun bk wd=>bk=.bool r/\wd=wr)
  case first =>
   by_cases i:a<w.length
   ·obtain⟨gs,rfl,bv,-,q1,-⟩:=HD.out.s.2 a w[a] (QP i)
    have al:(a:Int)<(w.length:Int):=by omega
    by_cases S:w[a].z<=l
    ·have bc:(w[a].z:Int)<=(l:Int):=by omega
     have Z:=hI (ad.out i S);go_wp2_with fail
     go_meet
     case rel=>exact⟨by rw[Z.out],rfl⟩
    ·have bc:¬(w[a].z:Int)<=(l:Int):=by omega
     have Z:=hI (ap.out (fun _=>S));go_wp2_with fail
     go_meet
     case rel=>exact⟨by rw[Z.out],rfl⟩
   ·have al:¬(a:Int)<(w.length:Int):=by omega
    have Z:=hI (ap.out (fun h=>absurd h i));go_wp2_with fail
    go_meet
    case rel=>exact⟨by rw[Z.out],rfl⟩
  case rest =>
   obtain⟨rfl,D⟩:=hcut;subst D
   cases r
   ·have br:=a3.out rfl
    subst br;go_upto_if 38 with fail
    go_cut [6] from 37 to 47 (fun s6 wd=>s6=.int .i64 K/\wd=wc)
    case first =>
     by_cases ag:0<a
     ·have aT:a-1<w.length:=by omega
      obtain⟨gs,rfl,bv,-,q1,-⟩:=HD.out.s.2 (a-1) w[a-1] (QP aT);have U:Hid (w[a-1].z=K):=by show _=_;rw[HB.out,QW ag,bM w (a-1) aT]
      rw[U.out]at q1;have cb:IntKind.i64.wrap ((a:Int)-1)=(a:Int)-1:=by rw[R9];omega
      have cf:((a:Int)-1).toNat=a-1:=by omega
      have b1:(0:Int)<=(a:Int)-1:=by omega
      have b2:(a:Int)-1<(w.length:Int):=by omega
      have b3:(1:Int)<=(a:Int):=by omega
      have b4:(0:Int)<(a:Int):=by omega
      go_wp2_with fail
      go_meet
      case rel=>exact⟨rfl,rfl⟩
     ·have U:Hid (K=0):=by show _=_;rw[HB.out,QT ag]
      have b4:¬(0:Int)<(a:Int):=by omega
      go_wp2_with fail
      go_meet
      case rel=>exact⟨by rw[U.out];rfl,rfl⟩
    case rest =>
     obtain⟨rfl,D⟩:=hcut;subst D
     by_cases N:l=K
     ·have j:Hid (bh b w l=dw b w x a):=by show _=_;rw[d.out,QW N]
      subst N;clear u;go_wp2_with (go_at_call 121;refine QU I.out ?_;rintro e E ⟨rfl,Q⟩);go_ret;exact⟨QN j.out.symm,Q⟩
     ·rw[QT N]at d
      have bT:((l:Int)==(K:Int))=false:=by simp;omega
      go_upto_region 11 with (go_at_call 85;refine QU u.out ?_;rintro e E ⟨rfl,c⟩;rw[c];clear c)
      by_cases ac:l<G
      ·rw[QW ac]at d
       have af:(l:Int)<(G:Int):=by omega
       go_upto_region 14 with (first | (go_at_call 122;refine(fT x _).mono ?_;rintro e E ⟨rfl,c⟩;rw[c];clear c) | (go_at_call 123;refine(lJ x _).mono ?_;rintro e E ⟨rfl,c⟩;rw[c];clear c))
       obtain⟨ya,a2⟩:∃ya,Hid (aC x=ya):=⟨_,rfl⟩
       obtain⟨yu,a1⟩:∃yu,Hid (aG x=yu):=⟨_,rfl⟩
       rw[a2.out,a1.out]at d ⊢
       cases ya
       ·cases yu
        ·have j:Hid (bh b w l=14):=by show _=_;rw[d.out];rfl
         go_wp2;go_ret;exact⟨QN j.out.symm,ab.refl _ _⟩
        ·have j:Hid (bh b w l=0):=by show _=_;rw[d.out];rfl
         go_wp2;go_ret;exact⟨QN j.out.symm,ab.refl _ _⟩
       ·have j:Hid (bh b w l=0):=by show _=_;rw[d.out];rfl
        go_wp2;go_ret;exact⟨QN j.out.symm,ab.refl _ _⟩
      ·rw[QT ac]at d
       have af:¬(l:Int)<(G:Int):=by omega
       have HX:=hI (vj.nil wc);clear I u c1;go_wp2
       go_loopg [12,13] (l-G) (fun g be q wr=>∃(m:Nat) (v:Hd) (O:List ByteArray),(G<=m/\m<=l)/\g=l-m/\be=.slice v.ao O.length v.cap/\q=.int .i64 m/\O.length<=m/\Hid (O=fa b G m)/\Hid (vj wc wr v O))
       case atStart=>exact⟨G,⟨none,0⟩,[],⟨by omega,by omega⟩,rfl,rfl,rfl,by simp,by show _=_;unfold fa;rw[RY];rfl,HX⟩
       case round =>
        obtain⟨m,v,O,⟨a4,cq⟩,cp,rfl,rfl,b6,HO,X⟩:=hrel;have C:=hI (fz.Vb HD.out X.out.kept);obtain⟨d0,-,ck⟩:=C.out.cells
        by_cases ch:m<l
        ·have a0:m<b.length:=by omega
         obtain⟨b5,e5,co,q0,-⟩:=C.out.t.2 m _ (iw b m a0)
         cases e5
         replace q0:wr.cell? ⟨W,m*5,none⟩=some (.string (tS b m)):=q0;have bz:(m:Int)<(l:Int):=by omega
         have b0:(m:Int)<(b.length:Int):=by omega
         have bw:Hid (O++[tS b m]=fa b G (m+1)):=by show _=_;rw[Be b G m a4 a0,HO.out]
         generalize tS b m=y at *;have bo:=X.out.own;go_wp2_with (at_builtin;refine pq _ rfl (.tmp 86) (.tmp 95) rfl v O y rfl bo (by omega) rfl ?_;intro h5 w5 ar az;have bx:=hI (X.out.Vl az ar);clear ar az)
         go_roundg (l-(m+1))
         case measure=>omega
         case rel=>exact⟨m+1,h5,O++[y],⟨by omega,by omega⟩,rfl,by simp,by go_num,by simp;omega,bw,bx⟩
        ·have bj:m=l:=by omega
         subst bj;rw[<-HO.out]at d;have B:=X.out.own.srcX;have M:=hI X.out.kept;have R:=hI (j9 O v.ao v.cap ⟨#[36,61]⟩ wr B (by omega));have bd:=hI (Bn p O v.ao v.cap wr B (by omega));have an:Hid (∀H,Calls prog 125 #[.pointer (some ⟨f,0,none⟩),.string x,.int .i64 a,.bool H,.slice v.ao O.length v.cap] wr fun e w'=>e=.returned (.int .i64 (jW b w x a H O))/\ab [] wr w'):=fun H=>IU f a x H O v.ao v.cap b (some ⟨W,0,none⟩) o w k T wr C.out P B (by omega)
         have ba:=hI (Fn f a p x O v.ao v.cap b (some ⟨W,0,none⟩) o w k T wr C.out P hf B (by omega));unfold lW at d;obtain⟨pf,a7⟩:∃pf,Hid (aJ O ⟨#[36,61]⟩=pf):=⟨_,rfl⟩
         obtain⟨dl,aS⟩:∃dl,Hid (ii x ⟨#[36]⟩=dl):=⟨_,rfl⟩
         rw[a7.out]at R d;rw[aS.out]at d
         go_upto_region 24 with (first | (go_at_call 93;refine QU R.out ?_;rintro e E ⟨rfl,c⟩;rw[c];clear c) | (go_at_call 120;refine(fF x _ _ (by omega) (by show 1<=_;omega)).mono ?_;rintro e E ⟨rfl,c⟩;rw[c];clear c))
         rw[aS.out];clear R B HX d0 X C;generalize O.length=ol at *
         cases h1:(x.toList == [36,46])
         ·rw[QT (by rw[h1];simp)]at d
          obtain⟨tb,F⟩:∃tb,Hid (((x.toList == [36,61])&&((p.toList == [36,112]) && !pf))=tb):=⟨_,rfl⟩
          rw[F.out]at d
          go_upto_region 26 with fail
          go_cut [107] from 108 to 117 (fun ai wd=>ai=.bool tb/\wd=wr)
          case first =>
           cases h2:(x.toList == [36,61])
           ·go_wp2_with fail
            go_meet
            case rel=>exact⟨by rw[<-F.out,h2];rfl,rfl⟩
           ·cases h3:(p.toList == [36,112])
            ·go_wp2_with fail
             go_meet
             case rel=>exact⟨by rw[<-F.out,h2,h3];rfl,rfl⟩
            ·go_wp2_with fail
             go_meet
             case rel=>exact⟨by rw[<-F.out,h2,h3];rfl,rfl⟩
          case rest =>
           obtain⟨rfl,D⟩:=hcut;subst D
           cases tb
           ·cases dl
            ·cases pf
             ·cases h4:(p.toList == [36,99])
              ·cases h5:(p.toList == [36,118])
               ·have j:Hid (bh b w m=jm b w p x a O):=by show _=_;rw[d.out,h4,h5];rfl
                go_wp2_with (go_at_call 126;refine QU ba.out ?_;rintro e E ⟨rfl,Q⟩);go_ret;exact⟨QN j.out.symm,M.out.trans Q⟩
               ·have j:Hid (bh b w m=jW b w x a false O):=by show _=_;rw[d.out,h4,h5];rfl
                have V:=hI (an.out false);go_wp2_with (go_at_call 125;refine QU V.out ?_;rintro e E ⟨rfl,Q⟩);go_ret;exact⟨QN j.out.symm,M.out.trans Q⟩
              ·have j:Hid (bh b w m=jW b w x a true O):=by show _=_;rw[d.out,h4];rfl
               have V:=hI (an.out true);go_wp2_with (go_at_call 125;refine QU V.out ?_;rintro e E ⟨rfl,Q⟩);go_ret;exact⟨QN j.out.symm,M.out.trans Q⟩
             ·have j:Hid (bh b w m=0):=by show _=_;rw[d.out];rfl
              go_wp2;go_ret;exact⟨QN j.out.symm,M.out⟩
            ·have j:Hid (bh b w m=8):=by show _=_;rw[d.out];rfl
             go_wp2;go_ret;exact⟨QN j.out.symm,M.out⟩
           ·rw[QW rfl]at d
            by_cases ho:ol=0
            ·have j:Hid (bh b w m=15):=by show _=_;rw[d.out,QW ho]
             have bf:((ol:Int)==0)=true:=by simpa using ho
             go_wp2;go_ret;exact⟨QN j.out.symm,M.out⟩
            ·have j:Hid (bh b w m=0):=by show _=_;rw[d.out,QT ho]
             have bf:((ol:Int)==0)=false:=by simpa using ho
             go_wp2;go_ret;exact⟨QN j.out.symm,M.out⟩
         ·have j:Hid (bh b w m=ip p O):=by show _=_;rw[d.out,QW h1]
          go_wp2_with (go_at_call 124;refine QU bd.out ?_;rintro e E ⟨rfl,c⟩;rw[c];clear c);go_ret;exact⟨QN j.out.symm,M.out⟩
   ·obtain⟨i,hm⟩:=bs.out rfl
    have HM:=hI hm;clear hm;go_wp2
    go_roundg (w.length-(a+1))
    case measure=>omega
    case rel=>exact⟨a+1,by omega,rfl,by go_num,HM,rfl⟩
def PD(T:List Tk)(S:List Sm)(i:Nat):Bool:=!(bh T S i==0)
def yp(T:List Tk)(S:List Sm):Tk:=match (List.range T.length).find? (PD T S) with
 | some i=>⟨⟨#[]⟩,bh T S i,(T.getD i jf).file,(T.getD i jf).line,(T.getD i jf).col⟩
 | none=>jf
theorem Lc{T:List Tk}{S:List Sm}{k:Nat}(a:k<T.length)(h:(bh T S k==0)=false)(c:∀j,j<k->bh T S j=0):yp T S=⟨⟨#[]⟩,bh T S k,(T.getD k jf).file,(T.getD k jf).line,(T.getD k jf).col⟩:=by
 have e:(List.range T.length).find? (PD T S)=some k:=by
  rw[Sj];exact⟨by unfold PD;rw[h];rfl,Ra.2 a,fun j b=>by unfold PD;rw[c j b];rfl⟩
 unfold yp;rw[e]
theorem Oq(b:∀j,j<y.length->bh y x j=0):yp y x=jf:=by
 have e:(List.range y.length).find? (PD y x)=none:=by
  rw[Sk];intro j a;unfold PD;rw[b j (Ra.1 a)];simp
 unfold yp;rw[e]
def PK(T:List Tk)(S:List Sm):Prop:=∀i,i<T.length->(∀j,j<i->bh T S j=0)->il T S (i8 S i)/\l8 T S (i8 S i)
theorem we(S:fz n l b L o w k T)(hT:b.length<=100000)(hO:PK b w)(hs:∀i,(tS b i).size<=1073741824) :
  Calls prog 56 #[.pointer (some ⟨l,0,none⟩)] n fun e w'=>e=.returned (.agg #[.int .i64 (yp b w).rule,.string (yp b w).file,.int .i64 (yp b w).line,.int .i64 (yp b w).col])/\ab [] n w':=by
 have U:=hI S;obtain⟨W,F⟩:∃W,Hid (n.alloc (.cells #[.int .i64 0,.string ⟨#[]⟩,.int .i64 0,.int .i64 0] 87)=W):=⟨_,rfl⟩
 have BF:W.heap[n.heap.size]?=some (.cells #[.int .i64 0,.string ⟨#[]⟩,.int .i64 0,.int .i64 0] 87 (0,0)):=by rw[<-F.out];exact QS _ _
 have I:Hid (ab [] n W):=by show ab [] n W;rw[<-F.out];exact(ab.refl [] _).alloc _
 clear S;go_enter func56,ntmps56
 go_upto_region 1 with fail
 rw[F.out];go_wp2
 go_loopg [3] b.length (fun g i wr=>∃a:Nat,a<=b.length/\g=b.length-a/\i=.int .i64 a/\Hid (∀j,j<a->bh b w j=0)/\Hid (ab [] W wr))
 case atStart=>exact⟨0,by omega,rfl,rfl,(fun j X=>by omega),ab.refl _ _⟩
 case round =>
  obtain⟨a,hk,hg,rfl,A,E⟩:=hrel;have m:=hI (I.out.trans E.out);have p:=hI (fz.Vb U.out m.out);obtain⟨P,-,Q⟩:=p.out.cells;have c:=E.out.get BF (by simp)
  by_cases f:a<b.length
  ·obtain⟨M,V⟩:=hO a f A.out
   have K:(a:Int)<(b.length:Int):=by omega
   have h:=hI (Bj l a b L o w k T wr p.out f M V hs);obtain⟨r,y⟩:∃r,Hid (bh b w a=r):=⟨_,rfl⟩
   rw[y.out]at h;clear M V
   cases Y:(r==0)
   ·have z:Hid (yp b w=⟨⟨#[]⟩,r,(b.getD a jf).file,(b.getD a jf).line,(b.getD a jf).col⟩):=by show _=_;rw[Lc f (by rw[y.out];exact Y) A.out,y.out]
    go_upto_region 5 with (go_at_call 86;refine QU h.out ?_;rintro e s ⟨rfl,x⟩)
    have q:=hI (m.out.trans x);have u:=hI (fz.Vb U.out q.out);have d:=x.get c (by simp);clear P Q;obtain⟨P,-,Q⟩:=u.out.cells;obtain⟨gT,rfl,Z,-,-,t2,t3,t4⟩:=u.out.t.2 a _ (iw b a f);generalize b.getD a jf=t at *;obtain⟨ts,tr,N,O,R⟩:=t;simp only at t2 t3 t4 z;have f0:=am d 0;have f1:=am d 1;have f2:=am d 2;have f3:=am d 3;have g0:s.cell? ⟨n.heap.size,0,none⟩=some (.int .i64 0):=by rw[aa d];rfl
    have g1:s.cell? ⟨n.heap.size,1,none⟩=some (.string ⟨#[]⟩):=by rw[aa d];rfl
    have g2:s.cell? ⟨n.heap.size,2,none⟩=some (.int .i64 0):=by rw[aa d];rfl
    have g3:s.cell? ⟨n.heap.size,3,none⟩=some (.int .i64 0):=by rw[aa d];rfl
    have y2:=ae d;go_wp2;obtain⟨D,H,J,B⟩:=sI d (.int .i64 r) (.string N) (.int .i64 O) (.int .i64 R);exact QY (v:=.agg #[.int .i64 r,.string N,.int .i64 O,.int .i64 R]) (by simp[results,results56,go_sem,D,H,J,B]) rfl ⟨by rw[z.out],(((q.out.setCell (QV (by simp)) _).setCell (QV (by simp)) _).setCell (QV (by simp)) _).setCell (QV (by simp)) _⟩
   ·have G:r=0:=by simpa using Y
    subst G
    have HM:Hid (∀j,j<a+1->bh b w j=0):=fun j X=>by
     by_cases e:j=a
     ·rw[e];exact y.out
     ·exact A.out j (by omega)
    go_wp2_with (go_at_call 86;refine QU h.out ?_;rintro e s ⟨rfl,x⟩;have C:=hI (E.out.trans x))
    go_roundg (b.length-(a+1))
    case measure=>omega
    case rel=>exact⟨a+1,by omega,rfl,by go_num,HM,C⟩
  ·have z:Hid (yp b w=jf):=Oq (fun j X=>A.out j (by omega))
   have f0:=am c 0;have f1:=am c 1;have f2:=am c 2;have f3:=am c 3;have g0:wr.cell? ⟨n.heap.size,0,none⟩=some (.int .i64 0):=by rw[aa c];rfl
   have g1:wr.cell? ⟨n.heap.size,1,none⟩=some (.string ⟨#[]⟩):=by rw[aa c];rfl
   have g2:wr.cell? ⟨n.heap.size,2,none⟩=some (.int .i64 0):=by rw[aa c];rfl
   have g3:wr.cell? ⟨n.heap.size,3,none⟩=some (.int .i64 0):=by rw[aa c];rfl
   have y2:=ae c;have K:¬(a:Int)<(b.length:Int):=by omega
   go_wp2;obtain⟨D,H,J,B⟩:=sI c (.int .i64 0) (.string ⟨#[]⟩) (.int .i64 0) (.int .i64 0);exact QY (v:=.agg #[.int .i64 0,.string ⟨#[]⟩,.int .i64 0,.int .i64 0]) (by simp[results,results56,go_sem,D,H,J,B]) rfl ⟨by rw[z.out];rfl,(((m.out.setCell (QV (by simp)) _).setCell (QV (by simp)) _).setCell (QV (by simp)) _).setCell (QV (by simp)) _⟩
theorem zi(h:S<w.length):au (w++[z3]) S=au w S:=by
 unfold au;rw[QQ,QQ,Q7 h]
theorem uk:au (w++[z3]) w.length=z3:=by
 unfold au;rw[QQ,Q5 (QR _),RY];rfl
theorem Bg(h:S<=w.length):kz (w++[z3]) S=kz w S:=by
 unfold kz
 split
 ·rw[zi w z3 (S-1) (by omega)]
 ·rfl
structure QE(T:List Tk)(S:List Sm)(j:Nat)(s:Sm):Prop where
 a:s.a=kz S j
 lt:s.a<s.z
 e:bS (tS T (s.z-1))=true
 n:∀q,s.a<=q->q<s.z-1->bS (tS T q)=false
 k:(s.k,s.h)=ew T s.a
structure Dt(T:List Tk)(i:Nat)(S:List Sm)(f:Nat):Prop where
 s:∀j,j<S.length->QE T S j (au S j)/\(au S j).z<=i
 fr:f=kz S S.length
 n:∀q,f<=q->q<i->bS (tS T q)=false
 le:f<=i
theorem IY(i:Nat):Dt b i (eO b i).1 (eO b i).2:=by
 induction i with
 | zero=>exact⟨fun j g=>by simp[eO]at g,rfl,fun q _ h=>by omega,QR _⟩
 | succ i c =>
  rw[eO]
  split
  ·next m =>
   generalize (eO b i).1=S at *;generalize (eO b i).2=f at *;refine⟨fun j g=>?_,?_,fun q d l=>by simp only at d;omega,QR _⟩
   ·simp only[List.length_append,List.length_cons,List.length_nil]at g
    by_cases e:j<S.length
    ·obtain⟨p,o⟩:=c.s j e
     rw[zi S _ j e];exact⟨⟨by rw[Bg S _ j (by omega)];exact p.a,p.lt,p.e,p.n,p.k⟩,by omega⟩
    ·have e:j=S.length:=by omega
     subst e;rw[uk];have:=c.le;exact⟨⟨by rw[Bg S _ _ (QR _)];exact c.fr,by show f<i+1;omega,m,fun q d l=>c.n q d (by simp only at l;omega),rfl⟩,QR _⟩
   ·simp only[List.length_append,List.length_cons,List.length_nil]
    unfold kz;rw[QW (by omega),SD,uk]
  ·next m =>
   refine⟨fun j g=>?_,c.fr,fun q d l=>?_,by have:=c.le;omega⟩
   ·obtain⟨p,o⟩:=c.s j g
    exact⟨p,by omega⟩
   ·by_cases e:q=i
    ·rw[e];simpa using m
    ·exact c.n q d (by omega)
theorem fw:Dt b b.length (aj b) (eO b b.length).2:=IY b b.length
theorem KY(a:List Sm)(j:Nat)(b:∀q,q<j->∃s,a[q]?=some s/\s.z<=S)(c:∀s,a[j]?=some s->¬s.z<=S):nt S a=j:=by
 induction a generalizing j with
 | nil =>
  cases j with
  | zero=>rfl
  | succ j=>obtain⟨s,h,-⟩:=b 0 (by omega);cases h
 | cons s r g =>
  cases j with
  | zero=>rw[nt,QT (c s rfl)]
  | succ j =>
   obtain⟨k,e,f⟩:=b 0 (by omega);simp at e;subst e;rw[nt,QW f,g j (fun q i=>by simpa using b (q+1) (by omega)) (fun t d=>c t (by simpa using d))]
section
variable {T:List Tk} {i0 f:Nat} {S:List Sm}
theorem GN(h:S<w.length):w[S]?=some (au w S):=by
 unfold au;rw[QQ,QP h];rfl
theorem Dt.step(p:Dt T i0 S f)(j:Nat)(h:j+1<S.length):(au S j).z<(au S (j+1)).z:=by
 have q:=(p.s (j+1) h).1;have:=q.lt;rw[q.a]at this;unfold kz at this;rw[QW (by omega),SD]at this;exact this
theorem Dt.mono(p:Dt T i0 S f)(j k:Nat)(h:j<=k)(a:k<S.length):(au S j).z<=(au S k).z:=by
 induction k with
 | zero =>
  have:j=0:=by omega
  rw[this];exact QR _
 | succ k b =>
  by_cases e:j=k+1
  ·rw[e];exact QR _
  ·have:=b (by omega) (by omega)
   have:=p.step k a;omega
theorem Dt.cnt(p:Dt T i0 S f)(j:Nat)(h:j<S.length)(i:Nat)(d:(au S j).a<=i)(c:i<(au S j).z):i8 S i=j:=by
 refine KY i S j (fun q g=>⟨au S q,GN S q (by omega),?_⟩) (fun s b=>?_)
 ·have e:=(p.s j h).1.a
  unfold kz at e;rw[QW (by omega)]at e;have:=p.mono q (j-1) (by omega) (by omega);omega
 ·rw[GN S j h]at b;cases b
  omega
theorem Dt.beg(p:Dt T i0 S f)(j:Nat)(h:j<S.length)(i:Nat)(c:(au S j).a<=i)(b:i<(au S j).z):kz S (i8 S i)=(au S j).a:=by
 rw[p.cnt j h i c b];exact((p.s j h).1.a).symm
end
theorem oD{x:ByteArray}{l:List UInt8}(h:(x.toList==l)=true):x=⟨l.toArray⟩:=by
 have a:x.toList=l:=by simpa using h
 apply U4
 apply Un.1
 rw[<-RZ,a]
theorem kM(h:bS v=true):ii v ⟨#[36]⟩=true/\(v.toList == [36,99])=false/\(v.toList == [36,118])=false/\(v.toList == [36,102])=false:=by
 unfold bS at h
 rcases RB _ _ ▸ h with h | h
 ·rcases RB _ _ ▸ h with h | h <;> (rw[oD h];decide +kernel)
 ·rw[oD h];decide +kernel
theorem GT(p:Dt y D x z4)(j:Nat)(h:j<x.length)(q:Nat)(c:(au x j).a<=q)(b:q<(au x j).z):bh y x q =
  if q=(au x j).a then dw y x (tS y q) j
  else if q<(au x j).h then(if(aC (tS y q)||aG (tS y q))=true then 0 else 14)
  else lW y x (au x j).k (tS y q) j (fa y (au x j).h q):=by
 unfold bh;rw[p.beg j h q c b,p.cnt j h q c b,<-(p.s j h).1.k]
theorem wU{a:ByteArray}(b:bS a=true)(h:lW y x v a D z1=0):(a.toList == [36,46])=true/\ip v z1=0:=by
 unfold lW at h
 cases c:(a.toList == [36,46])
 ·rw[QT (by rw[c];simp)]at h
  have f:=(kM b).1
  have d:(a.toList == [36,61])=false:=by
   unfold bS at b;rw[c,Sp]at b
   rcases RB _ _ ▸ b with e | e <;> (rw[oD e];decide +kernel)
  rw[d,TQ,QT (by simp),QW f]at h
  cases h
 ·rw[QW c]at h
  exact⟨rfl,h⟩
theorem tA(h:(v.toList == [36,46])=true):mM v=true:=by unfold mM;rw[h];simp
theorem Np(h:(v.toList == [36,102])=true):dw y x v D=11:=by
 have e:=oD h;have d:((v.toList == [36,123])||((v.toList == [36,118])||(v.toList == [36,100])))=false/\(v.toList == [36,125])=false/\(v.toList == [36,99])=false/\(aC v||aG v)=true:=by rw[e];decide +kernel
 obtain⟨b,f,a,c⟩:=d;unfold dw;rw[b,f,a,c];simp
theorem LC(h:(aC v||aG v)=true):(v.toList == [36,99])=false/\(v.toList == [36,118])=false/\bS v=false:=by
 unfold aC aG at h
 rcases RB _ _ ▸ h with h | h
 ·rcases RB _ _ ▸ h with h | h <;> (rw[oD h];decide +kernel)
 ·rcases RB _ _ ▸ h with h | h <;> (rw[oD h];decide +kernel)
theorem Dq(p:Dt y y.length x D)(j:Nat)(h:j<x.length)(u:∀q,(au x j).a<=q->q<(au x j).z->bh y x q=0) :
  (((au x j).k.toList == [36,99])=true->cU y (au x j).h)/\(((au x j).k.toList == [36,118])=true->cU y (au x j).h)/\(((au x j).k.toList == [36,102])=true->(au x j).h+1<y.length):=by
 have A:=GT p j h;obtain⟨P,G⟩:=p.s j h;generalize au x j=s at *;obtain⟨a,z,K,k⟩:=s;obtain⟨-,B,l,-,g⟩:=P;simp only at *;have i:=u (z-1) (by omega) (by omega);rw[A (z-1) (by omega) (by omega)]at i;have w:=u a (QR _) B;rw[A a (QR _) B,QW rfl]at w;unfold ew at g;have b:=kM l
 by_cases o:(ii (tS y a) ⟨#[36]⟩||decide (y.length<=a+1))=true
 ·rw[QW o]at g
  cases g
  have d:¬(z-1=a)->cU y (a+1):=fun f=>by
   rw[QT f,QT (by omega)]at i;have:=wU l i;exact⟨z-1,by omega,by omega,tA this.1⟩
  refine⟨fun c=>d (fun e=>?_),fun c=>d (fun e=>?_),fun c=>?_⟩
  ·rw[e,c]at b;exact absurd b.2.1 (by simp)
  ·rw[e,c]at b;exact absurd b.2.2.1 (by simp)
  ·rw[Np c]at w;cases w
 ·rw[QT o]at g
  cases g
  have t:ii (tS y a) ⟨#[36]⟩=false:=by
   cases e:ii (tS y a) ⟨#[36]⟩
   ·rfl
   ·rw[e]at o;exact absurd rfl o
  have f:¬(z-1=a):=fun e=>by
   rw[e,t]at b;exact absurd b.1 (by simp)
  have v:=u (a+1) (by omega) (by omega);rw[A (a+1) (by omega) (by omega),QT (by omega),QW (by omega)]at v
  have r:(aC (tS y (a+1))||aG (tS y (a+1)))=true:=by
   cases e:(aC (tS y (a+1))||aG (tS y (a+1)))
   ·rw[e]at v;cases v
   ·rfl
  obtain⟨E,I,H⟩:=LC r;refine⟨fun c=>absurd c (by rw[E];simp),fun c=>absurd c (by rw[I];simp),fun c=>?_⟩;have C:¬(z-1=a+1):=fun e=>by rw[e,H]at l;cases l
  rw[QT f,QT (by omega)]at i;have m:=(wU l i).2;unfold ip at m
  split at m
  ·cases m
  ·split at m
   ·cases m
   ·next J F =>
    have n:¬(fa y (a+2) (z-1)).length<2:=fun n=>F (by rw[c];simp[n])
    unfold fa at n;rw[Ri,RQ,RT]at n;omega
theorem Ot(h:b.length<=100000):PK b (aj b):=by
 intro i m c;have p:=fw b;have l:(aj b).length<=b.length:=oG b b.length;have k:i8 (aj b) i<=(aj b).length:=OQ i (aj b);generalize aj b=S at *
 have g:∀j,j<i8 S i->(au S j).z<=i:=fun j a=>by
  obtain⟨s,f,e⟩:=Bo i S j a;rw[GN S j (by omega)]at f
  cases f;exact e
 have d:=fun j (a:j<i8 S i)=>Dq p j (by omega) (fun q _ e=>c q (by have:=g j a;omega))
 refine⟨⟨k,by omega,h,fun j a=>(d j a).1,fun j a=>(d j a).2.1,fun j a=>?_⟩,fun j a=>(d j a).2.2⟩;have:=(p.s j (by omega)).1.lt;have:=g j a;omega
theorem rE(B:H.size<=1073741824) :
  Calls prog 52 #[.string H] n fun e w=>e=.returned (.bool (fV H))/\w=n:=by
 by_cases u:H.size=0
 ·have r:Hid (fV H=false):=mn H (Q1 (by omega))
  have p:((H.size:Int)==0)=true:=by simpa using u
  go_enter func52,ntmps52;go_wp2;go_ret;exact⟨aD r.out.symm,rfl⟩
 ·have p:((H.size:Int)==0)=false:=by simpa using u
  by_cases A:8<H.size
  ·have r:Hid (fV H=false):=mn H (QV (by omega))
   have o:(8:Int)<(H.size:Int):=by omega
   go_enter func52,ntmps52;go_wp2;go_ret;exact⟨aD r.out.symm,rfl⟩
  ·have o:¬(8:Int)<(H.size:Int):=by omega
   have v:Hid (fV H=(List.range H.size).all (fun i=>kJ (aF H i))):=by
    show _=_
    unfold fV;rw[show decide (1<=H.size)=true by simp;omega,show decide (H.size<=8)=true by simp;omega];rfl
   go_enter func52,ntmps52;go_wp2
   go_loopg [3] H.size (fun g i wr=>∃k:Nat,k<=H.size/\g=H.size-k/\i=.int .i64 k/\Hid (∀i,i<k->kJ (aF H i)=true)/\wr=n)
   case atStart=>exact⟨0,by omega,by omega,rfl,fun i h=>by omega,rfl⟩
   case round =>
    obtain⟨k,C,D,rfl,b,rfl⟩:=hrel
    by_cases d:k<H.size
    ·have c:Hid (kJ (H[k].toNat:Int)=(fn (H[k].toNat:Int) && !((H[k].toNat:Int)==36))):=rfl
     have f:Hid (kJ (H[k].toNat:Int)=false->fV H=false):=fun q=>by rw[v.out];exact DF k d (by rw[bP H k d];exact q)
     have m:Hid (kJ (H[k].toNat:Int)=true->∀i,i<k+1->kJ (aF H i)=true):=fun q i x=>by
      by_cases e:i=k
      ·subst e;rw[bP H i d];exact q
      ·exact b.out i (by omega)
     have z:(k:Int)<(H.size:Int):=by omega
     cases l:fn (H[k].toNat:Int)
     ·have j:=hI (f.out (by rw[c.out,l];rfl))
      go_wp2_with (go_at_call 78;refine(lu _ _).mono ?_;rintro e t ⟨rfl,a⟩;rw[a];clear a);go_ret;exact⟨aD j.out.symm,rfl⟩
     ·cases s:((H[k].toNat:Int)==36)
      ·have j:=hI (m.out (by rw[c.out,l,s];rfl))
       go_wp2_with (go_at_call 78;refine(lu _ _).mono ?_;rintro e t ⟨rfl,a⟩;rw[a];clear a)
       go_roundg (H.size-(k+1))
       case measure=>omega
       case rel=>exact⟨k+1,by omega,rfl,by go_num,j,rfl⟩
      ·have j:=hI (f.out (by rw[c.out,l,s];rfl))
       go_wp2_with (go_at_call 78;refine(lu _ _).mono ?_;rintro e t ⟨rfl,a⟩;rw[a];clear a);go_ret;exact⟨aD j.out.symm,rfl⟩
    ·have y:Hid (fV H=true):=by show _=_;rw[v.out];exact zC (fun i x=>b.out i (by omega))
     go_wp2;go_ret;exact⟨aD y.out.symm,rfl⟩
theorem BE(d:i.size<=1073741824)(k:H.size<=4294967296) :
  Calls prog 34 #[.string i,.string H] n fun e j=>e=.returned (.int .i64 (cJ i H))/\j=n:=by
 cases c:fV i
 ·have b:Hid (cJ i H=2):=by show _=_;unfold cJ;rw[QW c]
  go_enter func34,ntmps34;go_wp2_with (go_at_call 52;refine(rE i _ d).mono ?_;rintro e h ⟨rfl,a⟩;rw[a];clear a);go_ret;exact⟨QN b.out.symm,rfl⟩
 ·by_cases g:1024<H.size
  ·have b:Hid (cJ i H=3):=by show _=_;unfold cJ;rw[QT (by rw[c];simp),QW g]
   have f:(1024:Int)<(H.size:Int):=by omega
   go_enter func34,ntmps34;go_wp2_with (go_at_call 52;refine(rE i _ d).mono ?_;rintro e h ⟨rfl,a⟩;rw[a];clear a);go_ret;exact⟨QN b.out.symm,rfl⟩
  ·have b:Hid (cJ i H=0):=by show _=_;unfold cJ;rw[QT (by rw[c];simp),QT g]
   have f:¬(1024:Int)<(H.size:Int):=by omega
   go_enter func34,ntmps34;go_wp2_with (go_at_call 52;refine(rE i _ d).mono ?_;rintro e h ⟨rfl,a⟩;rw[a];clear a);go_ret;exact⟨QN b.out.symm,rfl⟩
structure nK(T:List Tk)(S:List Sm)(n:Nat):Prop where
 ok:il T S n
 sm:S.length<=10000
 tm:T.length<=10000
 e:∀j,j<n->bS (au S j).k=false->cU T (au S j).h
 f:l8 T S n
theorem nK.mono(h:nK y x D)(d:z4<=D):nK y x z4 :=
 ⟨⟨Q3 d h.ok.m,h.ok.s,h.ok.t,fun j b=>h.ok.c j (by omega),fun j b=>h.ok.v j (by omega),fun j b=>h.ok.a j (by omega)⟩,h.sm,h.tm,fun j b=>h.e j (by omega),fun j b=>h.f j (by omega)⟩
def PC(T:List Tk)(S:List Sm)(x y:ByteArray)(a j:Nat):Bool:=((au S j).k.toList == [36,100])&&(!(x.toList==y.toList)&&(aJ (bu T (au S j).h) x&&(aJ (bu T (au S j).h) y&&aV S j a)))
def hQ(T:List Tk)(S:List Sm)(x y:ByteArray)(a:Nat):Bool:=(List.range a).any (PC T S x y a)
theorem fX{l:List UInt8}(h:(v.toList==l)=true)(a:(l == [36,46])=false/\(l == [36,123])=false/\(l == [36,125])=false):bS v=false:=by
 have:v.toList=l:=by simpa using h
 unfold bS;rw[this,a.1,a.2.1,a.2.2];rfl
theorem vI(hD:fz n a b L o w k T)(z:nK b w f) :
  Calls prog 94 #[.pointer (some ⟨a,0,none⟩),.string i,.string H,.int .i64 f] n fun e C=>e=.returned (.bool (hQ b w i H f))/\ab [] n C:=by
 have X:=hI hD;have hn:=z.ok.m;have hS:=z.ok.s;have hT:=z.ok.t;have P:=hI z;clear hD z;go_enter func94,ntmps94;go_wp2
 go_loopg [9] f (fun g af wr=>∃c:Nat,c<=f/\g=f-c/\af=.int .i64 c/\Hid (∀j,j<c->PC b w i H f j=false)/\Hid (ab [] n wr))
 case atStart=>exact⟨0,by omega,rfl,rfl,(fun j hj=>by omega),ab.refl _ _⟩
 case round =>
  obtain⟨c,hk,hg,rfl,O,y⟩:=hrel
  by_cases E:c<f
  ·have r:c<w.length:=by omega
   have A:=hI (fz.Vb X.out y.out);obtain⟨-,c1,hb⟩:=A.out.cells;obtain⟨gs,rfl,al,-,-,-,q3⟩:=A.out.s.2 c w[c] (QP r);have ai:(c:Int)<(f:Int):=by omega
   have ad:(c:Int)<(w.length:Int):=by omega
   have x:Hid (PC b w i H f c=((w[c].k.toList == [36,100])&&(!(i.toList==H.toList)&&(aJ (bu b w[c].h) i&&(aJ (bu b w[c].h) H&&aV w c f))))):=by show _=_;unfold PC;rw[bM w c r]
   have J:Hid ((w[c].k.toList == [36,100])=true->cU b w[c].h):=fun h=>by have:=P.out.e c E;rw[<-bM w c r]at this;exact this (fX h (by decide))
   have R:Hid ((w[c].k.toList == [36,100])=true->∀l,ab [] n l->Calls prog 72 #[.pointer (some ⟨a,0,none⟩),.int .i64 c] l fun e C=>∃Z,e=.returned (.slice Z.ao (bu b w[c].h).length Z.cap)/\vj l C Z (bu b w[c].h)):=fun h l V=>kD a c b L o w _ T l (fz.Vb X.out V) r hT (J.out h)
   have ag:=kg b w[c].h;have F:Hid (∀l,ab [] n l->Calls prog 92 #[.pointer (some ⟨a,0,none⟩),.int .i64 c,.int .i64 f] l fun e C=>e=.returned (.bool (aV w c f))/\C=l):=fun l V=>lk a c f b L o w _ T l (fz.Vb X.out V) (by omega) hn hS
   clear J;generalize bu b w[c].h=B at *;generalize w[c].k=sk at *;obtain⟨N,Q⟩:∃N,Hid (aV w c f=N):=⟨_,rfl⟩
   rw[Q.out]at x F
   cases S:(sk.toList == [36,100])
   ·have u:=hI (dU O.out (by rw[x.out,S];rfl))
    go_wp2
    go_roundg (f-(c+1))
    case measure=>omega
    case rel=>exact⟨c+1,by omega,rfl,by go_num,u,y⟩
   ·cases h2:(i.toList==H.toList)
    ·have U:=hI (R.out S)
     go_upto_region 6 with (go_at_call 72;refine(U.out _ (by exact y.out)).mono ?_;rintro e W ⟨M,rfl,K⟩)
     have v:=hI (y.out.trans K.kept);have D:=hI (j9 B M.ao M.cap i W K.own.srcX (by omega));have G:=hI (j9 B M.ao M.cap H W K.own.srcX (by omega));have Y:=hI (F.out W v.out);clear K c1 q3;obtain⟨p,Hp⟩:∃p,Hid (aJ B i=p):=⟨_,rfl⟩
     rw[Hp.out]at D x;obtain⟨q,Hq⟩:∃q,Hid (aJ B H=q):=⟨_,rfl⟩
     rw[Hq.out]at G x
     go_upto_region 7 with (go_at_call 93;refine QU D.out ?_;rintro e w9 ⟨rfl,d⟩;rw[d];clear d)
     go_upto_region 8 with (go_at_call 93;refine QU G.out ?_;rintro e w9 ⟨rfl,d⟩;rw[d];clear d)
     go_upto_region 9 with (go_at_call 92;refine QU Y.out ?_;rintro e w9 ⟨rfl,d⟩;rw[d];clear d)
     cases I:(p&&(q&&N))
     ·have u:=hI (dU O.out (by rw[x.out,I];simp))
      cases p <;> cases q <;> cases N <;> first | (exact absurd I (by decide)) | skip
      all_goals
       go_wp2
       go_roundg (f-(c+1))
       case measure=>omega
       case rel=>exact⟨c+1,by omega,rfl,by go_num,u,v⟩
     ·have u:Hid (hQ b w i H f=true):=mZ c E (by rw[x.out,S,h2,I];rfl)
      simp only[Bool.and_eq_true]at I;obtain⟨rfl,rfl,rfl⟩:=I;go_wp2;go_ret;exact⟨aD u.out.symm,v.out⟩
    ·have u:=hI (dU O.out (by rw[x.out,h2];simp))
     go_wp2
     go_roundg (f-(c+1))
     case measure=>omega
     case rel=>exact⟨c+1,by omega,rfl,by go_num,u,y⟩
  ·have u:Hid (hQ b w i H f=false):=vH (fun j hj=>O.out j (by omega))
   go_wp2;go_ret;exact⟨aD u.out.symm,y.out⟩
structure gw(w wr:World)(h:Hd)(r:dN):Prop where
 own:aw wr h r
 far:∀k,h.blk=some k->w.heap.size<=k
 kept:ab [] w wr
theorem gw.Vb(a:gw d M I z6)(k:ab [] M g):gw d g I z6:=⟨a.own.Vb k,a.far,a.kept.trans k⟩
theorem gw.Vl{h:dN}(a:gw d M I z6)(c:bt M g I z0)(o:aw g z0 h):gw d g z0 h:=by
 refine⟨o,fun k b=>?_,⟨c.kept.os.trans a.kept.os,c.kept.tape.trans a.kept.tape,c.kept.output.trans a.kept.output,Q3 a.kept.size c.kept.size,fun k b _=>?_⟩⟩
 ·rcases c.blk with e | ⟨q,e,f⟩
  ·exact a.far k (by rw[<-e];exact b)
  ·rw[e]at b;cases b
   exact Q3 a.kept.size f
 ·rw[c.kept.block k (QX b a.kept.size) (fun f=>by have:=a.far _ (aN f);omega),a.kept.block k b (by simp)]
theorem vj.toL(a:vj d M I z1):gw d M I (aB z1):=⟨a.own,a.far,a.kept⟩
theorem gw.base(a:gw M g I z6)(k:ab [] d M):gw d g I z6:=⟨a.own,fun q b=>Q3 k.size (a.far q b),k.trans a.kept⟩
theorem bt.beside(g:bt d M I z0){o:Hd}(c:aw d o z6)(a:∀k,o.blk=some k->I.blk≠some k):aw M o z6 :=
 c.Vg (fun q b=>g.kept.block q (c.lt b) (fun e=>a q b (aN e)))
theorem oi{P:Program}(H:z7.guard=none)(s x:Operand)(t:TypeId)(o:z7.op=Op.call { callee:=Callee.builtin Builtin.append,args:=#[s,x],argTypes:=#[t,t] })(i:TypeInfo)(z:Value)(b:Nat)(h:Hd)(r:dN)(a:List Value)(A:P.underlying t=some (.slice r.e))(B:P.info? r.e=some i)(J:i.zero=some z)(I:i.size=r.size)(K:i.bytes=b)(y:z.cells.size=r.size)(G:0<r.size)(D:zb.eval s=.slice h.ao r.n h.cap)(c:aw n h r)(N:r.n<=1000000)(C:b<=1000)(M:zb.eval x=.slice (some ⟨n.heap.size,0,none⟩) 1 1)(O:a.length=r.size)(m:∀u∈a,u.oneCell'=true)(L:∀g l,aw l g ⟨r.e,r.size,r.n+1,r.xs++a⟩->bt n l h g->wpList P y1 y4 y3 (zb.put z7.dst (.slice g.ao (r.n+1) g.cap)) l) :
  wpList P y1 y4 (z7 :: y3) zb (n.alloc (.cells a.toArray r.e)):=by
 have q:ab [] n (n.alloc (.cells a.toArray r.e)):=(ab.refl [] _).alloc _;have E:(n.alloc (.cells a.toArray r.e)).heap[n.heap.size]?=some (.cells a.toArray r.e (0,0)):=QS _ _;refine aM _ H s x t o i z b h r A B J I K y G D (c.Vb q) ⟨n.heap.size,0,none⟩ 1 1 a M (by omega) ?_ m Rc (by unfold maxLen;omega) (Q3 (SL (show r.n+1<=1000001 by omega) C) (by omega)) ?_
 ·intro j u F
  rw[bL,aa E];simpa using F
 ·intro v d w p f k
  exact L ⟨some ⟨v,0,none⟩,d⟩ w p ((bt.Vb q).trans (bt.made f k))
def qD(w:World)(ao:Option Addr)(L:List Nat):Prop:=∀(k n:Nat),L[k]?=some n->∃g,ao=some ⟨g,0,none⟩/\g<w.heap.size/\w.cell? ⟨g,k,none⟩=some (.int .i64 n)
theorem qD.Vb(h:qD d z2 y0)(k:ab [] d M):qD M z2 y0:=by
 intro j x b;obtain⟨g,e,a,c⟩:=h j x b;exact⟨g,e,QX a k.size,by rw[Q6 (k.block g a (by simp))];exact c⟩
theorem ge.Vb(h:ge d z2 z1)(k:ab [] d M):ge M z2 z1:=by
 intro j x b;obtain⟨g,e,a,c⟩:=h j x b;exact⟨g,e,QX a k.size,by rw[Q6 (k.block g a (by simp))];exact c⟩
theorem aw.srcN(o:aw d I (bB y0)):qD d I.ao y0:=by
 intro k x b
 rcases o.Vm with ⟨_,c,_⟩ | ⟨g,f,a,e,h,-⟩
 ·have c:y0.length=0:=c
  have:=(Q8.1 b).1;omega
 ·exact⟨g,a,ae e,o.cell a k (.int .i64 x) (by simp[bB,jX,b])⟩
theorem tn(L:List Nat)(n:Nat):(⟨(bB L).e,(bB L).size,(bB L).n+1,(bB L).xs++[.int .i64 n]⟩:dN)=bB (L++[n]):=by
 simp[bB,jX]
theorem CT(M:List ByteArray):(⟨(aB N).e,(aB N).size,(aB N).n+M.length,(aB N).xs++cN M⟩:dN)=aB (N++M):=by
 simp[aB,cN]
theorem z8:(prog.info? 3).map (fun i=>(i.zero,i.size,i.bytes))=some (some (.int .i64 0),1,8):=by kernel_rfl
theorem ge.cells(h:ge d z2 z1):∀b,z2=some b->∀j u,(cN z1)[j]?=some u->d.cell? (b.add j)=some u:=by
 intro b e j u a;rw[cN,Rq]at a
 cases f:z1[j]? with
 | none=>rw[f]at a;cases a
 | some x =>
  rw[f]at a
  cases a
  obtain⟨g,i,-,c⟩:=h j x f;rw[e]at i
  cases i
  rw[bL];simpa using c
def xY(S:List Sm)(a j:Nat):Bool:=((au S j).k.toList == [36,101])&&aV S j a
def lD(T:List Tk)(S:List Sm)(a k:Nat):List ByteArray:=bu T (au S a).h++((List.range k).filter (xY S a)).flatMap (fun j=>bu T (au S j).h)
def Dj(T:List Tk)(S:List Sm)(a:Nat):List ByteArray:=lD T S a a
def sJ(T:List Tk)(S:List Sm)(a:Nat)(U:List ByteArray)(j:Nat):Bool:=aV S j a&&(((au S j).k.toList == [36,101])||(((au S j).k.toList == [36,102])&&aJ U (tS T ((au S j).h+1))))
def bW(T:List Tk)(S:List Sm)(a:Nat):List Nat:=(List.range a).filter (sJ T S a (Dj T S a))
theorem gZ(p:Nat->Bool)(k:Nat):(List.range (k+1)).filter p=(List.range k).filter p++(if p k=true then [k] else []):=by
 rw[R6,RV]
 congr 1
 cases h:p k
 ·rw[Ss (by rw[h];simp)];rfl
 ·rw[SG h];rfl
theorem MQ(h:xY w T S=true):lD b w T (S+1)=lD b w T S++bu b (au w S).h:=by
 unfold lD;rw[gZ,QW h,Sh,Sy];simp
theorem Oh(h:xY w T S=false):lD b w T (S+1)=lD b w T S:=by
 unfold lD;rw[gZ,QT (by rw[h];simp),Rl]
theorem Nk(c:(v.toList == [36,101])=true)(a:(v.toList == [36,102])=true):False:=by
 have b:v.toList=[36,101]:=by simpa using c
 rw[b]at a;exact absurd a (by decide)
theorem nP(hD:fz n f b L o w k T)(W:nK b w l)(hn:l<w.length)(hE:cU b (au w l).h) :
  Calls prog 62 #[.pointer (some ⟨f,0,none⟩),.int .i64 l] n fun e P=>∃j,e=.returned (.slice j.ao (bW b w l).length j.cap)/\gw n P j (bB (bW b w l)):=by
 have HD:=hI hD;have hS:=W.ok.s;have hT:=W.ok.t;have bp:=W.sm;have bl:=W.tm;have al:=hI W;have aS:Hid (∀F,ab [] n F->Calls prog 72 #[.pointer (some ⟨f,0,none⟩),.int .i64 l] F fun e P=>∃j,e=.returned (.slice j.ao (bu b w[l].h).length j.cap)/\vj F P j (bu b w[l].h)):=fun F kx=>kD f l b L o w _ T F (hD.Vb kx) hn hT (by rw[bM w l hn];exact hE)
 have Q:=hI (aS.out n (ab.refl _ _));rw[bM w l hn]at Q;have a6:Hid (lD b w l 0=bu b (au w l).h):=by show _=_;unfold lD;simp
 have bx:=kg b (au w l).h;obtain⟨iS,bg,an,ag,af⟩:=Re js;obtain⟨iN,ap,J,M,K⟩:=Re z8;clear hD W aS;generalize bu b (au w l).h=B0 at *;go_enter func62,ntmps62
 go_upto_region 2 with (go_at_call 72;refine QU Q.out ?_;rintro e w0 ⟨h0,rfl,x0⟩)
 have a1:=hI x0.toL;clear x0 Q;go_wp2
 go_loopg [5,6] l (fun g u i wr=>∃(a:Nat) (j:Hd) (O:List ByteArray),a<=l/\g=l-a/\u=.slice j.ao O.length j.cap/\i=.int .i64 a/\O.length<=10000*(a+1)/\Hid (O=lD b w l a)/\Hid (gw n wr j (aB O)))
 case atStart=>exact⟨0,h0,B0,by omega,rfl,rfl,rfl,by omega,a6.out.symm,a1⟩
 case round =>
  obtain⟨a,j,O,hk,hg,rfl,rfl,hO,I,y⟩:=hrel
  by_cases bd:a<l
  ·have q:a<w.length:=by omega
   have r:=hI (fz.Vb HD.out y.out.kept);obtain⟨-,c1,hb⟩:=r.out.cells;obtain⟨gs,rfl,bk,-,-,-,q3⟩:=r.out.s.2 a w[a] (QP q);have be:(a:Int)<(l:Int):=by omega
   have ar:(a:Int)<(w.length:Int):=by omega
   have D:Hid (xY w l a=((w[a].k.toList == [36,101])&&aV w a l)):=by show _=_;unfold xY;rw[bM w a q]
   have a7:Hid ((w[a].k.toList == [36,101])=true->Calls prog 72 #[.pointer (some ⟨f,0,none⟩),.int .i64 a] wr fun e P=>∃j,e=.returned (.slice j.ao (bu b w[a].h).length j.cap)/\vj wr P j (bu b w[a].h)):=fun h=>kD f a b L o w _ T wr r.out q hT (by have:=al.out.e a bd;rw[<-bM w a q]at this;exact this (fX h (by decide)))
   have HY:Hid (xY w l a=true->O++bu b w[a].h=lD b w l (a+1)):=fun h=>by rw[MQ b w l a h,<-I.out,bM w a q]
   have X:Hid (xY w l a=false->O=lD b w l (a+1)):=fun h=>by rw[Oh b w l a h,<-I.out]
   have bT:=kg b w[a].h;have p:=hI (lk f a l b L o w _ T wr r.out (by omega) (by omega) hS);generalize bu b w[a].h=B at *;generalize w[a].k=Y at *;obtain⟨V,N⟩:∃V,Hid (aV w a l=V):=⟨_,rfl⟩
   rw[N.out]at D p
   cases H:(Y.toList == [36,101])
   ·have A:=hI (X.out (by rw[D.out,H];rfl))
    go_wp2_with (go_at_call 92;refine QU p.out ?_;rintro e R ⟨rfl,c⟩;rw[c];clear c)
    go_roundg (l-(a+1))
    case measure=>omega
    case rel=>exact⟨a+1,j,O,by omega,rfl,rfl,by go_num,by omega,A,y⟩
   ·cases V
    ·have A:=hI (X.out (by rw[D.out,H];rfl))
     go_wp2_with (go_at_call 92;refine QU p.out ?_;rintro e R ⟨rfl,c⟩;rw[c];clear c)
     go_roundg (l-(a+1))
     case measure=>omega
     case rel=>exact⟨a+1,j,O,by omega,rfl,rfl,by go_num,by omega,A,y⟩
    ·have A:=hI (HY.out (by rw[D.out,H];rfl))
     have a3:=hI (a7.out H)
     go_upto_region 8 with (first | (go_at_call 92;refine QU p.out ?_;rintro e R ⟨rfl,c⟩;rw[c];clear c) | (go_at_call 72;refine QU a3.out ?_;rintro e w2 ⟨C,rfl,x2⟩))
     have az:=hI (y.out.Vb x2.kept);have a2:=hI x2.own.srcX.cells;have Z:=hI x2.kept
     have ba:C.ao=none->B.length=0/\C.cap=0:=fun e=>by
      rcases x2.own.Vm with ⟨q1,q2,q3⟩ | ⟨g,bv,q1,-⟩
      ·exact⟨q2,by rw[q1]⟩
      ·rw[e]at q1;cases q1
     clear x2 c1 q3;go_wp2_with (at_builtin;refine ed _ rfl (.tmp 40) (.tmp 41) 61 rfl iS (.string ⟨#[]⟩) 16 j (aB O) underlying61 bg an ag af rfl Rc rfl az.out.own C.ao B.length C.cap (cN B) rfl (by simp[aB,cN]) ba a2.out (lY B) (by simp only[aB];omega) (by omega) ?_;intro h5 w5 d x;rw[CT]at d;have G:=hI (az.out.Vl x d);clear d x)
     go_roundg (l-(a+1))
     case measure=>omega
     case rel=>exact⟨a+1,h5,O++B,by omega,rfl,by simp[aB],by go_num,by simp;omega,A,G⟩
  ·have e:a=l:=by omega
   subst e;obtain⟨U,HU⟩:∃U,Hid (Dj b w a=U):=⟨_,rfl⟩
   have e2:O=U:=by rw[<-HU.out,I.out];rfl
   subst e2;have HX:=hI y.out.own.srcX;have aT:=hI y.out.kept;have HR:Hid (bW b w a=(List.range a).filter (sJ b w a O)):=by show _=_;unfold bW;rw[HU.out]
   have bj:Hid (gw wr wr ⟨none,0⟩ (bB [])):=⟨QZ _ _ _ _,(by intro a hk;cases hk),ab.refl _ _⟩;clear y I;go_wp2
   go_loopg [9,10] a (fun g br i w2=>∃(m:Nat) (C:Hd) (z:List Nat),m<=a/\g=a-m/\br=.slice C.ao z.length C.cap/\i=.int .i64 m/\z.length<=m/\Hid (z=(List.range m).filter (sJ b w a O))/\Hid (gw wr w2 C (bB z)))
   case atStart=>exact⟨0,⟨none,0⟩,[],by omega,rfl,rfl,rfl,by simp,rfl,bj⟩
   case round =>
    obtain⟨m,C,z,hm,b0,rfl,rfl,hL,I,y⟩:=hrel
    by_cases ai:m<a
    ·have q:m<w.length:=by omega
     have Z:=hI (aT.out.trans y.out.kept);have r:=hI (fz.Vb HD.out Z.out);obtain⟨c0,c1,hb⟩:=r.out.cells;obtain⟨gs,rfl,bk,-,-,q2,q3⟩:=r.out.s.2 m w[m] (QP q);have be:(m:Int)<(a:Int):=by omega
     have ar:(m:Int)<(w.length:Int):=by omega
     have D:Hid (sJ b w a O m=(aV w m a&&((w[m].k.toList == [36,101])||((w[m].k.toList == [36,102])&&aJ O (tS b (w[m].h+1)))))):=by show _=_;unfold sJ;rw[bM w m q]
     have a4:Hid ((w[m].k.toList == [36,102])=true->w[m].h+1<b.length):=fun h=>by have:=al.out.f m ai;rw[<-bM w m q]at this;exact this h
     have HY:Hid (sJ b w a O m=true->z++[m]=(List.range (m+1)).filter (sJ b w a O)):=fun h=>by rw[gZ,QW h,<-I.out]
     have X:Hid (sJ b w a O m=false->z=(List.range (m+1)).filter (sJ b w a O)):=fun h=>by rw[gZ,QT (by rw[h];simp),Rl,<-I.out]
     have p:=hI (lk f m a b L o w _ T wr r.out (by omega) (by omega) hS);obtain⟨V,N⟩:∃V,Hid (aV w m a=V):=⟨_,rfl⟩
     rw[N.out]at D p;generalize w[m].k=Y at *;generalize w[m].h=E at *;obtain⟨v,Hv⟩:∃v,Hid (tS b (E+1)=v):=⟨_,rfl⟩
     rw[Hv.out]at D;have ax:Hid (∀F,ab [] wr F->Calls prog 93 #[.slice j.ao O.length j.cap,.string v] F fun e P=>e=.returned (.bool (aJ O v))/\P=F):=fun F kx=>j9 O j.ao j.cap v F (ge.Vb HX.out (y.out.kept.trans kx)) (by omega)
     obtain⟨hs,bc⟩:∃hs,Hid (aJ O v=hs):=⟨_,rfl⟩
     rw[bc.out]at ax D;have bf:=y.out.own
     cases V
     ·have A:=hI (X.out (by rw[D.out];rfl))
      go_wp2_with (go_at_call 92;refine QU p.out ?_;rintro e R ⟨rfl,c⟩;rw[c];clear c)
      go_roundg (a-(m+1))
      case measure=>omega
      case rel=>exact⟨m+1,C,z,by omega,rfl,rfl,by go_num,by omega,A,y⟩
     ·cases H:(Y.toList == [36,101])
      ·cases h3:(Y.toList == [36,102])
       ·have A:=hI (X.out (by rw[D.out,H,h3];rfl))
        go_wp2_with (go_at_call 92;refine QU p.out ?_;rintro e R ⟨rfl,c⟩;rw[c];clear c)
        go_roundg (a-(m+1))
        case measure=>omega
        case rel=>exact⟨m+1,C,z,by omega,rfl,rfl,by go_num,by omega,A,y⟩
       ·have a5:=a4.out h3
        obtain⟨gT,rfl,bw,t0,-⟩:=r.out.t.2 (E+1) _ (iw b (E+1) a5);replace t0:wr.cell? ⟨gT,(E+1)*5,none⟩=some (.string (tS b (E+1))):=t0;rw[Hv.out]at t0;have bz:(E:Int)+1<(b.length:Int):=by omega
        have b1:IntKind.i64.wrap ((E:Int)+1)=(E:Int)+1:=by rw[R9];omega
        have bo:((E:Int)+1).toNat=E+1:=by omega
        have bs:(0:Int)<=(E:Int)+1:=by omega
        go_upto_region 17 with (go_at_call 92;refine QU p.out ?_;rintro e R ⟨rfl,c⟩;rw[c];clear c)
        have S:=hI (y.out.Vb (ab.refl [] wr).drew);have a0:=S.out.own
        go_region_with (go_at_call 93;refine(ax.out _ (by exact(ab.refl [] wr).drew)).mono ?_;rintro e R ⟨rfl,c⟩;rw[c];clear c)
        all_goals
         clear c0 q2 t0
         cases hs
         ·have A:=hI (X.out (by rw[D.out,H,h3];rfl))
          go_wp2
          go_roundg (a-(m+1))
          case measure=>omega
          case rel=>exact⟨m+1,C,z,by omega,rfl,rfl,by go_num,by omega,A,S⟩
         ·have A:=hI (HY.out (by rw[D.out,H,h3];rfl))
          go_wp2_with (at_builtin;refine oi _ rfl (.tmp 93) (.tmp 95) 26 rfl iN (.int .i64 0) 8 C (bB z) [.int .i64 m] underlying26 ap J M K rfl Rc rfl a0 (by simp only[bB];omega) (by omega) rfl rfl (by simp[Value.oneCell']) ?_;intro h5 w5 d x;rw[tn]at d;have G:=hI (S.out.Vl x d);clear d x)
          go_roundg (a-(m+1))
          case measure=>omega
          case rel=>exact⟨m+1,h5,z++[m],by omega,rfl,by simp[bB],by go_num,by simp;omega,A,G⟩
      ·have A:=hI (HY.out (by rw[D.out,H];rfl))
       have h3:(Y.toList == [36,102])=false:=by
        cases h:(Y.toList == [36,102])
        ·rfl
        ·exact(Nk H h).elim
       go_wp2_with (first | (go_at_call 92;refine QU p.out ?_;rintro e R ⟨rfl,c⟩;rw[c];clear c) | (at_builtin;refine oi _ rfl (.tmp 93) (.tmp 95) 26 rfl iN (.int .i64 0) 8 C (bB z) [.int .i64 m] underlying26 ap J M K rfl Rc rfl bf (by simp only[bB];omega) (by omega) rfl rfl (by simp[Value.oneCell']) ?_;intro h5 w5 d x;rw[tn]at d;have G:=hI (y.out.Vl x d);clear d x))
       go_roundg (a-(m+1))
       case measure=>omega
       case rel=>exact⟨m+1,h5,z++[m],by omega,rfl,by simp[bB],by go_num,by simp;omega,A,G⟩
    ·have e:m=a:=by omega
     subst e;rw[<-HR.out]at I;have ad:Hid (bW b w m=z):=I.out.symm;go_wp2;go_ret;exact⟨C,by rw[ad.out];rfl,by rw[ad.out];exact y.out.base aT.out⟩
def eU(T:List Tk)(S:List Sm)(a:Nat)(x:ByteArray):Int :=
 if bE T S x a<0 then -1 else if(aC (au S (bE T S x a).toNat).k||aV S (bE T S x a).toNat a)=true then bE T S x a else -1
theorem qS:bE b w zt S=-1∨∃k,k<S/\bE b w zt S=(k:Int):=by
 unfold bE
 cases h:(List.range S).find? (qL b w zt) with
 | none=>exact Q1 rfl
 | some j=>exact QV ⟨j,Ra.1 (Rz h),rfl⟩
theorem p9:eU b w T zt=-1∨∃k,k<T/\eU b w T zt=(k:Int):=by
 unfold eU
 split
 ·exact Q1 rfl
 ·next h =>
  split
  ·rcases qS b w zt T with e | ⟨k,a,e⟩
   ·omega
   ·exact QV ⟨k,a,e⟩
  ·exact Q1 rfl
theorem xr(G:fz n a b L o w k T)(u:nK b w f) :
  Calls prog 128 #[.pointer (some ⟨a,0,none⟩),.int .i64 f,.string H] n fun e i=>e=.returned (.int .i64 (eU b w f H))/\ab [] n i:=by
 have q:=hI (oC a f H b L o w k T n G u.ok.m u.ok.s u.ok.a);have d:Hid (eU b w f H=if bE b w H f<0 then -1 else if(aC (au w (bE b w H f).toNat).k||aV w (bE b w H f).toNat f)=true then bE b w H f else -1):=rfl;generalize eU b w f H=R at *;have U:=u.ok.m;have S:=u.ok.s
 rcases qS b w H f with e | ⟨h,Z,e⟩
 ·rw[e]at q d
  rw[QW (by omega)]at d;go_enter func128,ntmps128;go_wp2_with (go_at_call 171;refine QU q.out ?_;rintro e K ⟨rfl,x⟩;have g:=hI x;clear x);go_ret;exact⟨QN d.out.symm,g.out⟩
 ·rw[e]at q d
  rw[QT (by omega),Sa]at d;have y:h<w.length:=by omega
  have Y:¬(h:Int)<0:=by omega
  have P:(h:Int)<(w.length:Int):=by omega
  have N:(0:Int)<=(h:Int):=by omega
  obtain⟨r,v⟩:∃r,Hid ((au w h).k=r):=⟨_,rfl⟩
  have V:Hid (∀i,ab [] n i->∃t,k=some ⟨t,0,none⟩/\t<i.heap.size/\i.cell? ⟨t,h*4+3,none⟩=some (.string r)/\i.cell? ⟨a,1,none⟩=some (.slice k w.length T)/\a<i.heap.size/\Calls prog 92 #[.pointer (some ⟨a,0,none⟩),.int .i64 h,.int .i64 f] i fun e J=>e=.returned (.bool (aV w h f))/\J=i):=fun i Q=>by
   have F:=G.Vb Q;obtain⟨-,O,M⟩:=F.cells;obtain⟨t,W,C,-,-,-,I⟩:=F.s.2 h w[h] (QP y);rw[bM w h y,v.out]at I;exact⟨t,W,C,I,O,M,lk a h f b L o w _ T i F (by omega) U S⟩
  rw[v.out]at d;clear G;go_enter func128,ntmps128
  go_upto_region 4 with (go_at_call 171;refine QU q.out ?_;rintro e K ⟨rfl,x⟩;have g:=hI x;clear x)
  obtain⟨t,rfl,C,I,O,M,z⟩:=V.out K g.out;have l:=hI z;clear z;obtain⟨D,E⟩:∃D,Hid (aV w h f=D):=⟨_,rfl⟩
  rw[E.out]at l d;obtain⟨p,j⟩:∃p,Hid (aC r=p):=⟨_,rfl⟩
  rw[j.out]at d
  cases B:(p||D)
  ·rw[B]at d
   simp only[Bool.or_eq_false_iff]at B;obtain⟨rfl,rfl⟩:=B;rw[QT (by simp)]at d;go_wp2_with (first | (go_at_call 92;refine QU l.out ?_;rintro e A ⟨rfl,c⟩;rw[c];clear c) | (go_at_call 122;refine(fT r _).mono ?_;rintro e A ⟨rfl,c⟩;rw[c,j.out];clear c));go_ret;exact⟨QN d.out.symm,g.out⟩
  ·rw[B,QW rfl]at d
   cases p
   ·have X:D=true:=by simpa using B
    subst X;go_wp2_with (first | (go_at_call 92;refine QU l.out ?_;rintro e A ⟨rfl,c⟩;rw[c];clear c) | (go_at_call 122;refine(fT r _).mono ?_;rintro e A ⟨rfl,c⟩;rw[c,j.out];clear c));go_ret;exact⟨QN d.out.symm,g.out⟩
   ·go_wp2_with (first | (go_at_call 92;refine QU l.out ?_;rintro e A ⟨rfl,c⟩;rw[c];clear c) | (go_at_call 122;refine(fT r _).mono ?_;rintro e A ⟨rfl,c⟩;rw[c,j.out];clear c))
    go_ret;exact⟨QN d.out.symm,g.out⟩
def iD(T:List Tk)(S:List Sm)(j:Int):Nat:=if j<0 then 0 else if aC (au S j.toNat).k=true then(bW T S j.toNat).length else 0
theorem IW(v:Value)(T:List Tk)(S:List Sm)(w:World) :
  Calls prog 129 #[v,.int .i64 (-1)] w fun e b=>e=.returned (.int .i64 (iD T S (-1):Nat))/\ab [] w b:=by
 have a:Hid (iD T S (-1)=0):=rfl;go_enter func129,ntmps129;go_wp2;go_ret;exact⟨by rw[a.out];rfl,ab.refl _ _⟩
theorem yR(r:fz n a b L o w k T)(p:nK b w f)(F:l<f) :
  Calls prog 129 #[.pointer (some ⟨a,0,none⟩),.int .i64 l] n fun e t=>e=.returned (.int .i64 (iD b w l:Nat))/\ab [] n t:=by
 have M:=p.ok.m;have d:l<w.length:=by omega
 have v:¬(l:Int)<0:=by omega
 have C:(l:Int)<(w.length:Int):=by omega
 have A:(0:Int)<=(l:Int):=by omega
 have i:Hid (iD b w l=if aC (au w l).k=true then(bW b w l).length else 0):=by show _=_;unfold iD;rw[QT v,Sa]
 obtain⟨-,K,J⟩:=r.cells;obtain⟨I,rfl,H,-,-,-,E⟩:=r.s.2 l w[l] (QP d);rw[bM w l d]at E
 have G:Hid (aC (au w l).k=true->Calls prog 62 #[.pointer (some ⟨a,0,none⟩),.int .i64 l] n fun e t=>∃j,e=.returned (.slice j.ao (bW b w l).length j.cap)/\gw n t j (bB (bW b w l))):=fun h=>nP a l b L o w _ T n r (p.mono (by omega)) d (p.e l F (by
  unfold aC at h
  rcases RB _ _ ▸ h with h | h <;> exact fX h (by decide)))
 have y:Hid (aC (au w l).k=(((au w l).k.toList == [36,97])||((au w l).k.toList == [36,112]))):=rfl;clear r p;generalize iD b w l=R at *;generalize (au w l).k=B at *;generalize aC B=u at *
 cases u
 ·rw[QT (by simp)]at i
  have q:=y.out.symm;simp only[Bool.or_eq_false_iff]at q;obtain⟨z,N⟩:=q;go_enter func129,ntmps129;go_wp2;go_ret;exact⟨by rw[i.out];rfl,ab.refl _ _⟩
 ·rw[QW rfl]at i
  have x:=hI (G.out rfl);have q:=y.out.symm
  cases z:(B.toList == [36,97])
  ·rw[z,Sp]at q
   go_enter func129,ntmps129;go_wp2_with (go_at_call 62;refine QU x.out ?_;rintro e D ⟨j,rfl,g⟩;have c:=hI g.kept;clear g);go_ret;exact⟨by rw[i.out];rfl,c.out⟩
  ·go_enter func129,ntmps129
   go_wp2_with (go_at_call 62;refine QU x.out ?_;rintro e D ⟨j,rfl,g⟩;have c:=hI g.kept;clear g);go_ret;exact⟨by rw[i.out];rfl,c.out⟩
end Go.Proofs.YtpddjjabfbfifaaGreat
