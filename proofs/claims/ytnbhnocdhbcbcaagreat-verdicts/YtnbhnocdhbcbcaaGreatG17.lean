import Derived.Deep.RegionHeld3
import Derived.Laws.OwnMore
import Derived.BigQuiet
import Derived.Laws.IdiomStrings
import Derived.Deep.RegionLaw
import Derived.Test.YtnbhnocdhbcbcaaGreatG16
namespace Go.Proofs.YtnbhnocdhbcbcaaGreat
open Go.RowKit Tryz
open Value IntKind Ending
set_option maxHeartbeats 0
variable{i:ByteArray}{L:List Tk}{a u:Nat}{I:List Sm}{z2:List ByteArray}{T v M:World}{o c p:Hd}{z4:eB}{z3:Option Addr}{N:List Nat}(t d:Nat)(D:ByteArray)(y:Nat)(b:List Tk)(z0:Option Addr)(z1:Nat)(w:List Sm)(z5:Option Addr)(k:Nat)(n:ByteArray)(H:Nat)(S:World)
theorem pZ{x:ByteArray}{l:List UInt8}(h:(x.toList==l)=true):x=⟨l.toArray⟩:=by
 have a:x.toList=l:=by simpa using h
 apply VW;apply U4.1;rw[<-SM,a]
theorem lg(h:bY i=true):gW i ⟨#[36]⟩=true/\(i.toList == [36,99])=false/\(i.toList == [36,118])=false/\(i.toList == [36,102])=false:=by
 unfold bY at h;rcases SL _ _ ▸ h with h | h
 ·rcases SL _ _ ▸ h with h | h <;> (rw[pZ h];decide +kernel)
 ·rw[pZ h];decide +kernel
theorem Bq(p:By L a I u)(j:Nat)(h:j<I.length)(q:Nat)(b:(aq I j).a<=q)(c:q<(aq I j).z):a9 L I q =
  if q=(aq I j).a then dq L I (tS L q) j
  else if q<(aq I j).h then(if(ay (tS L q)||aF (tS L q))=true then 0 else 14)
  else mu L I (aq I j).k (tS L q) j (dX L (aq I j).h q):=by
 unfold a9;rw[p.beg j h q b c,p.cnt j h q b c,<-(p.s j h).1.k]
theorem xB{x:ByteArray}(b:bY x=true)(h:mu L I i x a z2=0):(x.toList == [36,46])=true/\iE i z2=0:=by
 unfold mu at h;cases c:(x.toList == [36,46])
 ·rw[RU (by rw[c];simp)]at h;have f:=(lg b).1;have d:(x.toList == [36,61])=false:=by
   unfold bY at b;rw[c,Ts]at b;rcases SL _ _ ▸ b with e | e <;> (rw[pZ e];decide +kernel)
  rw[d,Uz,RU (by simp),RY f]at h;cases h
 ·rw[RY c]at h;exact⟨rfl,h⟩
theorem t7(h:(i.toList == [36,46])=true):nB i=true:=by unfold nB;rw[h];simp
theorem N6(h:(i.toList == [36,102])=true):dq L I i a=11:=by
 have e:=pZ h;have d:((i.toList == [36,123])||((i.toList == [36,118])||(i.toList == [36,100])))=false/\(i.toList == [36,125])=false/\(i.toList == [36,99])=false/\(ay i||aF i)=true:=by rw[e];decide +kernel
 obtain⟨b,c,f,g⟩:=d;unfold dq;rw[b,c,f,g];simp
theorem Mn(h:(ay i||aF i)=true):(i.toList == [36,99])=false/\(i.toList == [36,118])=false/\bY i=false:=by
 unfold ay aF at h;rcases SL _ _ ▸ h with h | h
 all_goals
  rcases SL _ _ ▸ h with h | h <;> (rw[pZ h];decide +kernel)
theorem DL(p:By L L.length I a)(j:Nat)(h:j<I.length)(y:∀q,(aq I j).a<=q->q<(aq I j).z->a9 L I q=0) :
  (((aq I j).k.toList == [36,99])=true->dG L (aq I j).h)/\(((aq I j).k.toList == [36,118])=true->dG L (aq I j).h)/\(((aq I j).k.toList == [36,102])=true->(aq I j).h+1<L.length):=by
 have v:=Bq p j h;obtain⟨P,D⟩:=p.s j h;generalize aq I j=s at *;obtain⟨c,z,J,k⟩:=s;obtain⟨-,B,l,-,n⟩:=P;simp only at *;have i:=y (z-1) (by omega) (by omega);rw[v (z-1) (by omega) (by omega)]at i;have t:=y c (RV _) B;rw[v c (RV _) B,RY rfl]at t;unfold dQ at n;have b:=lg l;by_cases o:(gW (tS L c) ⟨#[36]⟩||decide (L.length<=c+1))=true
 ·rw[RY o]at n;cases n
  have f:¬(z-1=c)->dG L (c+1):=fun g=>by
   rw[RU g,RU (by omega)]at i;have:=xB l i;exact⟨z-1,by omega,by omega,t7 this.1⟩
  refine⟨fun d=>f (fun e=>?_),fun d=>f (fun e=>?_),fun d=>?_⟩
  ·rw[e,d]at b;exact absurd b.2.1 (by simp)
  ·rw[e,d]at b;exact absurd b.2.2.1 (by simp)
  ·rw[N6 d]at t;cases t
 ·rw[RU o]at n;cases n
  have x:gW (tS L c) ⟨#[36]⟩=false:=by
   cases e:gW (tS L c) ⟨#[36]⟩
   ·rfl
   ·rw[e]at o;exact absurd rfl o
  have g:¬(z-1=c):=fun e=>by
   rw[e,x]at b;exact absurd b.1 (by simp)
  have u:=y (c+1) (by omega) (by omega);rw[v (c+1) (by omega) (by omega),RU (by omega),RY (by omega)]at u;have w:(ay (tS L (c+1))||aF (tS L (c+1)))=true:=by
   cases e:(ay (tS L (c+1))||aF (tS L (c+1)))
   ·rw[e]at u;cases u
   ·rfl
  obtain⟨E,F,G⟩:=Mn w;refine⟨fun d=>absurd d (by rw[E];simp),fun d=>absurd d (by rw[F];simp),fun d=>?_⟩;have A:¬(z-1=c+1):=fun e=>by rw[e,G]at l;cases l
  rw[RU g,RU (by omega)]at i;have m:=(xB l i).2;unfold iE at m;split at m
  ·cases m
  ·split at m
   ·cases m
   ·next H C =>
    have r:¬(dX L (c+2) (z-1)).length<2:=fun r=>C (by rw[d];simp[r]);unfold dX at r;rw[Sn,To,Tc]at r;omega
theorem Ps(k:b.length<=100000):QG b (ab b):=by
 intro i m c;have p:=dL b;have n:(ab b).length<=b.length:=tI b b.length;have l:jh (ab b) i<=(ab b).length:=PJ i (ab b);generalize ab b=S at *;have g:∀j,j<jh S i->(aq S j).z<=i:=fun j a=>by
  obtain⟨s,e,f⟩:=BS i S j a;rw[Hz S j (by omega)]at e;cases e;exact f
 have d:=fun j (a:j<jh S i)=>DL p j (by omega) (fun q _ f=>c q (by have:=g j a;omega));refine⟨⟨l,by omega,k,fun j a=>(d j a).1,fun j a=>(d j a).2.1,fun j a=>?_⟩,fun j a=>(d j a).2.2⟩;have:=(p.s j (by omega)).1.lt;have:=g j a;omega
set_option maxRecDepth 100000
theorem rX(D:n.size<=1073741824) :
  Calls prog 53 #[string n] S fun e z=>e=returned (bool (gI n))/\z=S:=by
 by_cases t:n.size=0
 ·have l:Hid (gI n=false):=mQ n (R4 (by omega));have o:((n.size:Int)==0)=true:=by simpa using t
  go_enter func53,ntmps53;go_wp2;go_ret;exact⟨aE l.out.symm,rfl⟩
 ·have o:((n.size:Int)==0)=false:=by simpa using t
  by_cases A:8<n.size
  ·have l:Hid (gI n=false):=mQ n (RZ (by omega));have p:(8:Int)<(n.size:Int):=(by omega);go_enter func53,ntmps53;go_wp2;go_ret;exact⟨aE l.out.symm,rfl⟩
  ·have p:¬(8:Int)<(n.size:Int):=(by omega);have s:Hid (gI n=(List.range n.size).all (fun i=>kQ (aH n i))):=by
    show _=_;unfold gI;rw[show decide (1<=n.size)=true by simp;omega,show decide (n.size<=8)=true by simp;omega];rfl
   go_enter func53,ntmps53;go_wp2
   go_loopg [3] n.size (fun g i wr=>∃k:Nat,k<=n.size/\g=n.size-k/\i=int i64 k/\Hid (∀i,i<k->kQ (aH n i)=true)/\wr=S)
   case atStart=>exact⟨0,by omega,by omega,rfl,fun i h=>by omega,rfl⟩
   case round =>
    obtain⟨k,C,B,rfl,b,rfl⟩:=hrel;by_cases d:k<n.size
    ·have c:Hid (kQ (n[k].toNat:Int)=(fI (n[k].toNat:Int) && !((n[k].toNat:Int)==36))):=rfl;have j:Hid (kQ (n[k].toNat:Int)=false->gI n=false):=fun q=>by rw[s.out];exact Eb k d (by rw[bU n k d];exact q)
     have m:Hid (kQ (n[k].toNat:Int)=true->∀i,i<k+1->kQ (aH n i)=true):=fun q i x=>by
      by_cases e:i=k
      ·subst e;rw[bU n i d];exact q
      ·exact b.out i (by omega)
     have y:(k:Int)<(n.size:Int):=(by omega);cases r:fI (n[k].toNat:Int)
     ·have f:Hid _:=j.out (by rw[c.out,r];rfl);go_wp2_with (go_at_call 79;refine(lO _ _).mono ?_;rintro e v ⟨rfl,a⟩;rw[a];clear a);go_ret;exact⟨aE f.out.symm,rfl⟩
     ·cases u:((n[k].toNat:Int)==36)
      ·have f:Hid _:=m.out (by rw[c.out,r,u];rfl);go_wp2_with (go_at_call 79;refine(lO _ _).mono ?_;rintro e v ⟨rfl,a⟩;rw[a];clear a);go_roundg (n.size-(k+1))
       case measure=>omega
       case rel=>exact⟨k+1,by omega,rfl,by go_num,f,rfl⟩
      ·have f:Hid _:=j.out (by rw[c.out,r,u];rfl);go_wp2_with (go_at_call 79;refine(lO _ _).mono ?_;rintro e v ⟨rfl,a⟩;rw[a];clear a);go_ret;exact⟨aE f.out.symm,rfl⟩
    ·have w:Hid (gI n=true):=(by show _=_;rw[s.out];exact Aa (fun i x=>b.out i (by omega)));go_wp2;go_ret;exact⟨aE w.out.symm,rfl⟩
set_option maxRecDepth 512
theorem Cm(f:D.size<=1073741824)(k:n.size<=4294967296) :
  Calls prog 35 #[string D,string n] S fun e j=>e=returned (int i64 (dc D n))/\j=S:=by
 cases c:gI D
 ·have b:Hid (dc D n=2):=by show _=_;unfold dc;rw[RY c]
  go_enter func35,ntmps35;go_wp2_with (go_at_call 53;refine(rX D _ f).mono ?_;rintro e i ⟨rfl,a⟩;rw[a];clear a);go_ret;exact⟨au b.out.symm,rfl⟩
 ·by_cases g:1024<n.size
  ·have b:Hid (dc D n=3):=(by show _=_;unfold dc;rw[RU (by rw[c];simp),RY g]);have d:(1024:Int)<(n.size:Int):=(by omega);go_enter func35,ntmps35;go_wp2_with (go_at_call 53;refine(rX D _ f).mono ?_;rintro e i ⟨rfl,a⟩;rw[a];clear a);go_ret;exact⟨au b.out.symm,rfl⟩
  ·have b:Hid (dc D n=0):=(by show _=_;unfold dc;rw[RU (by rw[c];simp),RU g]);have d:¬(1024:Int)<(n.size:Int):=(by omega);go_enter func35,ntmps35;go_wp2_with (go_at_call 53;refine(rX D _ f).mono ?_;rintro e i ⟨rfl,a⟩;rw[a];clear a);go_ret;exact⟨au b.out.symm,rfl⟩
structure oP(T:List Tk)(S:List Sm)(n:Nat):Prop where
 ok:iB T S n
 sm:S.length<=10000
 tm:T.length<=10000
 e:∀j,j<n->bY (aq S j).k=false->dG T (aq S j).h
 f:mD T S n
theorem oP.mono(h:oP L I a)(d:u<=a):oP L I u :=
 ⟨⟨Sc d h.ok.m,h.ok.s,h.ok.t,fun j b=>h.ok.c j (by omega),fun j b=>h.ok.v j (by omega),fun j b=>h.ok.a j (by omega)⟩,h.sm,h.tm,fun j b=>h.e j (by omega),fun j b=>h.f j (by omega)⟩
def Po(T:List Tk)(S:List Sm)(x y:ByteArray)(a j:Nat):Bool:=((aq S j).k.toList == [36,100])&&(!(x.toList==y.toList)&&(aJ (bq T (aq S j).h) x&&(aJ (bq T (aq S j).h) y&&aM S j a)))
def dR(T:List Tk)(S:List Sm)(x y:ByteArray)(a:Nat):Bool:=(List.range a).any (Po T S x y a)
theorem fB{l:List UInt8}(h:(i.toList==l)=true)(a:(l == [36,46])=false/\(l == [36,123])=false/\(l == [36,125])=false):bY i=false:=by
 have:i.toList=l:=by simpa using h
 unfold bY;rw[this,a.1,a.2.1,a.2.2];rfl
set_option maxRecDepth 100000
theorem wk(T:List Tk)(r:Option Addr)(V:Nat)(S:List Sm)(R:Option Addr)(U:Nat)(w:World)(hD:fZ w t T r V S R U)(F:oP T S d) :
  Calls prog 95 #[pointer (some ⟨t,0,none⟩),string D,string n,int i64 d] w fun e G=>e=returned (bool (dR T S D n d))/\aa [] w G:=by
 have O:Hid _:=hD;have hn:=F.ok.m;have hS:=F.ok.s;have hT:=F.ok.t;have P:Hid _:=F;clear hD F;go_enter func95,ntmps95;go_wp2
 go_loopg [9] d (fun g i wr=>∃k:Nat,k<=d/\g=d-k/\i=int i64 k/\Hid (∀j,j<k->Po T S D n d j=false)/\Hid (aa [] w wr))
 case atStart=>exact⟨0,by omega,rfl,rfl,(fun j hj=>by omega),aa.refl _ _⟩
 case round =>
  obtain⟨k,hk,hg,rfl,H,u⟩:=hrel;by_cases C:k<d
  ·have f:k<S.length:=(by omega);have z:Hid _:=fZ.Wj O.out u.out;obtain⟨-,c1,hb⟩:=z.out.cells;obtain⟨gs,rfl,ag,-,-,-,q3⟩:=z.out.s.2 k S[k] (RQ f);have ai:(k:Int)<(d:Int):=(by omega);have ad:(k:Int)<S.length:=(by omega);have o:Hid (Po T S D n d k=((S[k].k.toList == [36,100])&&(!(D.toList==n.toList)&&(aJ (bq T S[k].h) D&&(aJ (bq T S[k].h) n&&aM S k d))))):=(by show _=_;unfold Po;rw[bQ S k f]);have A:Hid ((S[k].k.toList == [36,100])=true->dG T S[k].h):=fun h=>by have:=P.out.e k C;rw[<-bQ S k f]at this;exact this (fB h (by decide))
   have N:Hid ((S[k].k.toList == [36,100])=true->∀b,aa [] w b->Calls prog 73 #[pointer (some ⟨t,0,none⟩),int i64 k] b fun e G=>∃W,e=returned (slice W.ao (bq T S[k].h).length W.cap)/\yP b G W (bq T S[k].h)):=fun h b Y=>l6 t k T r V S _ U b (fZ.Wj O.out Y) f hT (A.out h);have af:=lI T S[k].h;have v:Hid (∀b,aa [] w b->Calls prog 93 #[pointer (some ⟨t,0,none⟩),int i64 k,int i64 d] b fun e G=>e=returned (bool (aM S k d))/\G=b):=fun b Y=>lG t k d T r V S _ U b (fZ.Wj O.out Y) (by omega) hn hS;clear A;generalize bq T S[k].h=B at *;generalize S[k].k=sk at *;obtain⟨I,Q⟩:∃I,Hid (aM S k d=I):=⟨_,rfl⟩
   rw[Q.out]at o v;cases X:(sk.toList == [36,100])
   ·have c:Hid _:=eG H.out (by rw[o.out,X];rfl);go_wp2;go_roundg (d-(k+1))
    case measure=>omega
    case rel=>exact⟨k+1,by omega,rfl,by go_num,c,u⟩
   ·cases h2:(D.toList==n.toList)
    ·have M:Hid _:=N.out X;(go_upto_region 6 with (go_at_call 73;refine(M.out _ (by exact u.out)).mono ?_;rintro e Z ⟨J,rfl,K⟩));have l:Hid _:=u.out.trans K.kept;have x:Hid _:=(kC B J.ao J.cap D Z K.own.srcX (by omega));have y:Hid _:=(kC B J.ao J.cap n Z K.own.srcX (by omega));have L:Hid _:=v.out Z l.out;clear K c1 q3;obtain⟨p,Hp⟩:∃p,Hid (aJ B D=p):=⟨_,rfl⟩
     rw[Hp.out]at x o;obtain⟨q,Hq⟩:∃q,Hid (aJ B n=q):=⟨_,rfl⟩
     rw[Hq.out]at y o;(go_upto_region 7 with (go_at_call 94;refine R0 x.out ?_;rintro e w9 ⟨rfl,a⟩;rw[a];clear a));(go_upto_region 8 with (go_at_call 94;refine R0 y.out ?_;rintro e w9 ⟨rfl,a⟩;rw[a];clear a));(go_upto_region 9 with (go_at_call 93;refine R0 L.out ?_;rintro e w9 ⟨rfl,a⟩;rw[a];clear a));cases E:(p&&(q&&I))
     ·have c:Hid _:=eG H.out (by rw[o.out,E];simp);cases p <;> cases q <;> cases I <;> first | (exact absurd E (by decide)) | skip
      all_goals
       go_wp2;go_roundg (d-(k+1))
       case measure=>omega
       case rel=>exact⟨k+1,by omega,rfl,by go_num,c,l⟩
     ·have c:Hid (dR T S D n d=true):=mK k C (by rw[o.out,X,h2,E];rfl);simp only[Bool.and_eq_true]at E;obtain⟨rfl,rfl,rfl⟩:=E;go_wp2;go_ret;exact⟨aE c.out.symm,l.out⟩
    ·have c:Hid _:=eG H.out (by rw[o.out,h2];simp);go_wp2;go_roundg (d-(k+1))
     case measure=>omega
     case rel=>exact⟨k+1,by omega,rfl,by go_num,c,u⟩
  ·have c:Hid (dR T S D n d=false):=uj (fun j hj=>H.out j (by omega));go_wp2;go_ret;exact⟨aE c.out.symm,u.out⟩
structure jd(w wr:World)(h:Hd)(r:eB):Prop where
 own:aC wr h r
 far:∀k,h.blk=some k->w.heap.size<=k
 kept:aa [] w wr
theorem jd.Wj(a:jd T v o z4)(k:aa [] v M):jd T M o z4:=⟨a.own.Wj k,a.far,a.kept.trans k⟩
theorem jd.Wt{f:eB}(a:jd T v o z4)(g:bI v M o c)(i:aC M c f):jd T M c f:=by
 refine⟨i,fun k b=>?_,⟨g.kept.os.trans a.kept.os,g.kept.tape.trans a.kept.tape,g.kept.output.trans a.kept.output,Sc a.kept.size g.kept.size,fun k b _=>?_⟩⟩
 ·rcases g.blk with e | ⟨q,e,d⟩
  ·exact a.far k (by rw[<-e];exact b)
  ·rw[e]at b;cases b;exact Sc a.kept.size d
 ·rw[g.kept.block k (R6 b a.kept.size) (fun d=>by have:=a.far _ (aQ d);omega),a.kept.block k b (by simp)]
theorem yP.toL(a:yP T v o z2):jd T v o (aG z2):=⟨a.own,a.far,a.kept⟩
theorem jd.base(a:jd v M o z4)(k:aa [] T v):jd T M o z4:=⟨a.own,fun q b=>Sc k.size (a.far q b),k.trans a.kept⟩
theorem bI.beside(g:bI T v o c)(b:aC T p z4)(a:∀k,p.blk=some k->o.blk≠some k):aC v p z4 :=
 b.Wo (fun q d=>g.kept.block q (b.lt d) (fun e=>a q d (aQ e)))
theorem oJ{P:Program}{l:Array Oper}{d:List Oper}{o:Oper}{a:Act}{Q:Exit->Act->World->Prop}(L:o.guard=none)(s x:Operand)(t:TypeId)(v:o.op=Op.call { callee:=Callee.builtin Builtin.append,args:=#[s,x],argTypes:=#[t,t] })(i:TypeInfo)(z:Value)(c:Nat)(h:Hd)(r:eB)(b:List Value)(C:P.underlying t=some (.slice r.e))(D:P.info? r.e=some i)(E:i.zero=some z)(F:i.size=r.size)(G:i.bytes=c)(H:z.cells.size=r.size)(I:0<r.size)(O:a.eval s=slice h.ao r.n h.cap)(k:aC S h r)(U:r.n<=1000000)(K:c<=1000)(R:a.eval x=slice (some ⟨S.heap.size,0,none⟩) 1 1)(V:b.length=r.size)(p:∀u∈b,u.oneCell'=true)(J:∀m y,aC y m ⟨r.e,r.size,r.n+1,r.xs++b⟩->bI S y h m->wpList P l Q d (a.put o.dst (slice m.ao (r.n+1) m.cap)) y) :
  wpList P l Q (o :: d) a (S.alloc (.cells b.toArray r.e)):=by
 have A:aa [] S (S.alloc (.cells b.toArray r.e)):=(aa.refl [] _).alloc _;have N:(S.alloc (.cells b.toArray r.e)).heap[S.heap.size]?=some (.cells b.toArray r.e):=R2 _ _;refine aO _ L s x t v i z c h r C D E F G H I O (k.Wj A) ⟨S.heap.size,0,none⟩ 1 1 b R (by omega) ?_ p So (by unfold maxLen;omega) (Sc (Uy (show r.n+1<=1000001 by omega) K) (by omega)) ?_
 ·intro j u M;rw[bS,aj N];simpa using M
 ·intro B f T w g q;exact J ⟨some ⟨B,0,none⟩,f⟩ T w ((bI.Wj A).trans (bI.made g q))
def rI(w:World)(ao:Option Addr)(L:List Nat):Prop:=∀(k n:Nat),L[k]?=some n->∃g,ao=some ⟨g,0,none⟩/\g<w.heap.size/\w.cell? ⟨g,k,none⟩=some (int i64 n)
theorem rI.Wj(h:rI T z3 N)(k:aa [] T v):rI v z3 N:=by
 intro j x c;obtain⟨g,e,a,b⟩:=h j x c;exact⟨g,e,R6 a k.size,by rw[Sh (k.block g a (by simp))];exact b⟩
theorem jB.Wj(h:jB T z3 z2)(k:aa [] T v):jB v z3 z2:=by
 intro j x c;obtain⟨g,e,a,b⟩:=h j x c;exact⟨g,e,R6 a k.size,by rw[Sh (k.block g a (by simp))];exact b⟩
theorem aC.srcN(d:aC T o (bL N)):rI T o.ao N:=by
 intro k x c;rcases d.Wu with ⟨_,b,_⟩ | ⟨g,e,a,f,i,-⟩
 ·have b:N.length=0:=b;have:=(R8.1 c).1;omega
 ·exact⟨g,a,ae f,d.cell a k (int i64 x) (by simp[bL,km,c])⟩
theorem tT(L:List Nat)(n:Nat):(⟨(bL L).e,(bL L).size,(bL L).n+1,(bL L).xs++[int i64 n]⟩:eB)=bL (L++[n]):=by
 simp[bL,km]
theorem Df(L M:List ByteArray):(⟨(aG L).e,(aG L).size,(aG L).n+M.length,(aG L).xs++eS M⟩:eB)=aG (L++M):=by
 simp[aG,eS]
theorem Ay:(prog.info? 3).map (fun i=>(i.zero,i.size,i.bytes))=some (some (int i64 0),1,8):=by kernel_rfl
theorem jB.cells(h:jB T z3 z2):∀b,z3=some b->∀j u,(eS z2)[j]?=some u->T.cell? (b.add j)=some u:=by
 intro b e j u a;rw[eS,Sy]at a;cases d:z2[j]? with
 | none=>rw[d]at a;cases a
 | some x =>
  rw[d]at a;cases a
  obtain⟨g,f,-,c⟩:=h j x d;rw[e]at f;cases f
  rw[bS];simpa using c
def xY(S:List Sm)(a j:Nat):Bool:=((aq S j).k.toList == [36,101])&&aM S j a
def kt(T:List Tk)(S:List Sm)(a k:Nat):List ByteArray:=bq T (aq S a).h++((List.range k).filter (xY S a)).flatMap (fun j=>bq T (aq S j).h)
def ub(T:List Tk)(S:List Sm)(a:Nat):List ByteArray:=kt T S a a
def tB(T:List Tk)(S:List Sm)(a:Nat)(U:List ByteArray)(j:Nat):Bool:=aM S j a&&(((aq S j).k.toList == [36,101])||(((aq S j).k.toList == [36,102])&&aJ U (tS T ((aq S j).h+1))))
def aZ(T:List Tk)(S:List Sm)(a:Nat):List Nat:=(List.range a).filter (tB T S a (ub T S a))
theorem im(p:Nat->Bool)(k:Nat):(List.range (k+1)).filter p=(List.range k).filter p++(if p k=true then [k] else []):=by
 rw[Ty,Tf];congr 1;cases h:p k
 ·rw[TR (by rw[h];simp)];rfl
 ·rw[Ue h];rfl
theorem NA(h:xY w k H=true):kt b w k (H+1)=kt b w k H++bq b (aq w H).h:=by
 unfold kt;rw[im,RY h,TI,TM];simp
theorem Pd(h:xY w k H=false):kt b w k (H+1)=kt b w k H:=by
 unfold kt;rw[im,RU (by rw[h];simp),Su]
theorem N1(c:(i.toList == [36,101])=true)(a:(i.toList == [36,102])=true):False:=by
 have b:i.toList=[36,101]:=by simpa using c
 rw[b]at a;exact absurd a (by decide)
theorem qH(hD:fZ S d b z0 z1 w z5 H)(W:oP b w y)(hn:y<w.length)(hE:dG b (aq w y).h) :
  Calls prog 63 #[pointer (some ⟨d,0,none⟩),int i64 y] S fun e R=>∃c,e=returned (slice c.ao (aZ b w y).length c.cap)/\jd S R c (bL (aZ b w y)):=by
 have HD:Hid _:=hD;have hS:=W.ok.s;have hT:=W.ok.t;have bo:=W.sm;have bp:=W.tm;have al:Hid _:=W;have Z:Hid (∀E,aa [] S E->Calls prog 73 #[pointer (some ⟨d,0,none⟩),int i64 y] E fun e R=>∃c,e=returned (slice c.ao (bq b w[y].h).length c.cap)/\yP E R c (bq b w[y].h)):=fun E kx=>l6 d y b z0 z1 w _ H E (hD.Wj kx) hn hT (by rw[bQ w y hn];exact hE);have M:Hid _:=Z.out S (aa.refl _ _);rw[bQ w y hn]at M;have a4:Hid (kt b w y 0=bq b (aq w y).h):=by show _=_;unfold kt;simp
 have bw:=lI b (aq w y).h;obtain⟨iS,be,az,aS,aT⟩:=Sr lA;obtain⟨iN,ap,I,J,K⟩:=Sr Ay;clear hD W Z;generalize bq b (aq w y).h=B0 at *;go_enter func63,ntmps63;go_upto_region 2 with (go_at_call 73;refine R0 M.out ?_;rintro e w0 ⟨h0,rfl,x0⟩)
 have a5:Hid _:=x0.toL;clear x0 M;go_wp2
 go_loopg [5,6] y (fun g u i wr=>∃(k:Nat) (c:Hd) (O:List ByteArray),k<=y/\g=y-k/\u=slice c.ao O.length c.cap/\i=int i64 k/\O.length<=10000*(k+1)/\Hid (O=kt b w y k)/\Hid (jd S wr c (aG O)))
 case atStart=>exact⟨0,h0,B0,by omega,rfl,rfl,rfl,by omega,a4.out.symm,a5⟩
 case round =>
  obtain⟨k,c,O,hk,hg,rfl,rfl,hO,G,r⟩:=hrel;by_cases bg:k<y
  ·have p:k<w.length:=(by omega);have n:Hid _:=fZ.Wj HD.out r.out.kept;obtain⟨-,c1,hb⟩:=n.out.cells;obtain⟨gs,rfl,bd,-,-,-,q3⟩:=n.out.s.2 k w[k] (RQ p);have bf:(k:Int)<(y:Int):=(by omega);have ar:(k:Int)<w.length:=(by omega);have A:Hid (xY w y k=((w[k].k.toList == [36,101])&&aM w k y)):=(by show _=_;unfold xY;rw[bQ w k p]);have a1:Hid ((w[k].k.toList == [36,101])=true->Calls prog 73 #[pointer (some ⟨d,0,none⟩),int i64 k] wr fun e R=>∃c,e=returned (slice c.ao (bq b w[k].h).length c.cap)/\yP wr R c (bq b w[k].h)):=fun h=>l6 d k b z0 z1 w _ H wr n.out p hT (by have:=al.out.e k bg;rw[<-bQ w k p]at this;exact this (fB h (by decide)));have HY:Hid (xY w y k=true->O++bq b w[k].h=kt b w y (k+1)):=fun h=>by rw[NA b w y k h,<-G.out,bQ w k p]
   have V:Hid (xY w y k=false->O=kt b w y (k+1)):=fun h=>by rw[Pd b w y k h,<-G.out]
   have bk:=lI b w[k].h;have l:Hid _:=(lG d k y b z0 z1 w _ H wr n.out (by omega) (by omega) hS);generalize bq b w[k].h=B at *;generalize w[k].k=X at *;obtain⟨Q,P⟩:∃Q,Hid (aM w k y=Q):=⟨_,rfl⟩
   rw[P.out]at A l;cases F:(X.toList == [36,101])
   ·have x:Hid _:=V.out (by rw[A.out,F];rfl);go_wp2_with (go_at_call 93;refine R0 l.out ?_;rintro e T ⟨rfl,a⟩;rw[a];clear a);go_roundg (y-(k+1))
    case measure=>omega
    case rel=>exact⟨k+1,c,O,by omega,rfl,rfl,by go_num,by omega,x,r⟩
   ·cases Q
    ·have x:Hid _:=V.out (by rw[A.out,F];rfl);go_wp2_with (go_at_call 93;refine R0 l.out ?_;rintro e T ⟨rfl,a⟩;rw[a];clear a);go_roundg (y-(k+1))
     case measure=>omega
     case rel=>exact⟨k+1,c,O,by omega,rfl,rfl,by go_num,by omega,x,r⟩
    ·have x:Hid _:=HY.out (by rw[A.out,F];rfl);have a0:Hid _:=a1.out F;(go_upto_region 8 with (first | (go_at_call 93;refine R0 l.out ?_;rintro e T ⟨rfl,a⟩;rw[a];clear a) | (go_at_call 73;refine R0 a0.out ?_;rintro e w2 ⟨z,rfl,x2⟩)));have ai:Hid _:=r.out.Wj x2.kept;have ba:Hid _:=x2.own.srcX.cells;have af:Hid _:=x2.kept;have bj:z.ao=none->B.length=0/\z.cap=0:=fun e=>by
      rcases x2.own.Wu with ⟨q1,q2,q3⟩ | ⟨g,bl,q1,-⟩
      ·exact⟨q2,by rw[q1]⟩
      ·rw[e]at q1;cases q1
     clear x2 c1 q3;go_wp2_with (at_builtin;refine eN _ rfl (.tmp 40) (.tmp 41) 61 rfl iS (string ⟨#[]⟩) 16 c (aG O) underlying61 be az aS aT rfl So rfl ai.out.own z.ao B.length z.cap (eS B) rfl (by simp[aG,eS]) bj ba.out (mw B) (by simp only[aG];omega) (by omega) ?_;intro h5 w5 j q;rw[Df]at j;have C:Hid _:=ai.out.Wt q j;clear j q);go_roundg (y-(k+1))
     case measure=>omega
     case rel=>exact⟨k+1,h5,O++B,by omega,rfl,by simp[aG],by go_num,by simp;omega,x,C⟩
  ·have e:k=y:=(by omega);subst e;obtain⟨U,HU⟩:∃U,Hid (ub b w k=U):=⟨_,rfl⟩
   have e2:O=U:=(by rw[<-HU.out,G.out];rfl);subst e2;have HX:Hid _:=r.out.own.srcX;have ag:Hid _:=r.out.kept;have HR:Hid (aZ b w k=(List.range k).filter (tB b w k O)):=by show _=_;unfold aZ;rw[HU.out]
   have a3:Hid (jd wr wr ⟨none,0⟩ (bL [])):=⟨Sb _ _ _ _,(by intro k hk;cases hk),aa.refl _ _⟩;clear r G;go_wp2
   go_loopg [9,10] k (fun g o i w2=>∃(m:Nat) (z:Hd) (L:List Nat),m<=k/\g=k-m/\o=slice z.ao L.length z.cap/\i=int i64 m/\L.length<=m/\Hid (L=(List.range m).filter (tB b w k O))/\Hid (jd wr w2 z (bL L)))
   case atStart=>exact⟨0,⟨none,0⟩,[],by omega,rfl,rfl,rfl,by simp,rfl,a3⟩
   case round =>
    obtain⟨m,z,L,hm,bs,rfl,rfl,hL,G,r⟩:=hrel;by_cases ax:m<k
    ·have p:m<w.length:=(by omega);have af:Hid _:=ag.out.trans r.out.kept;have n:Hid _:=fZ.Wj HD.out af.out;obtain⟨c0,c1,hb⟩:=n.out.cells;obtain⟨gs,rfl,bd,-,-,q2,q3⟩:=n.out.s.2 m w[m] (RQ p);have bf:(m:Int)<(k:Int):=(by omega);have ar:(m:Int)<w.length:=(by omega);have A:Hid (tB b w k O m=(aM w m k&&((w[m].k.toList == [36,101])||((w[m].k.toList == [36,102])&&aJ O (tS b (w[m].h+1)))))):=(by show _=_;unfold tB;rw[bQ w m p]);have a2:Hid ((w[m].k.toList == [36,102])=true->w[m].h+1<b.length):=fun h=>by have:=al.out.f m ax;rw[<-bQ w m p]at this;exact this h
     have HY:Hid (tB b w k O m=true->L++[m]=(List.range (m+1)).filter (tB b w k O)):=fun h=>by rw[im,RY h,<-G.out]
     have V:Hid (tB b w k O m=false->L=(List.range (m+1)).filter (tB b w k O)):=fun h=>by rw[im,RU (by rw[h];simp),Su,<-G.out]
     have l:Hid _:=(lG d m k b z0 z1 w _ H wr n.out (by omega) (by omega) hS);obtain⟨Q,P⟩:∃Q,Hid (aM w m k=Q):=⟨_,rfl⟩
     rw[P.out]at A l;generalize w[m].k=X at *;generalize w[m].h=D at *;obtain⟨v,Hv⟩:∃v,Hid (tS b (D+1)=v):=⟨_,rfl⟩
     rw[Hv.out]at A;have Y:Hid (∀E,aa [] wr E->Calls prog 94 #[slice c.ao O.length c.cap,string v] E fun e R=>e=returned (bool (aJ O v))/\R=E):=fun E kx=>kC O c.ao c.cap v E (jB.Wj HX.out (r.out.kept.trans kx)) (by omega);obtain⟨hs,a6⟩:∃hs,Hid (aJ O v=hs):=⟨_,rfl⟩
     rw[a6.out]at Y A;have a7:=r.out.own;cases Q
     ·have x:Hid _:=V.out (by rw[A.out];rfl);go_wp2_with (go_at_call 93;refine R0 l.out ?_;rintro e T ⟨rfl,a⟩;rw[a];clear a);go_roundg (k-(m+1))
      case measure=>omega
      case rel=>exact⟨m+1,z,L,by omega,rfl,rfl,by go_num,by omega,x,r⟩
     ·cases F:(X.toList == [36,101])
      ·cases h3:(X.toList == [36,102])
       ·have x:Hid _:=V.out (by rw[A.out,F,h3];rfl);go_wp2_with (go_at_call 93;refine R0 l.out ?_;rintro e T ⟨rfl,a⟩;rw[a];clear a);go_roundg (k-(m+1))
        case measure=>omega
        case rel=>exact⟨m+1,z,L,by omega,rfl,rfl,by go_num,by omega,x,r⟩
       ·have bc:=a2.out h3;obtain⟨gT,rfl,bv,t0,-⟩:=n.out.t.2 (D+1) _ (iK b (D+1) bc);replace t0:wr.cell? ⟨gT,(D+1)*5,none⟩=some (string (tS b (D+1))):=t0;rw[Hv.out]at t0;have br:(D:Int)+1<b.length:=(by omega);have bT:IntKind.i64.wrap ((D:Int)+1)=(D:Int)+1:=(by rw[TE];omega);have bz:((D:Int)+1).toNat=D+1:=(by omega);have bx:(0:Int)<=(D:Int)+1:=(by omega);(go_upto_region 17 with (go_at_call 93;refine R0 l.out ?_;rintro e T ⟨rfl,a⟩;rw[a];clear a));have N:Hid _:=r.out.Wj (aa.refl [] wr).drew;have an:=N.out.own;go_region_with (go_at_call 94;refine(Y.out _ (by exact(aa.refl [] wr).drew)).mono ?_;rintro e T ⟨rfl,a⟩;rw[a];clear a)
        all_goals
         clear c0 q2 t0;cases hs
         ·have x:Hid _:=V.out (by rw[A.out,F,h3];rfl);go_wp2;go_roundg (k-(m+1))
          case measure=>omega
          case rel=>exact⟨m+1,z,L,by omega,rfl,rfl,by go_num,by omega,x,N⟩
         ·have x:Hid _:=HY.out (by rw[A.out,F,h3];rfl);go_wp2_with (at_builtin;refine oJ _ rfl (.tmp 93) (.tmp 95) 24 rfl iN (int i64 0) 8 z (bL L) [int i64 m] underlying24 ap I J K rfl So rfl an (by simp only[bL];omega) (by omega) rfl rfl (by simp[Value.oneCell']) ?_;intro h5 w5 j q;rw[tT]at j;have C:Hid _:=N.out.Wt q j;clear j q);go_roundg (k-(m+1))
          case measure=>omega
          case rel=>exact⟨m+1,h5,L++[m],by omega,rfl,by simp[bL],by go_num,by simp;omega,x,C⟩
      ·have x:Hid _:=HY.out (by rw[A.out,F];rfl);have h3:(X.toList == [36,102])=false:=by
        cases h:(X.toList == [36,102])
        ·rfl
        ·exact(N1 F h).elim
       go_wp2_with (first | (go_at_call 93;refine R0 l.out ?_;rintro e T ⟨rfl,a⟩;rw[a];clear a) | (at_builtin;refine oJ _ rfl (.tmp 93) (.tmp 95) 24 rfl iN (int i64 0) 8 z (bL L) [int i64 m] underlying24 ap I J K rfl So rfl a7 (by simp only[bL];omega) (by omega) rfl rfl (by simp[Value.oneCell']) ?_;intro h5 w5 j q;rw[tT]at j;have C:Hid _:=r.out.Wt q j;clear j q));go_roundg (k-(m+1))
       case measure=>omega
       case rel=>exact⟨m+1,h5,L++[m],by omega,rfl,by simp[bL],by go_num,by simp;omega,x,C⟩
    ·have e:m=k:=(by omega);subst e;rw[<-HR.out]at G;have ad:Hid (aZ b w m=L):=G.out.symm;go_wp2;go_ret;exact⟨z,by rw[ad.out];rfl,by rw[ad.out];exact r.out.base ag.out⟩
def dM(T:List Tk)(S:List Sm)(a:Nat)(x:ByteArray):Int :=
 if bt T S x a<0 then -1 else if(ay (aq S (bt T S x a).toNat).k||aM S (bt T S x a).toNat a)=true then bt T S x a else -1
theorem ru:bt b w n H=-1∨∃k,k<H/\bt b w n H=(k:Int):=by
 unfold bt;cases h:(List.range H).find? (mz b w n) with
 | none=>exact R4 rfl
 | some j=>exact RZ ⟨j,Sd.1 (SU h),rfl⟩
theorem qz:dM b w k n=-1∨∃a,a<k/\dM b w k n=(a:Int):=by
 unfold dM;split
 ·exact R4 rfl
 ·next h =>
  split
  ·rcases ru b w n k with e | ⟨a,c,e⟩
   ·omega
   ·exact RZ ⟨a,c,e⟩
  ·exact R4 rfl
theorem xX(F:fZ S t b z0 z1 w z5 H)(A:oP b w d) :
  Calls prog 129 #[pointer (some ⟨t,0,none⟩),int i64 d,string D] S fun e i=>e=returned (int i64 (dM b w d D))/\aa [] S i:=by
 have l:Hid _:=oZ t d D b z0 z1 w z5 H S F A.ok.m A.ok.s A.ok.a;have f:Hid (dM b w d D=if bt b w D d<0 then -1 else if(ay (aq w (bt b w D d).toNat).k||aM w (bt b w D d).toNat d)=true then bt b w D d else -1):=rfl;generalize dM b w d D=R at *;have W:=A.ok.m;have U:=A.ok.s;rcases ru b w D d with e | ⟨k,Y,e⟩
 ·rw[e]at l f;rw[RY (by omega)]at f;go_enter func129,ntmps129;go_wp2_with (go_at_call 172;refine R0 l.out ?_;rintro e O ⟨rfl,z⟩;have g:Hid _:=z;clear z);go_ret;exact⟨au f.out.symm,g.out⟩
 ·rw[e]at l f;rw[RU (by omega),SO]at f;have x:k<w.length:=by omega
  have V:¬(k:Int)<0:=by omega
  have M:(k:Int)<w.length:=by omega
  have N:(0:Int)<=(k:Int):=by omega
  obtain⟨p,r⟩:∃p,Hid ((aq w k).k=p):=⟨_,rfl⟩
  have P:Hid (∀i,aa [] S i->∃q,z5=some ⟨q,0,none⟩/\q<i.heap.size/\i.cell? ⟨q,k*4+3,none⟩=some (string p)/\i.cell? ⟨t,1,none⟩=some (slice z5 w.length H)/\t<i.heap.size/\Calls prog 93 #[pointer (some ⟨t,0,none⟩),int i64 k,int i64 d] i fun e J=>e=returned (bool (aM w k d))/\J=i):=fun i X=>by
   have G:=F.Wj X;obtain⟨-,K,L⟩:=G.cells;obtain⟨q,Q,v,-,-,-,I⟩:=G.s.2 k w[k] (RQ x);rw[bQ w k x,r.out]at I;exact⟨q,Q,v,I,K,L,lG t k d b z0 z1 w _ H i G (by omega) W U⟩
  rw[r.out]at f;clear F;go_enter func129,ntmps129;go_upto_region 4 with (go_at_call 172;refine R0 l.out ?_;rintro e O ⟨rfl,z⟩;have g:Hid _:=z;clear z)
  obtain⟨q,rfl,v,I,K,L,u⟩:=P.out O g.out;have j:Hid _:=u;clear u;obtain⟨C,E⟩:∃C,Hid (aM w k d=C):=⟨_,rfl⟩
  rw[E.out]at j f;obtain⟨o,n⟩:∃o,Hid (ay p=o):=⟨_,rfl⟩
  rw[n.out]at f;cases y:(o||C)
  ·rw[y]at f;simp only[Bool.or_eq_false_iff]at y;obtain⟨rfl,rfl⟩:=y;rw[RU (by simp)]at f;go_wp2_with (first | (go_at_call 93;refine R0 j.out ?_;rintro e B ⟨rfl,c⟩;rw[c];clear c) | (go_at_call 123;refine(gG p _).mono ?_;rintro e B ⟨rfl,c⟩;rw[c,n.out];clear c));go_ret;exact⟨au f.out.symm,g.out⟩
  ·rw[y,RY rfl]at f;cases o
   ·have T:C=true:=(by simpa using y);subst T;go_wp2_with (first | (go_at_call 93;refine R0 j.out ?_;rintro e B ⟨rfl,c⟩;rw[c];clear c) | (go_at_call 123;refine(gG p _).mono ?_;rintro e B ⟨rfl,c⟩;rw[c,n.out];clear c));go_ret;exact⟨au f.out.symm,g.out⟩
   ·go_wp2_with (first | (go_at_call 93;refine R0 j.out ?_;rintro e B ⟨rfl,c⟩;rw[c];clear c) | (go_at_call 123;refine(gG p _).mono ?_;rintro e B ⟨rfl,c⟩;rw[c,n.out];clear c));go_ret;exact⟨au f.out.symm,g.out⟩
def gu(T:List Tk)(S:List Sm)(j:Int):Nat:=if j<0 then 0 else if ay (aq S j.toNat).k=true then(aZ T S j.toNat).length else 0
set_option maxRecDepth 512
theorem Jw(v:Value)(T:List Tk)(S:List Sm)(w:World) :
  Calls prog 130 #[v,int i64 (-1)] w fun e b=>e=returned (int i64 (gu T S (-1):Nat))/\aa [] w b:=by
 have a:Hid (gu T S (-1)=0):=rfl;go_enter func130,ntmps130;go_wp2;go_ret;exact⟨by rw[a.out];rfl,aa.refl _ _⟩
set_option maxRecDepth 100000
theorem zr(k:fZ S t b z0 z1 w z5 H)(l:oP b w d)(C:y<d) :
  Calls prog 130 #[pointer (some ⟨t,0,none⟩),int i64 y] S fun e p=>e=returned (int i64 (gu b w y:Nat))/\aa [] S p:=by
 have K:=l.ok.m;have c:y<w.length:=by omega
 have o:¬(y:Int)<0:=by omega
 have v:(y:Int)<w.length:=by omega
 have x:(0:Int)<=(y:Int):=by omega
 have f:Hid (gu b w y=if ay (aq w y).k=true then(aZ b w y).length else 0):=by show _=_;unfold gu;rw[RU o,SO]
 obtain⟨-,F,J⟩:=k.cells;obtain⟨I,rfl,B,-,-,-,D⟩:=k.s.2 y w[y] (RQ c);rw[bQ w y c]at D
 have A:Hid (ay (aq w y).k=true->Calls prog 63 #[pointer (some ⟨t,0,none⟩),int i64 y] S fun e p=>∃g,e=returned (slice g.ao (aZ b w y).length g.cap)/\jd S p g (bL (aZ b w y))):=fun h=>qH t y b z0 z1 w _ H S k (l.mono (by omega)) c (l.e y C (by
  unfold ay at h
  rcases SL _ _ ▸ h with h | h <;> exact fB h (by decide)))
 have q:Hid (ay (aq w y).k=(((aq w y).k.toList == [36,97])||((aq w y).k.toList == [36,112]))):=rfl;clear k l;generalize gu b w y=R at *;generalize (aq w y).k=z at *;generalize ay z=n at *;cases n
 ·rw[RU (by simp)]at f;have j:=q.out.symm;simp only[Bool.or_eq_false_iff]at j;obtain⟨u,G⟩:=j;go_enter func130,ntmps130;go_wp2;go_ret;exact⟨by rw[f.out];rfl,aa.refl _ _⟩
 ·rw[RY rfl]at f;have r:Hid _:=A.out rfl;have j:=q.out.symm;cases u:(z.toList == [36,97])
  ·rw[u,Ts]at j;go_enter func130,ntmps130;go_wp2_with (go_at_call 63;refine R0 r.out ?_;rintro e E ⟨g,rfl,i⟩;have a:Hid _:=i.kept;clear i);go_ret;exact⟨by rw[f.out];rfl,a.out⟩
  ·go_enter func130,ntmps130;go_wp2_with (go_at_call 63;refine R0 r.out ?_;rintro e E ⟨g,rfl,i⟩;have a:Hid _:=i.kept;clear i);go_ret;exact⟨by rw[f.out];rfl,a.out⟩
def Ot(m:Nat):ByteArray:=⟨#[UInt8.ofNat (65+m % 20)]⟩
def EO(m:Nat):ByteArray:=⟨#[UInt8.ofNat (85+m % 5)]⟩
def vp:Nat->Nat->ByteArray->ByteArray
 | 0,_,s=>s
 | f+1,h,s=>if 0<h then vp f ((h-1) / 5) (EO (h-1)++s) else s
def mg(m:Nat):ByteArray:=vp (m+1) (m / 20) (Ot m)
theorem Ji:(convert 312 9 (slice (some ⟨S.heap.size,0,none⟩) 1 1)).run prog (S.alloc (.cells #[int u8 (65+(H:Int) % 20)] 5))=.ok (string (Ot H)) (S.alloc (.cells #[int u8 (65+(H:Int) % 20)] 5)):=by
 have e:(65+(H:Int) % 20)=((UInt8.ofNat (65+H % 20)).toNat:Int):=by
  rw[UInt8.toNat_ofNat'];omega
 rw[e]
 exact Vi (S.alloc (.cells #[int u8 ((UInt8.ofNat (65+H % 20)).toNat:Int)] 5)) 312 9 5 ⟨S.heap.size,0,none⟩ 1 [UInt8.ofNat (65+H % 20)] underlying312 underlying5 underlying9 (by
  intro j a
  match j,a with
  | 0,_=>simp[Addr.add])
theorem Jj:(convert 312 9 (slice (some ⟨S.heap.size,0,none⟩) 1 1)).run prog (S.alloc (.cells #[int u8 (85+(H:Int) % 5)] 5))=.ok (string (EO H)) (S.alloc (.cells #[int u8 (85+(H:Int) % 5)] 5)):=by
 have e:(85+(H:Int) % 5)=((UInt8.ofNat (85+H % 5)).toNat:Int):=by
  rw[UInt8.toNat_ofNat'];omega
 rw[e]
 exact Vi (S.alloc (.cells #[int u8 ((UInt8.ofNat (85+H % 5)).toNat:Int)] 5)) 312 9 5 ⟨S.heap.size,0,none⟩ 1 [UInt8.ofNat (85+H % 5)] underlying312 underlying5 underlying9 (by
  intro j a
  match j,a with
  | 0,_=>simp[Addr.add])
theorem EM:vp k 0 n=n:=by cases k <;> rfl
theorem CF(x:H<=1000000000) :
  Calls prog 241 #[int i64 ((H:Int)+1)] S fun e t=>e=returned (string (mg H))/\aa [] S t:=by
 have a:=fun k=>Ji H k;have b:0<=(H:Int) % 20/\(H:Int) % 20<=19:=by omega
 go_enter func241,ntmps241;go_wp2
 go_loopg [3,4] (H / 20) (fun g r p wr=>∃(f h:Nat) (s:ByteArray),g=h/\p=int i64 h/\r=string s/\h<=f/\h<=1000000000/\s.size+f<=1000000003/\Hid (vp f h s=mg H)/\Hid (aa [] S wr))
 case atStart=>exact⟨H+1,H / 20,Ot H,rfl,by simp,rfl,by omega,by omega,(by show 1+_<=_;omega),rfl,(aa.refl _ _).alloc _⟩
 case round =>
  obtain⟨f,h,s,v,rfl,rfl,u,w,y,l,m⟩:=hrel;clear a b;cases h with
  | zero =>
   have d:Hid (s=mg H):=(by show _=_;rw[<-l.out,EM]);go_wp2;go_ret;exact⟨by rw[<-d.out];rfl,m.out⟩
  | succ q =>
   obtain⟨c,rfl⟩:∃c,f=c+1:=⟨f-1,by omega⟩
   have a:=fun k=>Jj q k;have n:0<=(q:Int) % 5/\(q:Int) % 5<=4:=(by omega);have o:(0:Int)<(q:Int)+1:=(by omega);have d:Hid (vp c (q / 5) (EO q++s)=mg H):=by
    show _=_;rw[<-l.out,vp,RY (by omega),Tq]
   have j:(EO q).size=1:=rfl;have i:Hid ((EO q++s).size=1+s.size):=(by show _=_;rw[ByteArray.size_append,j]);go_wp2;go_roundg (q / 5)
   case measure=>omega
   case rel=>exact⟨c,q / 5,EO q++s,rfl,by simp,rfl,by omega,by omega,by have:=i.out;omega,d,m.out.alloc _⟩
def xm(s:ByteArray)(i:Nat):Bool:=((mg i).toList==s.toList)
def fV(s:ByteArray)(top:Nat):Nat:=match (List.range top).find? (xm s) with
 | some i=>i+1
 | none=>0
theorem E8(d:u<a)(h:xm i u=true)(b:∀j,j<u->xm i j=false):fV i a=u+1:=by
 have e:(List.range a).find? (xm i)=some u:=by
  rw[Tx];exact⟨h,Sd.2 d,fun j c=>by rw[b j c];rfl⟩
 unfold fV;rw[e]
theorem JD(b:∀j,j<a->xm i j=false):fV i a=0:=by
 have e:(List.range a).find? (xm i)=none:=by
  rw[Tn];intro j c;rw[b j (Sd.1 c)];simp
 unfold fV;rw[e]
theorem E7(x:H<=1000000000) :
  Calls prog 214 #[string n,int i64 H] S fun e s=>e=returned (int i64 (fV n H:Nat))/\aa [] S s:=by
 go_enter func214,ntmps214;go_wp2
 go_loopg [5] H (fun g i wr=>∃k:Nat,k<=H/\g=H-k/\i=int i64 ((k:Int)+1)/\Hid (∀j,j<k->xm n j=false)/\Hid (aa [] S wr))
 case atStart=>exact⟨0,by omega,rfl,by simp,(fun j r=>by omega),aa.refl _ _⟩
 case round =>
  obtain⟨k,w,v,rfl,f,d⟩:=hrel;by_cases m:k<H
  ·have l:(k:Int)+1<=(H:Int):=(by omega);have o:Hid _:=(CF k wr (by omega));have p:Hid (xm n k=((mg k).toList==n.toList)):=rfl;generalize mg k=t at *;cases q:(t.toList==n.toList)
   ·have b:Hid _:=eG f.out (by rw[p.out,q]);go_wp2_with (go_at_call 241;refine R0 o.out ?_;rintro e u ⟨rfl,c⟩;have a:Hid _:=d.out.trans c;clear c);go_roundg (H-(k+1))
    case measure=>omega
    case rel=>exact⟨k+1,by omega,rfl,by go_num,b,a⟩
   ·have b:Hid (fV n H=k+1):=E8 m (by rw[p.out,q]) f.out;go_wp2_with (go_at_call 241;refine R0 o.out ?_;rintro e u ⟨rfl,c⟩;have a:Hid _:=d.out.trans c;clear c);go_ret;exact⟨by rw[b.out];rfl,a.out⟩
  ·have b:Hid (fV n H=0):=JD (fun j r=>f.out j (by omega));have l:¬(k:Int)+1<=(H:Int):=(by omega);go_wp2;go_ret;exact⟨by rw[b.out];rfl,d.out⟩
def kT{α:Type}(e s:Nat)(f:α->List Value)(L:List α):eB:=⟨e,s,L.length,L.flatMap f⟩
theorem Ha{α:Type}{s:Nat}{f:α->List Value}(b:∀x,(f x).length=s)(L:List α)(j:Nat)(t:α)(h:L[j]?=some t)(c:Nat)(e:c<s):(L.flatMap f)[j*s+c]?=(f t)[c]?:=by
 induction L generalizing j with
 | nil=>cases h
 | cons a L d =>
  rw[SZ];cases j with
  | zero =>
   simp at h;subst h;rw[Si (by rw[b];omega)];simp
  | succ j =>
   rw[Sf (by rw[b,Nat.succ_mul];omega),show(j+1)*s+c-(f a).length=j*s+c by rw[b,Nat.succ_mul];omega];exact d j (by simpa using h)
theorem jH{α:Type}(f:α->List Value)(L:List α)(x:α):(⟨(kT k H f L).e,(kT k H f L).size,(kT k H f L).n+1,(kT k H f L).xs++f x⟩:eB)=kT k H f (L++[x]):=by
 simp[kT]
def cG{α:Type}(w:World)(ao:Option Addr)(s:Nat)(f:α->List Value)(L:List α):Prop:=∀(k:Nat) (x:α),L[k]?=some x->∃g,ao=some ⟨g,0,none⟩/\g<w.heap.size/\∀(c:Nat) (u:Value),(f x)[c]?=some u->w.cell? ⟨g,k*s+c,none⟩=some u
theorem cG.Wj{α:Type}{f:α->List Value}{L:List α}(h:cG T z3 a f L)(k:aa [] T v):cG v z3 a f L:=by
 intro j x i;obtain⟨g,e,b,d⟩:=h j x i;exact⟨g,e,R6 b k.size,fun c u l=>by rw[Sh (k.block g b (by simp))];exact d c u l⟩
theorem aC.srcG{α:Type}{f:α->List Value}{L:List α}(j:aC T o (kT a u f L))(e:∀x,(f x).length=u):cG T o.ao u f L:=by
 intro k x d;have p:=(R8.1 d).1;obtain⟨g,b,n,-⟩:=qK j (show 0<L.length by omega);refine⟨g,b,n,fun c l i=>j.cell b (k*u+c) l ?_⟩;have m:c<u:=by rw[<-e x];exact(R8.1 i).1
 show(L.flatMap f)[k*u+c]?=some l
 rw[Ha e L k x d c m];exact i
structure Lt where
 c:Int
 file:ByteArray
 line:Int
 col:Int
def QU(l:Lt):List Value:=[int u8 l.c,string l.file,int i64 l.line,int i64 l.col]
theorem Ox(l:Lt):(QU l).length=4:=rfl
def vu(L:List Lt):eB:=kT 311 4 QU L
theorem PZ:(prog.info? 311).map (fun i=>(i.zero,i.size,i.bytes))=some (some (agg #[int u8 0,string ⟨#[]⟩,int i64 0,int i64 0]),4,40):=by kernel_rfl
def fc(T:List Tk):Prop:=∀t∈T,t.s.size<=1024/\0<=t.col/\t.col<=10000
def Jl(t:Tk)(k:Nat):Lt:=⟨aH t.s k,t.file,t.line,t.col+k⟩
def sx(t:Tk):List Lt:=(List.range t.s.size).map (Jl t)
def ew(T:List Tk)(a z:Nat):List Lt:=((T.drop a).take (z-a)).flatMap sx
theorem Dr(d:k<=H)(f:H<b.length):ew b k (H+1)=ew b k H++sx b[H]:=by
 unfold ew;have e:H+1-k=(H-k)+1:=by omega
 have c:H-k<(b.drop k).length:=by rw[Tc];omega
 rw[e,Ta c,TI];have a:(b.drop k)[H-k]=b[H]:=by rw[UW];congr 1;omega
 rw[a];simp
theorem Kj(t:Tk)(k:Nat)(h:k<t.s.size):(sx t).take (k+1)=(sx t).take k++[Jl t k]:=by
 unfold sx;rw[Ta (by simpa using h)];simp
theorem FG(hT:lF S z0 z1 b)(hl:b.length<=10000)(ha:k<=H)(hz:H<=b.length)(hO:fc b) :
  Calls prog 176 #[slice z0 b.length z1,int i64 k,int i64 H] S fun e l=>∃v,e=returned (slice v.ao (ew b k H).length v.cap)/\jd S l v (vu (ew b k H)):=by
 have ai:=hT.1;have HT:Hid _:=hT;have X:Hid (jd S S ⟨none,0⟩ (vu [])):=⟨Sb _ _ _ _,(by intro a hk;cases hk),aa.refl _ _⟩;obtain⟨iL,af,G,I,J⟩:=Sr PZ;have R:Hid (([]:List Lt)=ew b k k):=by show _=_;unfold ew;simp
 clear hT;go_enter func176,ntmps176;go_wp2
 go_loopg [7,8] (H-k) (fun g o i wr=>∃(a:Nat) (v:Hd) (O:List Lt),(k<=a/\a<=H)/\g=H-a/\o=slice v.ao O.length v.cap/\i=int i64 a/\O.length<=1024*a/\Hid (O=ew b k a)/\Hid (jd S wr v (vu O)))
 case atStart=>exact⟨k,⟨none,0⟩,[],⟨by omega,by omega⟩,rfl,rfl,rfl,by simp,R,X⟩
 case round =>
  obtain⟨a,v,O,⟨ag,ax⟩,hg,rfl,rfl,an,HE,HW⟩:=hrel;by_cases aS:a<H
  ·have x:a<b.length:=(by omega);have az:(a:Int)<(H:Int):=(by omega);have al:(a:Int)<b.length:=(by omega);have Y:Hid (O++sx b[a]=ew b k (a+1)):=(by show _=_;rw[Dr b k a ag x,<-HE.out]);obtain⟨o1,o2,o3⟩:=hO b[a] (Sj x);obtain⟨j,rfl,ad,-⟩:=HT.out.2 a b[a] (RQ x);have HC:Hid (∀l,aa [] S l->l.cell? ⟨j,a*5,none⟩=some (string b[a].s)/\l.cell? ⟨j,a*5+2,none⟩=some (string b[a].file)/\l.cell? ⟨j,a*5+3,none⟩=some (int i64 b[a].line)/\l.cell? ⟨j,a*5+4,none⟩=some (int i64 b[a].col)):=fun l kw=>by
    obtain⟨g,e,hg,c0,c1,c2,c3,c4⟩:=(lF.Wj HT.out kw).2 a b[a] (RQ x);cases e
    exact⟨c0,c2,c3,c4⟩
   generalize b[a]=t at *;obtain⟨c,K,q,r,p⟩:=t;simp only at o1 o2 o3 HC;go_wp2_with fail
   go_loopg [7,9] c.size (fun g o i wr=>∃(m:Nat) (z:Hd) (P:List Lt),m<=c.size/\g=c.size-m/\o=slice z.ao P.length z.cap/\i=int i64 m/\P.length<=O.length+m/\Hid (P=O++(sx ⟨c,K,q,r,p⟩).take m)/\Hid (jd S wr z (vu P)))
   case atStart=>exact⟨0,v,O,by omega,rfl,rfl,rfl,by omega,by show _=_;simp,HW⟩
   case round =>
    obtain⟨m,z,P,hm,ap,rfl,rfl,hP,C,f⟩:=hrel;obtain⟨c0,c2,c3,c4⟩:=HC.out wr f.out.kept;have F:j<wr.heap.size:=R6 ad f.out.kept.size;by_cases d:m<c.size
    ·have aT:(m:Int)<(c.size:Int):=(by omega);have T:Hid (P++[Jl ⟨c,K,q,r,p⟩ m]=O++(sx ⟨c,K,q,r,p⟩).take (m+1)):=(by show _=_;rw[C.out,Kj _ m d,TM]);have U:Hid (QU (Jl ⟨c,K,q,r,p⟩ m)=[int u8 ((c[m]'d).toNat:Int),string q,int i64 r,int i64 (p+m)]):=(by show _=_;unfold QU Jl;simp only;rw[bU c m d]);obtain⟨W,y⟩:∃W,Hid (wr.alloc (.cells #[string q,int i64 r,int i64 (p+m)] 36)=W):=⟨_,rfl⟩
     have N:=fN y.out;have L:=fY y.out;have D:Hid _:=f.out.Wj N;have ac:=D.out.own;have d0:W.cell? ⟨j,a*5,none⟩=some (string c):=(by rw[Sh (N.block j F (by simp))];exact c0);obtain⟨d1,d2,d3⟩:=vH L;have HS:Hid (∀w h5,bI W w z h5->w.cell? ⟨j,a*5,none⟩=some (string c)/\w.cell? ⟨wr.heap.size,0,none⟩=some (string q)/\w.cell? ⟨wr.heap.size,1,none⟩=some (int i64 r)/\w.cell? ⟨wr.heap.size,2,none⟩=some (int i64 (p+m))):=fun w h5 gr=>by
      have q1:w.heap[j]?=W.heap[j]?:=gr.kept.block j (R6 F N.size) (fun hq=>by have:=f.out.far _ (aQ hq);omega);have Q:w.heap[wr.heap.size]?=W.heap[wr.heap.size]?:=gr.kept.block _ (ae L) (fun hq=>by have:=f.out.own.lt (aQ hq);omega);exact⟨by rw[Sh q1];exact d0,by rw[Sh Q];exact d1,by rw[Sh Q];exact d2,by rw[Sh Q];exact d3⟩
     have a0:wr.heap.size<W.heap.size:=ae L;have ar:j<W.heap.size:=(by omega);clear L N;(go_upto_region 10 with fail);rw[y.out];have s3:Hid (∀u∈([int u8 ((c[m]'d).toNat:Int),string q,int i64 r,int i64 (p+m)]:List Value),u.oneCell'=true):=by
      intro u hu;simp only[List.mem_cons,List.not_mem_nil,or_false]at hu;rcases hu with rfl | rfl | rfl | rfl <;> rfl
     have s4:Hid ((vu P).n<=900000000):=(by show P.length<=_;omega);go_region_held3 (fun l=>l.cell? ⟨j,a*5,none⟩=some (string c)/\l.cell? ⟨wr.heap.size,0,none⟩=some (string q)/\l.cell? ⟨wr.heap.size,1,none⟩=some (int i64 r)/\l.cell? ⟨wr.heap.size,2,none⟩=some (int i64 (p+m))) (go_keep) ((refine bR W (by rfl) (.tmp 37) (.tmp 47) 267 (by rfl) iL (agg #[int u8 0,string ⟨#[]⟩,int i64 0,int i64 0]) 40 z (vu P) [int u8 ((c[m]'d).toNat:Int),string q,int i64 r,int i64 (p+m)] underlying267 af G I J rfl (show 0<4 by omega) (by simp[Act.eval] <;> rfl) ac s4.out (by omega) (by simp[Act.eval]) rfl s3.out ?_;intro Z E w B A;obtain⟨q1,Q,q3,q4⟩:=HS.out w _ A));rw[<-U.out,vu,jH]at B;have V:Hid _:=D.out.Wt A B;clear B A;go_wp2;go_roundg (c.size-(m+1))
     case measure=>omega
     case rel=>exact⟨m+1,⟨Z,E⟩,P++[Jl ⟨c,K,q,r,p⟩ m],by omega,rfl,by simp[vu,kT],by go_num,by simp;omega,T,V⟩
    ·have e:m=c.size:=(by omega);subst e;have M:Hid (P=ew b k (a+1)):=by
      show _=_;rw[C.out,<-Y.out];congr 1;rw[Uk (by unfold sx;simp)]
     go_wp2;go_roundg (H-(a+1))
     case measure=>omega
     case rel=>exact⟨a+1,z,P,⟨by omega,by omega⟩,rfl,rfl,by go_num,by omega,M,f⟩
  ·have e:a=H:=(by omega);subst e;have M:Hid (ew b k a=O):=HE.out.symm;go_wp2;go_ret;exact⟨v,by rw[M.out];rfl,by rw[M.out];exact HW.out⟩
structure cW where
  ref:Int
  back:Nat
  need:Nat
  file:ByteArray
  line:Int
  col:Int
def lq(s:cW):List Value:=[int i64 s.ref,int i64 s.back,int i64 s.need,string s.file,int i64 s.line,int i64 s.col]
theorem Nk(s:cW):(lq s).length=6:=rfl
def eW(L:List cW):eB:=kT 162 6 lq L
theorem nu(L:List cW)(x:cW):(⟨(eW L).e,(eW L).size,(eW L).n+1,(eW L).xs++lq x⟩:eB)=eW (L++[x]):=jH _ _ _ _ _
theorem t8(x:cW):∀u∈lq x,u.oneCell'=true:=by
  intro u a;simp only[lq,List.mem_cons,List.not_mem_nil,or_false]at a;rcases a with rfl | rfl | rfl | rfl | rfl | rfl <;> rfl
structure jM where
  st:List cW
  why:Int
  file:ByteArray
  line:Int
  col:Int
def QV(p:jM)(h:Hd):Value:=agg #[slice h.ao p.st.length h.cap,int i64 p.why,string p.file,int i64 p.line,int i64 p.col]
theorem Mj:(prog.info? 162).map (fun i=>(i.zero,i.size,i.bytes))=some (some (agg #[int i64 0,int i64 0,int i64 0,string ⟨#[]⟩,int i64 0,int i64 0]),6,56):=by kernel_rfl
theorem fD{l m n o p:Value}(h:T.heap[a]?=some (.cells #[l,m,n,o,p] 122))(b c d e f:Value) :
    (T.setCell ⟨a,0,none⟩ b).cell? ⟨a,0,none⟩=some b/\((T.setCell ⟨a,0,none⟩ b).setCell ⟨a,1,none⟩ c).cell? ⟨a,1,none⟩=some c/\(((T.setCell ⟨a,0,none⟩ b).setCell ⟨a,1,none⟩ c).setCell ⟨a,2,none⟩ d).cell? ⟨a,2,none⟩=some d/\((((T.setCell ⟨a,0,none⟩ b).setCell ⟨a,1,none⟩ c).setCell ⟨a,2,none⟩ d).setCell ⟨a,3,none⟩ e).cell? ⟨a,3,none⟩=some e/\(((((T.setCell ⟨a,0,none⟩ b).setCell ⟨a,1,none⟩ c).setCell ⟨a,2,none⟩ d).setCell ⟨a,3,none⟩ e).setCell ⟨a,4,none⟩ f).cell? ⟨a,4,none⟩=some f:=by
  have g:=ah h 0 b;have i:=ah g 1 c;have j:=ah i 2 d;have k:=ah j 3 e;have q:=ah k 4 f;exact⟨by rw[aj g];rfl,by rw[aj i];rfl,by rw[aj j];rfl,by rw[aj k];rfl,by rw[aj q];rfl⟩
def vR(c:Int):ByteArray:=⟨#[UInt8.ofNat c.toNat]⟩
theorem NY(c:Int)(d:0<=c/\c<256)(a:World):(convert 312 9 (slice (some ⟨a.heap.size,0,none⟩) 1 1)).run prog (a.alloc (.cells #[int u8 c] 5))=.ok (string (vR c)) (a.alloc (.cells #[int u8 c] 5)):=by
  have e:c=((UInt8.ofNat c.toNat).toNat:Int):=by
    rw[UInt8.toNat_ofNat'];omega
  unfold vR;generalize UInt8.ofNat c.toNat=u at *;rw[e]
  exact Vi (a.alloc (.cells #[int u8 (u.toNat:Int)] 5)) 312 9 5 ⟨a.heap.size,0,none⟩ 1 [u] underlying312 underlying5 underlying9 (by
    intro j b
    match j,b with
    | 0,_=>simp[Addr.add])
def nP(why:Int)(l:Lt):jM:=⟨[],why,l.file,l.line,l.col⟩
def pi(T:List Tk)(S:List Sm)(refs tags:List Nat)(n:Nat)(l:Lt):cW :=
  if n<=refs.length then⟨(refs.getD (n-1) 0:Nat),0,gu T S (refs.getD (n-1) 0:Nat),l.file,l.line,l.col⟩ else⟨-2,tags.getD (n-refs.length-1) 0,0,l.file,l.line,l.col⟩
def mv(T:List Tk)(S:List Sm)(refs:List Nat)(en:Lt):List Lt->List cW->List Nat->ByteArray->Bool->jM
  | [],P,_,num,_=>if(num.toList == [])=false then nP 4 en else if P.length=0 then nP 1 en else⟨P,0,⟨#[]⟩,0,0⟩
  | l :: r,P,tags,num,fr =>
    if 85<=l.c/\l.c<=89 then mv T S refs en r P tags (num++vR l.c) false
    else if 65<=l.c/\l.c<=84 then
      (if fV (num++vR l.c) (refs.length+tags.length)=0 then nP 5 l
       else mv T S refs en r (P++[pi T S refs tags (fV (num++vR l.c) (refs.length+tags.length)) l]) tags ⟨#[]⟩ true)
    else if l.c=90/\fr=true then mv T S refs en r P (tags++[P.length-1]) num false
    else if l.c=63/\(num.toList == [])=true then mv T S refs en r (P++[⟨-1,0,0,l.file,l.line,l.col⟩]) tags num false
    else nP 4 l
def jW(T:List Tk)(S:List Sm)(refs:List Nat)(en:Lt)(L:List Lt):jM:=mv T S refs en L [] [] ⟨#[]⟩ false
theorem zs:fV n H<=H:=by
  unfold fV;cases h:(List.range H).find? (xm n) with
  | none=>exact SE _
  | some i=>have:=Sd.1 (SU h);show i+1<=H;omega
structure Gp(w wr:World)(en:Lt)(P:List cW)(h:Hd)(tags:List Nat)(ht:Hd):Prop where
  e:wr.heap[w.heap.size]?=some (.cells #[string en.file,int i64 en.line,int i64 en.col] 36)
  r:wr.heap[w.heap.size+1]?=some (.cells #[slice none 0 0,int i64 0,string ⟨#[]⟩,int i64 0,int i64 0] 122)
  p:wr.heap[w.heap.size+2]?=some (.cells #[slice h.ao P.length h.cap,int i64 0,string ⟨#[]⟩,int i64 0,int i64 0] 122)
  op:aC wr h (eW P)
  ot:aC wr ht (bL tags)
  fp:∀k,h.blk=some k->w.heap.size+2<k
  ft:∀k,ht.blk=some k->w.heap.size+2<k
  ap:∀k,h.blk=some k->ht.blk≠some k
  kept:aa [] w wr
theorem Gp.Wj{b:Lt}{P:List cW}(a:Gp T v b P o N c)(k:aa [] v M):Gp T M b P o N c :=
  ⟨k.get a.e (by simp),k.get a.r (by simp),k.get a.p (by simp),a.op.Wj k,a.ot.Wj k,a.fp,a.ft,a.ap,a.kept.trans k⟩
theorem pY(k:aa N v M)(c:∀q∈N,T.heap.size<=q)(a:aa [] T v):aa [] T M :=
  ⟨k.os.trans a.os,k.tape.trans a.tape,k.output.trans a.output,Sc a.size k.size,fun q b _=>by
    rw[k.block q (R6 b a.size) (fun d=>by have:=c q d;omega),a.block q b (by simp)]⟩
theorem Gp.addT{l:Lt}{P:List cW}{b:List Nat}(a:Gp T v l P o N c)(g:bI v M c p)(n:aC M p (bL b)):Gp T M l P o b p:=by
  have j:∀q,q<=T.heap.size+2->q∉c.blk.toList:=fun q i m=>by have:=a.ft q (aQ m);omega
  have s:=ae a.p;refine⟨g.kept.get a.e (j _ (by omega)),g.kept.get a.r (j _ (by omega)),g.kept.get a.p (j _ (by omega)),g.beside a.op (fun k d=>a.ap k d),n,a.fp,fun k d=>?_,fun k d f=>?_,pY g.kept (fun q i=>by have:=a.ft q (aQ i);omega) a.kept⟩
  · rcases g.blk with e | ⟨q,e,i⟩
    · exact a.ft k (by rw[<-e];exact d)
    · rw[e]at d;cases d;omega
  · rcases g.blk with e | ⟨q,e,i⟩
    · exact a.ap k d (by rw[<-e];exact f)
    · rw[e]at f;cases f
      have:=a.op.lt d;omega
theorem Gp.addP{u:Lt}{P l:List cW}(a:Gp T v u P o N c)(g:bI v M o p)(w:aC M p (eW l)){m:Nat}(s:m=l.length):Gp T (M.setCell ⟨T.heap.size+2,0,none⟩ (slice p.ao m p.cap)) u l p N c:=by
  subst s;have t:∀q,q<=T.heap.size+2->q∉o.blk.toList:=fun q b s=>by have:=a.fp q (aQ s);omega
  have B:=ae a.p;have x:=g.kept.get a.e (t _ (by omega));have A:=g.kept.get a.r (t _ (by omega));have z:=g.kept.get a.p (t _ (by omega));have i:∀k,p.blk=some k->T.heap.size+2<k:=fun k d=>by
    rcases g.blk with e | ⟨q,e,b⟩
    · exact a.fp k (by rw[<-e];exact d)
    · rw[e]at d;cases d;omega
  have j:aC M c (bL N):=g.beside a.ot (fun k d f=>a.ap k f d);have n:aa [T.heap.size+2] M (M.setCell ⟨T.heap.size+2,0,none⟩ (slice p.ao l.length p.cap)):=(aa.refl _ _).setCell (R4 (by simp)) _;refine⟨n.get x (by simp),n.get A (by simp),by rw[ah z];rfl,w.Wo (fun q b=>n.block q (w.lt b) (by simp;have:=i q b;omega)),j.Wo (fun q b=>n.block q (j.lt b) (by simp;have:=a.ft q b;omega)),i,a.ft,fun k d f=>?_,?_⟩
  · rcases g.blk with e | ⟨q,e,b⟩
    · exact a.ap k (by rw[<-e];exact d) f
    · rw[e]at d;cases d
      have:=a.ot.lt f;omega
  · have y:aa [] T M:=pY g.kept (fun q b=>by have:=a.fp q (aQ b);omega) a.kept
    exact y.setCell (RZ (by simp)) _
theorem Gp.cells{b:Lt}{P:List cW}(a:Gp T v b P o N c) :
    (v.cell? ⟨T.heap.size,0,none⟩=some (string b.file)/\v.cell? ⟨T.heap.size,1,none⟩=some (int i64 b.line)/\v.cell? ⟨T.heap.size,2,none⟩=some (int i64 b.col)) /\
    (v.cell? ⟨T.heap.size+1,0,none⟩=some (slice none 0 0)/\v.cell? ⟨T.heap.size+1,1,none⟩=some (int i64 0)/\v.cell? ⟨T.heap.size+1,2,none⟩=some (string ⟨#[]⟩)/\v.cell? ⟨T.heap.size+1,3,none⟩=some (int i64 0)/\v.cell? ⟨T.heap.size+1,4,none⟩=some (int i64 0)) /\
    (v.cell? ⟨T.heap.size+2,0,none⟩=some (slice o.ao P.length o.cap)/\v.cell? ⟨T.heap.size+2,1,none⟩=some (int i64 0)/\v.cell? ⟨T.heap.size+2,2,none⟩=some (string ⟨#[]⟩)/\v.cell? ⟨T.heap.size+2,3,none⟩=some (int i64 0)/\v.cell? ⟨T.heap.size+2,4,none⟩=some (int i64 0)) /\
    (v.frozen? ⟨T.heap.size+1,0,none⟩=false/\v.frozen? ⟨T.heap.size+1,1,none⟩=false/\v.frozen? ⟨T.heap.size+1,2,none⟩=false/\v.frozen? ⟨T.heap.size+1,3,none⟩=false/\v.frozen? ⟨T.heap.size+1,4,none⟩=false)/\v.frozen? ⟨T.heap.size+2,0,none⟩=false/\T.heap.size+2<v.heap.size:=by
  refine⟨⟨?_,?_,?_⟩,⟨?_,?_,?_,?_,?_⟩,⟨?_,?_,?_,?_,?_⟩,⟨am a.r 0,am a.r 1,am a.r 2,am a.r 3,am a.r 4⟩,am a.p 0,ae a.p⟩
  all_goals first | (rw[aj a.e];rfl) | (rw[aj a.r];rfl) | (rw[aj a.p];rfl)
end Go.Proofs.YtnbhnocdhbcbcaaGreat
