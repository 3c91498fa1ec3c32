import Derived.Test.YtpddjjabfbfifaaGreatRows
import Derived.Deep.Slices
import Derived.ProofKit
import Derived.OpenShut
import Derived.ShutString
import Derived.ChangeOld
import Derived.Below
import Derived.SizedLaws
import Derived.Test.YtpddjjabfbfifaaGreatG23
namespace Go.Proofs.YtpddjjabfbfifaaGreat
open Go.RowKit Go.Proofs.Tryz
set_option maxRecDepth 100000
set_option maxHeartbeats 40000000
variable{n v:World}{g:Option Addr}{o:Option Nat}{a:List ByteArray}{f S d:Nat}{y:Nat×Nat->It}{k:Mc}{x I:Hd}{M:List Int}{i:Int}(N:Nat)(D:Option Addr)(b l:Nat)(L:World)(H:Nat×Nat->It)(w:Mc)(T:Hd)
structure pB where
 k:Int
 a:Int
 c:Int
 d:Int
 s:ByteArray
 t:ByteArray
def Kj(o:pB):List Value:=[.int .i64 o.k,.int .i64 o.a,.int .i64 o.c,.int .i64 o.d,.string o.s,.string o.t]
def ja(L:List pB):dN:=kU 28 6 Kj L
theorem Lv:(prog.info? 28).map (fun i=>(i.zero,i.size,i.bytes))=some (some (.agg #[.int .i64 0,.int .i64 0,.int .i64 0,.int .i64 0,.string ⟨#[]⟩,.string ⟨#[]⟩]),6,64):=by kernel_rfl
theorem Aq(o:pB):∀u∈Kj o,u.oneCell'=true:=by
 intro u a;simp only[Kj,List.mem_cons,List.not_mem_nil,or_false]at a
 rcases a with rfl | rfl | rfl | rfl | rfl | rfl <;> rfl
structure M3(o:pB):Prop where
 a:qB o.a
 c:qB o.c
 d:qB o.d
 s:o.s.size<=1073741824
 t:o.t.size<=1073741824
 k:(1<=o.k/\o.k<=10)∨(15<=o.k/\o.k<=18)∨o.k=12∨(o.k=19/\o.d=12)
def mx(w:World)(ao:Option Addr)(l:List pB):Prop:=∀(i:Nat) (o:pB),l[i]?=some o->∃b off,ao=some ⟨b,off,none⟩/\b<w.heap.size/\∀(j:Nat) u,(Kj o)[j]?=some u->w.cell? ⟨b,off+i*6+j,none⟩=some u
theorem mx.Vb{l:List pB}(h:mx n g l)(k:ab [] n v):mx v g l:=by
 intro i o m;obtain⟨b,a,e,c,f⟩:=h i o m;exact⟨b,a,e,QX c k.size,fun j u d=>by rw[Q6 (k.block b c (by simp))];exact f j u d⟩
structure AZ(o:pB):Prop where
 k:qB o.k
 a:qB o.a
 c:qB o.c
 d:qB o.d
 s:o.s.size<=140737488351232
 t:o.t.size<=140737488351232
def lT(l:List pB)(k:Nat):pB:=l.getD k ⟨0,0,0,0,⟨#[]⟩,⟨#[]⟩⟩
theorem lU(l:List pB)(k:Nat)(h:k<l.length):l[k]?=some (lT l k):=by
 unfold lT;rw[QQ,QP h];rfl
def OI(l:List pB)(w:World)(e:Ending)(w':World):Prop:=(∃r,e=.returned (.bool r)/\(r=true->l.length<=1073741824/\∀i,i<l.length->(lT l i).s.size<=1073741824/\(lT l i).t.size<=1073741824))/\ab [] w w'
theorem Fh(a:List pB)(w:World)(O:a.length<=140737488351232)(n:mx w D a)(v:∀o∈a,AZ o) :
  Calls prog 7 #[.slice D a.length l] w fun e H=>OI a w e H:=by
 have K:Hid (mx w D a):=n;have u:=hI v;clear n v
 by_cases R:1073741824<a.length
 ·have p:(1073741824:Int)<(a.length:Int):=by omega
  go_enter func7,ntmps7;go_wp2;go_ret;exact⟨⟨false,rfl,by simp⟩,ab.refl _ _⟩
 ·have p:¬(1073741824:Int)<(a.length:Int):=by omega
  go_enter func7,ntmps7;go_wp2
  go_loopg [3,4] a.length (fun g m i wr=>∃(k:Nat) (z:Int),k<=a.length/\g=a.length-k/\i=.int .i64 k/\m=.int .i64 z/\Hid (∀i,i<k->(lT a i).s.size<=1073741824/\(lT a i).t.size<=1073741824)/\0<=z/\z<=1073741824/\Hid (ab [] w wr))
  case atStart=>exact⟨0,a.length,by omega,by omega,rfl,rfl,fun i h=>by omega,by omega,by omega,ab.refl _ _⟩
  case round =>
   obtain⟨k,z,P,S,rfl,rfl,r,A,I,j⟩:=hrel
   by_cases c:k<a.length
   ·have y:(k:Int)<(a.length:Int):=by omega
    obtain⟨b,N,rfl,Q,q⟩:=(mx.Vb K.out j.out) k _ (lU a k c);have B:=q 4 _ rfl;have M:=q 5 _ rfl;have J:=(u.out (lT a k) (R4 (lU a k c))).s;have G:=(u.out (lT a k) (R4 (lU a k c))).t;obtain⟨o,x⟩:∃o,Hid (lT a k=o):=⟨_,rfl⟩
    rw[x.out]at B M J G;clear q;have F:(o.s.size:Int)<=140737488351232:=by omega
    have E:(o.t.size:Int)<=140737488351232:=by omega
    by_cases L:(1073741824:Int)<z+o.s.size+o.t.size
    ·go_upto_region 7 with fail
     go_quiet (fail)
     have d:Hid (ab [] w (wr.drewN nq)):=j.out.drewN nq;go_wp2;go_ret;exact⟨⟨false,rfl,by simp⟩,d.out⟩
    ·have f:Hid (∀i,i<k+1->(lT a i).s.size<=1073741824/\(lT a i).t.size<=1073741824):=fun i n=>by
      by_cases e:i=k
      ·rw[e,x.out];omega
      ·exact r.out i (by omega)
     go_upto_region 7 with fail
     go_quiet (fail)
     have d:Hid (ab [] w (wr.drewN nq)):=j.out.drewN nq;go_wp2
     go_roundg (a.length-(k+1))
     case measure=>omega
     case rel=>exact⟨k+1,z+o.s.size+o.t.size,by omega,rfl,by go_num,rfl,f,by omega,by omega,d⟩
   ·have C:¬(k:Int)<(a.length:Int):=by omega
    have f:Hid (∀i,i<a.length->(lT a i).s.size<=1073741824/\(lT a i).t.size<=1073741824):=fun i n=>r.out i (by omega)
    go_wp2;go_ret;exact⟨⟨true,rfl,fun _=>⟨by omega,f.out⟩⟩,j.out⟩
theorem qU(d:Option Addr)(q p:Nat)(L:List ByteArray)(w:World)(j:ge w D L)(h:ge w d L)(t:L.length<=4294967296) :
  Calls prog 25 #[.slice D L.length q,.slice d L.length p] w fun e o=>e=.returned (.bool true)/\∃n,o=w.drewN n:=by
 have s:Hid (ge w D L):=j;have r:Hid (ge w d L):=h;clear j h;go_enter func25,ntmps25;go_wp2
 go_loopg [5] L.length (fun g i wr=>∃k:Nat,k<=L.length/\g=L.length-k/\i=.int .i64 k/\Hid (∃n,wr=w.drewN n))
 case atStart=>exact⟨0,by omega,by omega,rfl,0,rfl⟩
 case round =>
  obtain⟨k,u,F,rfl,c⟩:=hrel;have f:Hid (ab [] w wr):=by show ab _ _ _;obtain⟨n,e⟩:=c.out;rw[e];exact(ab.refl [] w).drewN n
  by_cases a:k<L.length
  ·have l:(k:Int)<(L.length:Int):=by omega
   obtain⟨z,rfl,B,E⟩:=(ge.Vb s.out f.out) k _ (QP a);obtain⟨y,rfl,C,A⟩:=(ge.Vb r.out f.out) k _ (QP a);generalize L[k]=x at *;have v:(x.toList==x.toList)=true:=UQ _
   go_upto_region 6 with fail
   go_quiet (fail)
   have b:Hid (∃n,wr.drewN nq=w.drewN n):=by show ∃_,_;obtain⟨n,e⟩:=c.out;exact⟨n+nq,by rw[e,Uf]⟩
   go_wp2
   go_roundg (L.length-(k+1))
   case measure=>omega
   case rel=>exact⟨k+1,by omega,rfl,by go_num,b⟩
  ·have m:¬(k:Int)<(L.length:Int):=by omega
   go_wp2;go_ret;exact⟨rfl,c.out⟩
def Ix(bo:Option Nat)(L:List ByteArray):It where
 B:=bo.toList
 P w:=vF w bo L
 lt w a q hq:=by
  cases bo with
  | none=>cases hq
  | some b=>rw[UI,Q9]at hq;rw[hq];exact ae (a.blk b rfl)
 ok S w w' a k hb:=⟨a.nil,fun b e=>k.get (a.blk b e) (hb b (by rw[e];simp))⟩
theorem vF.srcX(h:vF n o a):ge n (wD o) a:=by
 intro k x c
 cases o with
 | none=>rw[h.nil.1 rfl]at c;cases c
 | some b =>
  have d:=h.blk b rfl;exact⟨b,rfl,ae d,by rw[aa d];simp[cN,c]⟩
abbrev Tx:=Option Nat×Hd×List ByteArray
def MN(t:Tx):List Value:=[.slice (wD t.1) t.2.2.length t.2.2.length,.slice t.2.1.ao t.2.2.length t.2.1.cap]
def md(TS:List Tx):dN:=kU 63 2 MN TS
structure QF(I:Nat×Nat->It)(tv:Value)(ht:Hd)(TS:List Tx)(N:Nat):Prop where
 e:tv=.slice ht.ao TS.length ht.cap
 r:I (11,0)=ce ht (md TS)
 l:∀k bo h L,TS[k]?=some (bo,h,L)->I (12,k)=Ix bo L/\I (13,k)=ce h (aB L)/\L.length<=900000000
 n:TS.length<=N
structure cM(w:World)(b:Nat)(I:Nat×Nat->It)(M:Mc)(ht:Hd)(TS:List Tx)(N:Nat):Prop where
 m:bZ w b I M N
 q:M.qv=.slice none 0 0
 t:QF I M.tv ht TS N
theorem cM.Vb{a:List Tx}(h:cM n f y k x a S)(b:ab [] n v):cM v f y k x a S:=⟨h.m.Vb b,h.q,h.t⟩
theorem cM.more{a:List Tx}(h:cM n f y k x a S):cM n f y k x a (S+1):=⟨h.m.more,h.q,{ h.t with n:=UK h.t.n }⟩
def qM(b:Nat)(I:Nat×Nat->It)(N:Nat)(e:Ending)(w':World):Prop:=e=.returned (.bool true)/\∃I' M' ht' TS',cM w' b I' M' ht' TS' (N+1)/\I' (10,0)=I (10,0)
theorem cM.up{c:List Tx}{e:Ending}(h:cM n f y k x c S)(s:iB f y k S true e v):qM f y S e v:=by
 obtain⟨o,d,m,p,a⟩:=s;refine⟨o,d,m,x,c,⟨p,a.q.trans h.q,⟨a.t.trans h.t.e,(a.k 11 0 (by decide)).trans h.t.r,fun b i j L g=>?_,UK h.t.n⟩⟩,a.k 10 0 (QR _)⟩;rw[a.k 12 b (by decide),a.k 13 b (by decide)];exact h.t.l b i j L g
theorem cM.rowOwn{a:List Tx}(h:cM n f y k x a S):aw n x (md a):=by have:=h.m.sep.all (11,0);rw[h.t.r]at this;exact this
theorem cM.c16{a:List Tx}(h:cM n f y k x a S):n.cell? ⟨f,16,none⟩=some (.slice x.ao a.length x.cap):=by rw[aa h.m.blk,<-h.t.e];rfl
theorem cM.at_{j:List Tx}(h:cM n f y k x j S)(r:d<j.length):∃b a L g,j[d]?=some (b,a,L)/\(x.ao=some ⟨g,0,none⟩/\g<n.heap.size/\n.cell? ⟨g,d*2,none⟩=some (.slice (wD b) L.length L.length)/\n.cell? ⟨g,d*2+1,none⟩=some (.slice a.ao L.length a.cap))/\vF n b L/\aw n a (aB L)/\L.length<=900000000:=by
 obtain⟨⟨b,a,L⟩,e⟩:∃u,j[d]?=some u:=⟨j[d],QP r⟩
 obtain⟨g,v,z,c⟩:=(aw.srcG (f:=MN) h.rowOwn (fun _=>rfl)) d _ e;obtain⟨p,q,s⟩:=h.t.l d b a L e;have o:=h.m.sep.all (12,d);have i:=h.m.sep.all (13,d);rw[p]at o;rw[q]at i;exact⟨b,a,L,g,e,⟨v,z,c 0 _ rfl,c 1 _ rfl⟩,o,i,s⟩
theorem IK(o:List Tx)(j:World)(h:cM j b H w T o l)(hN:l<=1073741825) :
  Calls prog 10 #[.pointer (some ⟨b,0,none⟩)] j fun e D=>e=.returned (.bool true)/\ab [] j D:=by
 have HT:Hid (cM j b H w T o l):=h;have Z:Hid (bZ j b H w l):=h.m;have G:=ae h.m.blk;have X:j.cell? ⟨b,15,none⟩=some (.slice none 0 0):=by rw[aa h.m.blk,<-h.q];rfl
 have ag:=h.m.len.2.2;have ai:=h.t.n;clear h;go_enter func10,ntmps10;go_wp2
 go_loopg [3] 0 (fun g i wr=>g=0/\i=.int .i64 0/\j=wr)
 case atStart=>exact⟨rfl,rfl,rfl⟩
 case round =>
  obtain⟨O,rfl,rfl⟩:=hrel;go_wp2
  go_loopg [5] o.length (fun g i wr=>∃k:Nat,k<=o.length/\g=o.length-k/\i=.int .i64 k/\Hid (ab [] j wr))
  case atStart=>exact⟨0,by omega,rfl,rfl,ab.refl _ _⟩
  case round =>
   obtain⟨k,V,af,rfl,r⟩:=hrel;have y:Hid (cM wr b H w T o l):=HT.out.Vb r.out;have N:=y.out.c16;clear G;have G:=ae y.out.m.blk
   by_cases s:k<o.length
   ·obtain⟨U,K,L,g,-,⟨O,gz,g0,g1⟩,P,Q,hl⟩:=y.out.at_ s
    rw[O]at N;have v:Hid (∀n,Calls prog 25 #[.slice (wD U) L.length L.length,.slice K.ao L.length K.cap] (wr.drewN n) fun e D=>e=.returned (.bool true)/\∃m,D=(wr.drewN n).drewN m):=fun n=>qU (wD U) K.ao _ _ L (wr.drewN n) (ge.Vb P.srcX ((ab.refl [] _).drewN n)) (ge.Vb Q.srcX ((ab.refl [] _).drewN n)) (by omega)
    have I:(k:Int)<(o.length:Int):=by omega
    clear P Q O
    go_upto_region 10 with fail
    go_quiet ((go_at_call 25;exact UF (v.out _)))
    have u:Hid (ab [] j (wr.drewN nq)):=r.out.drewN nq;go_wp2
    go_roundg (o.length-(k+1))
    case measure=>omega
    case rel=>exact⟨k+1,by omega,rfl,by go_num,u⟩
   ·have J:¬(k:Int)<(o.length:Int):=by omega
    have M:=hI r.out;clear r;go_wp2
    go_loopg [7] w.L.length (fun g i wr=>∃k:Nat,k<=w.L.length/\g=w.L.length-k/\i=.int .i64 k/\Hid (ab [] j wr))
    case atStart=>exact⟨0,by omega,rfl,rfl,M⟩
    case round =>
     obtain⟨k,V,ac,rfl,r⟩:=hrel;have d:Hid (bZ wr b H w l):=Z.out.Vb r.out;have W:wr.cell? ⟨b,3,none⟩=some (.slice w.hl.ao w.L.length w.hl.cap):=by rw[aa d.out.blk];rfl
     have Y:wr.cell? ⟨b,4,none⟩=some (.slice w.hc.ao w.L.length w.hc.cap):=by rw[aa d.out.blk];rfl
     clear G;have G:=ae d.out.blk
     by_cases s:k<w.L.length
     ·obtain⟨⟨a,c,f⟩,p⟩:∃x,w.L[k]?=some x:=⟨w.L[k],QP s⟩
      obtain⟨z,C,-,ad⟩:=d.out.l k a c f p;obtain⟨gl,B,gz,S⟩:=n8 d.out.ownL (k:=k) (x:=(a,f)) (by rw[Rq,p];rfl);obtain⟨gr,F,rz,R⟩:=n8 d.out.ownC (k:=k) (x:=(c,f)) (by rw[Rq,p];rfl);replace S:wr.cell? ⟨gl,k,none⟩=some (.slice (wD a) f.length f.length):=S;replace R:wr.cell? ⟨gr,k,none⟩=some (.slice (wD c) f.length f.length):=R;rw[B]at W;rw[F]at Y;have E:iG wr a f:=by have:=d.out.sep.all (8,k);rw[z]at this;exact this
      have A:iG wr c f:=by have:=d.out.sep.all (9,k);rw[C]at this;exact this
      have v:Hid (∀n,Calls prog 26 #[.slice (wD a) f.length f.length,.slice (wD c) f.length f.length] (wr.drewN n) fun e D=>e=.returned (.bool true)/\∃m,D=(wr.drewN n).drewN m):=fun n=>nC (wD a) (wD c) _ _ f (wr.drewN n) (kR.kept E.src ((ab.refl [] _).drewN n) (by simp)) (kR.kept A.src ((ab.refl [] _).drewN n) (by simp)) (by omega)
      have I:(k:Int)<(w.L.length:Int):=by omega
      clear p z C B F E A
      go_upto_region 16 with fail
      go_quiet ((go_at_call 26;exact UF (v.out _)))
      have u:Hid (ab [] j (wr.drewN nq)):=r.out.drewN nq;go_wp2
      go_roundg (w.L.length-(k+1))
      case measure=>omega
      case rel=>exact⟨k+1,by omega,rfl,by go_num,u⟩
     ·have J:¬(k:Int)<(w.L.length:Int):=by omega
      go_wp2;go_ret;exact⟨rfl,r.out⟩
theorem O3:(prog.info? 63).map (fun i=>(i.zero,i.size,i.bytes))=some (some (.agg #[.slice none 0 0,.slice none 0 0]),2,48):=by kernel_rfl
theorem Qq(t:Tx):∀u∈MN t,u.oneCell'=true:=by
 intro u a;simp only[MN,List.mem_cons,List.not_mem_nil,or_false]at a
 rcases a with rfl | rfl <;> rfl
theorem bZ.retv{b:Nat×Nat->It}(h:bZ n f y k S)(s:nJ v b)(d:Value)(g:b (0,0)=rB f 42 ({ k with tv:=d }:Mc).cells)(a:∀j i,0<j->j<10->b (j,i)=y (j,i)):bZ v f b { k with tv:=d } S:={
 sep:=s
 w0:=g
 x:=by rw[a 1 0 (by decide) (by decide)];exact h.x
 m:=by rw[a 2 0 (by decide) (by decide)];exact h.m
 r:=by rw[a 3 0 (by decide) (by decide)];exact h.r
 ls:=by rw[a 4 0 (by decide) (by decide)];exact h.ls
 lw:=by rw[a 5 0 (by decide) (by decide)];exact h.lw
 v:=fun i x m c e=>by rw[a 6 i (by decide) (by decide),a 7 i (by decide) (by decide)];exact h.v i x m c e
 l:=fun i x m c e=>by rw[a 8 i (by decide) (by decide),a 9 i (by decide) (by decide)];exact h.l i x m c e
 fit:=h.fit
 len:=h.len
 rng:=h.rng }
theorem rP{i:Nat}{a:It}(c:10<=f)(b:d<10):fk y (f,S) a (d,i)=y (d,i):=aq _ _ (bn (by omega))
theorem cM.lay{a:List Tx}(h:cM n f y k x a S)(b:It)(D:d=12∨d=13)(o:ab [] n v)(w:b.P v)(z:∀q,q∈b.B->n.heap.size<=q):cM v f (fk y (d,a.length) b) k x a S:=by
 have c:10<=d:=by omega
 have s:=h.m.sep.put (d,a.length) b (o.mono (by simp)) w (fun q A=>QV (z q A));have m:bZ v f (fk y (d,a.length) b) k S:=h.m.retv s k.tv (by rw[rP c (by decide)];exact h.m.w0) (fun j i _ g=>rP c g);refine⟨m,h.q,⟨h.t.e,by rw[aq _ _ (bn (by omega))];exact h.t.r,fun j C p L g=>?_,h.t.n⟩⟩;have u:=(Q8.1 g).1;rw[aq _ _ (rC (by omega)),aq _ _ (rC (by omega))];exact h.t.l j C p L g
theorem cM.add{b:List Tx}{p:Hd}(h:cM n f y k x b S)(B:y (12,b.length)=Ix o a)(u:y (13,b.length)=ce p (aB a))(F:a.length<=900000000)(g:bt n v x I)(E:aw v I (md (b++[(o,p,a)]))) :
  ∃D H w A,cM (v.setCell ⟨f,16,none⟩ (.slice I.ao (b.length+1) I.cap)) f D H w A (S+1)/\D (10,0)=y (10,0):=by
 have s:=h.m.sep.grown h.m.w0 (bn (by decide)) h.t.r g E 16 (.slice I.ao (b.length+1) I.cap);have m:=(h.m.retv s (.slice I.ao (b.length+1) I.cap) (bJ _ _ _) (fun j i L K=>by rw[aq _ _ (bn (by omega)),rP (by decide) K])).more;have q:∀d i,11<d->fk (fk y (11,0) (ce I (md (b++[(o,p,a)])))) (0,0) (rB f 42 (k.cells.set 16 (.slice I.ao (b.length+1) I.cap))) (d,i)=y (d,i):=fun d i M=>by rw[aq _ _ (bn (by omega)),aq _ _ (bn (by omega))]
 refine⟨_,_,I,b++[(o,p,a)],⟨m,h.q,⟨by rw[Q0];rfl,by rw[aq _ _ (bn (by decide))];exact bJ _ _ _,fun j C z J c=>?_,?_⟩⟩,?_⟩
 ·rw[q 12 j (by decide),q 13 j (by decide)]
  by_cases e:j<b.length
  ·rw[Q7 e]at c
   exact h.t.l j C z J c
  ·have G:j=b.length:=by
    have:=(Q8.1 c).1;rw[Q0]at this;have:j<b.length+1:=this;omega
   subst G;rw[Q5 (QR _),RY]at c
   cases c
   exact⟨B,u,F⟩
 ·have:=h.t.n
  rw[Q0];show _+1<=_;omega
 ·rw[aq _ _ (bn (by decide)),aq _ _ (bn (by decide))]
theorem Iz(c:List Tx)(o:Option Nat)(p:Hd)(L:List ByteArray)(z:World)(h:cM z b H w T c l)(hN:l<=1073741824)(C:H (12,c.length)=Ix o L)(hO:aw z p (aB L))(hl:L.length<=900000000) :
  Calls prog 41 #[.pointer (some ⟨b,0,none⟩),.slice (wD o) L.length L.length,.slice p.ao L.length p.cap] z fun e w'=>qM b H l e w':=by
 have hX:vF z o L:=by have:=h.m.sep.all (12,c.length);rw[C]at this;exact this
 have Z:=hI (qU (wD o) p.ao L.length p.cap L z hX.srcX hO.srcX (by omega));have HM:Hid (cM z b H w T c l):=h;have ai:=hI C;have a7:=hI hX.nil;have HO:Hid (aw z p (aB L)):=hO;obtain⟨iS,ax,af,N,U⟩:=Re js;obtain⟨iT,a2,G,ac,ag⟩:=Re O3;have ba:=h.t.n
 have B:Hid (p.ao=none->L.length=0/\p.cap=0):=fun e=>by
  rcases hO.Vm with ⟨s,e2,e3⟩ | ⟨g,al,s,-⟩
  ·exact⟨e2,by rw[s]⟩
  ·rw[e]at s;cases s
 have M:Hid (∀u∈cN L,u.oneCell'=true):=fun u hu=>by
  obtain⟨x,-,rfl⟩:=Si.1 hu;rfl
 have X:Hid ((cN L).length=L.length*1):=by show _=_;rw[cN,Ri,UZ]
 have k:(L.length=0/\wD o=none)∨L.length≠0:=by
  by_cases e:L=[]
  ·exact Q1 ⟨by rw[e];rfl,by rw[hX.nil.2 e];rfl⟩
  ·exact QV (fun e2=>e (Ud.1 e2))
 have a5:∀w',aw w' ⟨none,0⟩ (aB []):=fun w'=>QZ _ _ _ _
 have ap:Hid ((md c).n<=4294967296):=by show c.length<=_;omega
 have F:Hid ((md c).n=c.length):=rfl;have a3:Hid ((⟨(aB []).e,(aB []).size,(aB []).n+L.length,(aB []).xs++cN L⟩:dN)=aB L):=by show dN.mk _ _ (0+L.length) ([]++cN L)=_;rw[SJ];rfl
 have aT:Hid ((aB []).n+L.length<=1000000000):=by show 0+L.length<=_;omega
 have a4:Hid ((aB []).n+L.length=L.length):=SJ _;clear h hX C
 have d:((((L.length:Int)==0)=true/\wD o=none))∨((L.length:Int)==0)=false:=by
  rcases k with ⟨h0,hn⟩ | h0
  ·exact Q1 ⟨by rw[h0];rfl,hn⟩
  ·exact QV (Rh.2 (by omega))
 clear k;obtain⟨ra,V⟩:∃ra,Hid (wD o=ra):=⟨_,rfl⟩
 rw[V.out]at Z d ⊢;have az:Hid (∀i:Hd,MN (o,i,L)=[.slice ra L.length L.length,.slice i.ao L.length i.cap]):=fun i=>by rw[<-V.out];rfl
 obtain⟨f,y⟩:=p
 rcases d with ⟨h0,rfl⟩ | h0
 all_goals
  go_enter func41,ntmps41
  go_upto_region 2 with (go_at_call 25;refine QU Z.out ?_;rintro e w1 ⟨rfl,n1,Y⟩;have S:Hid (ab [] z w1):=(by show ab _ _ _;rw[Y];exact(ab.refl [] _).drewN n1);clear Y)
  have R:Hid (aw w1 ⟨f,y⟩ (aB L)):=HO.out.Vb S.out
  have ar:Hid (∀ad,f=some ad->∀j u,(cN L)[j]?=some u->w1.cell? (ad.add j)=some u):=fun ad e j u hj=>by
   rcases R.out.Vm with ⟨s,-,-⟩ | ⟨g,al,s,e2,-⟩
   ·rw[show f=none from congrArg Hd.ao s]at e;cases e
   ·rw[show f=some ⟨g,0,none⟩ from s]at e
    cases e
    rw[bL];exact(R.out.cell s j u hj)
  go_upto_region 4 with fail
  go_upto_region 5 with (at_builtin;refine ed _ rfl (.const (.slice none 0 0)) (.tmp 30) 61 rfl iS (.string ⟨#[]⟩) 16 ⟨none,0⟩ (aB []) underlying61 ax af N U rfl Rc rfl (a5 _) f L.length y (cN L) rfl X.out B.out ar.out M.out aT.out (by omega) ?_;intro i w5 D E;rw[a3.out]at D;rw[a4.out])
  have aS:Hid (ab [] w1 w5):=E.kept.mono (by simp[Hd.blk])
  have a:=(show Hid _ from(HM.out.Vb S.out).lay (ce i (aB L)) (QV rfl) aS.out D (fun q A=>by
   have A:=aN A
   rcases E.blk with e | ⟨g,e,hg⟩
   ·rw[e]at A;cases A
   ·rw[e]at A;cases A;exact hg))
  have Q:Hid (fk H (13,c.length) (ce i (aB L)) (12,c.length)=Ix o L):=by show _=_;rw[aq _ _ (bn (by decide))];exact ai.out
  have W:=hI (bJ H (13,c.length) (ce i (aB L)));have O:Hid (fk H (13,c.length) (ce i (aB L)) (10,0)=H (10,0)):=by show _=_;rw[aq _ _ (bn (by decide))]
  clear D E;generalize fk H (13,c.length) (ce i (aB L))=I5 at *;have a6:=a.out.c16;have bz:=ae a.out.m.blk;have fb:=am a.out.m.blk;have a1:=a.out.rowOwn;have P:Hid (b∉T.blk.toList):=fun A=>a.out.m.sep.far (0,0) (11,0) (bn (by decide)) b (by rw[a.out.m.w0];exact Q9.2 rfl) (by rw[a.out.t.r];exact A)
  obtain⟨I,J⟩:=i;go_wp2_with (at_builtin;refine cZ w5 rfl (.tmp 36) (.tmp 40) 40 rfl iT (.agg #[.slice none 0 0,.slice none 0 0]) 48 T (md c) [.slice _ L.length L.length,.slice I L.length J] underlying40 a2 G ac ag rfl Uq (by rw[F.out];simp[Act.eval]) a1 ap.out (by omega) (by simp[Act.eval]) rfl (by intro u hu;simp only[List.mem_cons,List.not_mem_nil,or_false]at hu;rcases hu with rfl | rfl <;> rfl) ?_;intro h7 w7 v K;replace v:aw w7 h7 ⟨(md c).e,(md c).size,(md c).n+1,(md c).xs++MN (o,⟨I,J⟩,L)⟩:=(by rw[az.out];exact v);rw[md,gM]at v;have p7:=K.kept.get a.out.m.blk P.out;have f7:=am p7;have c7:w7.cell? ⟨b,16,none⟩=some (.slice T.ao c.length T.cap):=(by rw[aa p7,<-a.out.t.e];rfl);have z7:=ae p7;have HF:=hI (a.out.add Q.out W.out hl K v);rw[F.out]);go_ret;obtain⟨I',M',an,a0,q1,q2⟩:=HF.out;exact⟨rfl,I',M',an,a0,q1,q2.trans O.out⟩
theorem NC(h:f∈(Ix o a).B):o=some f:=by
 replace h:f∈o.toList:=h
 cases o with
 | none=>cases h
 | some g=>rw[UI,Q9]at h;rw[h]
theorem M7(a:Fs)(d:Option Nat)(b:ByteArray)(c:zw a):(vG a d b).1.length<=900000000:=by
 unfold vG
 cases d with
 | none=>show(0:Nat)<=_;omega
 | some k =>
  have e:=(wT a c k).ok.len;simp only
  cases gC (bK a k).2.2.Vn b with
  | none=>show(0:Nat)<=_;omega
  | some n =>
   have f:=t8 (bK a k).2.2.Vn n;have g:=wo (bK a k).2.2.Vn n;have h:=tW (bK a k).2.2.Vn (aK (bK a k).2.2.Vn n);have i:(gI (bK a k).2.2.Vn n).length<=100000000:=GC _ _ (by omega)
   show(cW (bK a k).2.2.Vn n).length<=_
   omega
theorem wj(y:List Tx)(i x m:Nat)(j:Fs)(M:Hd)(N O t u:Nat)(g:Option Nat)(a:ByteArray)(n:World)(h:cM n b H w T y l)(X:l<=1073741824)(V:pb n H w i x m j M N O t u g) :
  Calls prog 18 #[.pointer (some ⟨b,0,none⟩),.pointer (some ⟨x,0,none⟩),.pointer (some ⟨m,0,none⟩),.string a] n fun e E=>qM b H l e E:=by
 have v:=hI (Jk x j N O g a n V.p V.le V.ok);have r:Hid (∀f,ab [] n f->Calls prog 40 #[.pointer (some ⟨m,0,none⟩),.string a] f fun e E=>Qy (vG j g a).1 (vG j g a).2 f e E):=fun f k=>Ia m j M t u g a f (V.d.Vb k) V.st V.le V.ok
 have s:=hI (M7 j g a V.ok);have W:Hid (cM n b H w T y l):=h;generalize vG j g a=A at *;obtain⟨L,c⟩:=A;simp only at v r s;clear h V;go_enter func18,ntmps18
 go_upto_region 2 with (go_at_call 39;refine QU v.out ?_;rintro e w1 ⟨z,rfl,R,Q,D⟩)
 have K:=hI D;have I:=hI (W.out.lay (Ix z L) (Q1 rfl) D R (fun q hq=>Q q (NC hq)));clear R Q D
 go_upto_region 3 with (go_at_call 40;refine QU (r.out w1 K.out) ?_;rintro e f ⟨P,rfl,J⟩)
 have B:=hI (I.out.Vb J.kept);have o:Hid (fk H (12,y.length) (Ix z L) (10,0)=H (10,0)):=by show _=_;rw[aq _ _ (bn (by decide))]
 have C:=hI (Iz b l _ w T y z P L f B.out X (bJ _ _ _) J.own s.out);clear J;generalize wD z=ra at *;obtain⟨U,ac⟩:=P;go_wp2_with (go_at_call 41;refine QU C.out ?_;rintro e w3 ⟨rfl,S,M',F,G,Y,Z⟩);go_ret;exact⟨rfl,S,M',F,G,Y,Z.trans o.out⟩
theorem Nb(a c:ByteArray)(w:World)(Q:World->Prop)(f:Calls prog 18 #[.pointer (some ⟨N,0,none⟩),.pointer (some ⟨b,0,none⟩),.pointer (some ⟨l,0,none⟩),.string a] w fun e d=>e=.returned (.bool true)/\Q d) :
  Calls prog 23 #[.pointer (some ⟨N,0,none⟩),.pointer (some ⟨b,0,none⟩),.pointer (some ⟨l,0,none⟩),.string a,.string c,.int .i64 12] w fun e d=>e=.returned (.bool true)/\Q d:=by
 have h:=hI f;clear f;go_enter func23,ntmps23;go_wp2_with (go_at_call 18;refine QU h.out ?_;rintro e i ⟨rfl,g⟩);go_ret;exact⟨rfl,g⟩
theorem JP(k A C D:Int)(s t:ByteArray)(w:World)(Q:World->Prop)(c:∀W,ab [] w W->Calls prog 11 #[.pointer (some ⟨l,0,none⟩),.agg #[.int .i64 k,.int .i64 A,.int .i64 C,.int .i64 D,.string s,.string t]] W fun e a=>e=.returned (.bool true)/\Q a) :
  Calls prog 9 #[.pointer (some ⟨l,0,none⟩),.agg #[.int .i64 k,.int .i64 A,.int .i64 C,.int .i64 D,.string s,.string t]] w fun e a=>e=.returned (.bool true)/\Q a:=by
 obtain⟨W,b⟩:∃W,Hid (w.alloc (.cells #[.int .i64 k,.int .i64 A,.int .i64 C,.int .i64 D,.string s,.string t] 28)=W):=⟨_,rfl⟩
 have d:ab [] w W:=by rw[<-b.out];exact(ab.refl [] _).alloc _
 have f:W.heap[w.heap.size]?=some (.cells #[.int .i64 k,.int .i64 A,.int .i64 C,.int .i64 D,.string s,.string t] 28 (0,0)):=by rw[<-b.out];exact QS _ _
 obtain⟨i,q,n,r,o,m,j⟩:=cQ f;have h:=hI (c W d);clear f c d;go_enter func9,ntmps9
 go_upto_region 1 with fail
 rw[b.out];go_wp2_with (go_at_call 11;refine QU h.out ?_;rintro e p ⟨rfl,g⟩);go_ret;exact⟨rfl,g⟩
theorem vF.wrote(h:vF n (some f) a)(s:ByteArray):vF (n.setCell ⟨f,S,none⟩ (.string s)) (some f) (a.set S s):=by
 refine⟨⟨(fun e=>by cases e),fun e=>?_⟩,fun q e=>?_⟩
 ·have:a=[]:=Ud.1 (by rw[<-Rv (i:=S) (a:=s),e];rfl)
  exact absurd (h.nil.2 this) (by simp)
 ·cases e
  rw[ah (h.blk f rfl),Ru,xk]
theorem Mm(o:aw n x (aB a))(b:x.ao=some ⟨f,0,none⟩)(s:ByteArray):aw (n.setCell ⟨f,S,none⟩ (.string s)) x (aB (a.set S s)):=by
 have:=o.putAt b S (.string s)
 have e:(⟨(aB a).e,(aB a).size,(aB a).n,(aB a).xs.set S (.string s)⟩:dN)=aB (a.set S s):=by
  unfold aB;rw[xk,Rv]
 rw[e]at this;exact this
theorem cM.wrote{g:List ByteArray}{b:List Tx}(h:cM n f y k I b S)(s:b[d]?=some (o,x,a))(D:g.length=a.length)(F:nJ v (fk (fk y (12,d) (Ix o g)) (13,d) (ce x (aB g)))):∃B G u z,cM v f B G u z (S+1)/\B (10,0)=y (10,0):=by
 have p:=(Q8.1 s).1
 have J:md (b.set d (o,x,g))=md b:=by
  have e:(b.set d (o,x,g)).flatMap MN=b.flatMap MN:=by
   have E:(b.set d (o,x,g)).map MN=b.map MN:=by
    rw[Tn]
    apply Sq
    intro j;rw[RU]
    by_cases C:d=j
    ·subst C
     rw[QW rfl,Rq,s];simp only[List.length_map,p,if_true,Option.map_some,MN,D]
    ·rw[QT C]
   rw[Uo,Uo,E]
  unfold md kU;rw[e,Rv]
 have m:=(h.m.retv F k.tv (by rw[rP (by decide) (by decide),rP (by decide) (by decide)];exact h.m.w0) (fun j i _ c=>by rw[rP (by decide) c,rP (by decide) c])).more;refine⟨_,_,I,b.set d (o,x,g),⟨m,h.q,⟨by rw[Rv];exact h.t.e,by rw[aq _ _ (bn (by decide)),aq _ _ (bn (by decide)),J];exact h.t.r,fun j A w H c=>?_,by rw[Rv];exact UK h.t.n⟩⟩,by rw[aq _ _ (bn (by decide)),aq _ _ (bn (by decide))]⟩;rw[RU]at c;rw[aq _ _ (bn (by decide))]
 by_cases e:d=j
 ·subst e
  rw[QW rfl,QW p]at c
  cases c
  obtain⟨-,-,K⟩:=h.t.l d o x a s;rw[bJ,bJ];exact⟨rfl,rfl,by omega⟩
 ·rw[QT e]at c
  rw[aq _ _ (rC (Ne.symm e)),aq _ _ (rC (Ne.symm e)),aq _ _ (bn (by decide))];exact h.t.l j A w H c
theorem NK(f:List Tx)(A C D:Int)(s t:ByteArray)(R:World)(h:cM R b H w T f l)(hN:l<=1073741824)(hA:qB A)(hC:qB C) :
  Calls prog 11 #[.pointer (some ⟨b,0,none⟩),.agg #[.int .i64 18,.int .i64 A,.int .i64 C,.int .i64 D,.string s,.string t]] R fun e w'=>qM b H l e w':=by
 obtain⟨W,HW⟩:∃W,Hid (R.alloc (.cells #[.int .i64 18,.int .i64 A,.int .i64 C,.int .i64 D,.string s,.string t] 28)=W):=⟨_,rfl⟩
 obtain⟨-,hB,bf,a4⟩:=h.m.boxed 18 A C D s t W HW.out;have o:=h.Vb a4;obtain⟨o0,o1,Y,o3,o4,o5,O⟩:=cQ hB;have bz:=ae o.m.blk;have d:=o.c16
 by_cases hL:f.length=0
 ·have HF:Hid (cM W b H w T f l):=o
  rw[hL]at d;clear h o hB;go_enter func11,ntmps11
  go_upto_region 1 with fail
  rw[HW.out];go_wp2;go_ret;exact⟨rfl,_,_,_,_,HF.out.more,rfl⟩
 ·have bj:=h.t.n
  have X:Hid (∀N,Calls prog 12 #[.int .i64 A,.int .i64 f.length] N fun e w'=>e=.returned (.int .i64 (eG A f.length:Nat))/\w'=N):=fun N=>eQ A f.length N hA ⟨by omega,by omega⟩
  have ax:=fY A f.length (by omega);obtain⟨k,Hk⟩:∃k,Hid (eG A f.length=k):=⟨_,rfl⟩
  rw[Hk.out]at X ax;have HM:Hid (cM W b H w T f l):=o;obtain⟨bo,E,L,U,hk,⟨M,P,F,Q⟩,hX,hO,bk⟩:=o.at_ ax;obtain⟨c,j,-⟩:=o.t.l k bo E L hk;rw[M]at d;have bl:(k:Int)<(f.length:Int):=by omega
  have bg:(0:Int)<(f.length:Int):=by omega
  have a6:=hI hk;have V:=hI c;have a5:=hI j
  by_cases u:L.length=0
  ·rw[u]at F
   clear h o hB hk c j M hX hO;go_enter func11,ntmps11
   go_upto_region 1 with fail
   rw[HW.out]
   go_upto_region 48 with fail
   go_quiet ((go_at_call 12;exact Rd (X.out _)))
   have HF:Hid (cM (W.drewN nq) b H w T f l):=HM.out.Vb ((ab.refl [] _).drewN nq);go_wp2;go_ret;exact⟨rfl,_,_,_,_,HF.out.more,rfl⟩
  ·have an:Hid (∀N,Calls prog 12 #[.int .i64 C,.int .i64 L.length] N fun e w'=>e=.returned (.int .i64 (eG C L.length:Nat))/\w'=N):=fun N=>eQ C L.length N hC ⟨by omega,by omega⟩
   have ac:=fY C L.length (by omega);obtain⟨i,Hi⟩:∃i,Hid (eG C L.length=i):=⟨_,rfl⟩
   rw[Hi.out]at an ac
   obtain⟨a,rfl⟩:∃a,bo=some a:=by
    cases bo with
    | none=>rw[hX.nil.1 rfl]at u;exact absurd rfl u
    | some a=>exact⟨a,rfl⟩
   obtain⟨p,I⟩:∃p,E.ao=some ⟨p,0,none⟩:=by
    rcases hO.Vm with ⟨-,e2,-⟩ | ⟨g,a2,e1,-⟩
    ·exact absurd e2 u
    ·exact⟨g,e1⟩
   have x:=hI I
   have S:a≠R.heap.size:=by
    intro e;have:=(Ix (some a) L).lt R (by have:=h.m.sep.all (12,k);rw[c]at this;exact this) a (Q9.2 rfl);omega
   have aS:p≠a:=by
    intro e;exact o.m.sep.far (13,k) (12,k) (bn (by decide)) p (by rw[j];show p∈E.blk.toList;unfold Hd.blk;rw[I];exact Q9.2 rfl) (by rw[c,e];exact Q9.2 rfl)
   have br:=hI hB;replace F:W.cell? ⟨U,k*2,none⟩=some (.slice (some ⟨a,0,none⟩) L.length L.length):=F;rw[I]at Q;have bp:(i:Int)<(L.length:Int):=by omega
   have bv:(0:Int)<(L.length:Int):=by omega
   have a0:=hI S
   have aT:Hid (U≠a):=by
    intro e;exact o.m.sep.far (11,0) (12,k) (bn (by decide)) U (by rw[o.t.r];show U∈T.blk.toList;unfold Hd.blk;rw[M];exact Q9.2 rfl) (by rw[c,e];exact Q9.2 rfl)
   have a7:Hid (b≠a):=by
    intro e;exact o.m.sep.far (0,0) (12,k) (bn (by decide)) b (by rw[o.m.w0];exact Q9.2 rfl) (by rw[c,e];exact Q9.2 rfl)
   have v:Hid (∀y,ab [a] W y->(y.cell? ⟨R.heap.size,2,none⟩=some (.int .i64 C)/\y.cell? ⟨R.heap.size,4,none⟩=some (.string s)/\R.heap.size<y.heap.size)/\(y.cell? ⟨b,16,none⟩=some (.slice (some ⟨U,0,none⟩) f.length T.cap)/\b<y.heap.size)/\y.cell? ⟨U,k*2,none⟩=some (.slice (some ⟨a,0,none⟩) L.length L.length)/\y.cell? ⟨U,k*2+1,none⟩=some (.slice (some ⟨p,0,none⟩) L.length E.cap)/\U<y.heap.size):=fun y kw=>by
    have q:∀g i,g<W.heap.size->g≠a->y.cell? ⟨g,i,none⟩=W.cell? ⟨g,i,none⟩:=fun g i hg hn=>Q6 (kw.block g hg (by simp;exact hn))
    have z:=kw.size;exact⟨⟨by rw[q _ _ O (Ne.symm a0.out)];exact Y,by rw[q _ _ O (Ne.symm a0.out)];exact o4,by omega⟩,⟨by rw[q _ _ bz a7.out];exact d,by omega⟩,by rw[q _ _ P aT.out];exact F,by rw[q _ _ P aT.out];exact Q,by omega⟩
   have bs:Hid (L.length<=E.cap):=by
    rcases hO.Vm with ⟨-,e2,-⟩ | ⟨g,a2,-,-,e3,-⟩
    ·exact absurd e2 u
    ·exact e3
   clear h o hB hk c j M hX hO S I aS;go_enter func11,ntmps11
   go_upto_region 1 with fail
   rw[HW.out]
   go_upto_region 48 with fail
   go_quiet ((go_at_call 12;exact Rd (X.out _)))
   go_upto_region 50 with fail
   obtain⟨W2,al⟩:∃W2,Hid (W.drewN nq=W2):=⟨_,rfl⟩
   rw[al.out];have ap:Hid (ab [] W W2):=by show ab _ _ _;rw[<-al.out];exact(ab.refl [] _).drewN nq
   clear o0 o1 Y o3 o4 o5 O d bz F Q P;obtain⟨⟨Y,o4,O⟩,⟨d,bz⟩,F,Q,P⟩:=v.out W2 (ap.out.mono (by simp))
   go_quiet ((go_at_call 12;exact Rd (an.out _)))
   go_upto_region 51 with fail
   obtain⟨K,ar⟩:∃K,Hid (W2.drewN nq=K):=⟨_,rfl⟩
   rw[ar.out];have ag:Hid (ab [] W K):=by show ab _ _ _;rw[<-ar.out];exact ap.out.drewN nq
   have ai:Hid (cM K b H w T f l):=HM.out.Vb ag.out;have J:Hid (vF K (some a) L):=by show vF _ _ _;have:=ai.out.m.sep.all (12,k);rw[V.out]at this;exact this
   clear Y o4 O d bz F Q P;obtain⟨⟨Y,o4,O⟩,⟨d,bz⟩,F,Q,P⟩:=v.out K (ag.out.mono (by simp));have d0:K.cell? ⟨a,i,none⟩=some (.string L[i]):=by rw[aa (J.out.blk a rfl)];simp[cN,ac]
   have df:=am (J.out.blk a rfl) i;have dz:=ae (J.out.blk a rfl);generalize L[i]=be at *
   go_region
   all_goals
    obtain⟨B,Z⟩:∃B,Hid ((K.setCell ⟨a,i,none⟩ (.string s)).drew=B):=⟨_,rfl⟩
    rw[Z.out];have az:Hid (ab [a] K B):=by show ab _ _ _;rw[<-Z.out];exact((ab.refl [a] _).setCell (Q1 (by simp)) _).drew
    have S4:Hid (nJ B (fk H (12,k) (Ix (some a) (L.set i s)))):=by
     show nJ _ _
     refine ai.out.m.sep.put _ _ (by rw[V.out];exact az.out) ?_ (fun q hq=>Q1 (by rw[V.out];exact hq));rw[<-Z.out];exact(Ix _ _).ok [] _ _ (J.out.wrote s) (ab.refl [] _).drew (by simp)
    have ad:Hid (fk H (12,k) (Ix (some a) (L.set i s)) (13,k)=ce E (aB L)):=by show _=_;rw[aq _ _ (bn (by decide))];exact a5.out
    have G:Hid (aw B E (aB L)):=by show aw _ _ _;have:=S4.out.all (13,k);rw[ad.out]at this;exact this
    clear d0 df dz Y o4 O d bz F Q P;obtain⟨⟨Y,o4,O⟩,⟨d,bz⟩,F,Q,P⟩:=v.out B ((ag.out.mono (by simp)).trans az.out);have d0:B.cell? ⟨p,i,none⟩=some (.string L[i]):=G.out.cell x.out i _ (by simp[aB,cN,ac]);have df:=Cz G.out x.out i;have dz:p<B.heap.size:=G.out.lt (by unfold Hd.blk;rw[x.out];rfl);generalize L[i]=bd at *
    go_upto_region 52 with fail
    go_region
    all_goals
     obtain⟨W5,af⟩:∃W5,Hid ((B.setCell ⟨p,i,none⟩ (.string s)).drew=W5):=⟨_,rfl⟩
     rw[af.out];have a3:Hid (ab [p] B W5):=by show ab _ _ _;rw[<-af.out];exact((ab.refl [p] _).setCell (Q1 (by simp)) _).drew
     have S5:Hid (nJ W5 (fk (fk H (12,k) (Ix (some a) (L.set i s))) (13,k) (ce E (aB (L.set i s))))):=by
      show nJ _ _
      have a1:E.blk.toList=[p]:=by unfold Hd.blk;rw[x.out];rfl
      refine S4.out.put _ _ (by rw[ad.out];show ab E.blk.toList _ _;rw[a1];exact a3.out) ?_ (fun q hq=>Q1 (by rw[ad.out];exact hq));rw[<-af.out];exact(ce _ _).ok [] _ _ (Mm G.out x.out s) (ab.refl [] _).drew (by simp)
     go_wp2;go_ret;exact⟨rfl,HM.out.wrote a6.out Rv S5.out⟩
theorem Pv(n:List Tx)(A C D:Int)(s t:ByteArray)(g:World)(h:cM g b H w T n l)(hV:w.V.length≠0)(hA:qB A)(hN:l<=1073741824) :
  Calls prog 9 #[.pointer (some ⟨b,0,none⟩),.agg #[.int .i64 12,.int .i64 A,.int .i64 C,.int .i64 D,.string s,.string t]] g fun e F=>qM b H l e F:=by
 obtain⟨W,Y⟩:∃W,Hid (g.alloc (.cells #[.int .i64 12,.int .i64 A,.int .i64 C,.int .i64 D,.string s,.string t] 28)=W):=⟨_,rfl⟩
 obtain⟨G,M,ac,j⟩:=h.m.boxed 12 A C D s t W Y.out;have HT:Hid (cM W b H w T n l):=h.Vb j;obtain⟨r,z,U,S,X,Q,u⟩:=cQ M;have HL:=hI (lq b l H w 12 A C D s t W G (by omega));have Z:Hid (gx W b g.heap.size H w l 12 A C D s t):=⟨G,M⟩;have af:=h.m.len.1;have k:Hid (∀v,Calls prog 12 #[.int .i64 A,.int .i64 w.V.length] v fun e F=>e=.returned (.int .i64 (eG A w.V.length:Nat))/\F=v):=fun v=>eQ A w.V.length v hA ⟨by omega,by omega⟩
 have p:=fY A w.V.length (by omega);obtain⟨i,Hi⟩:∃i,Hid (eG A w.V.length=i):=⟨_,rfl⟩
 rw[Hi.out]at k p;have ad:((w.V.length:Int)==0)=false:=Rh.2 (by omega);have ag:(i:Int)<(w.V.length:Int):=by omega
 clear h G M j;go_enter func9,ntmps9
 go_upto_region 1 with fail
 rw[Y.out]
 go_upto_region 2 with (go_at_call 11;refine QU HL.out ?_;rintro e y ⟨rfl,E⟩)
 have a:Hid (gx y b g.heap.size H w l 12 A C D s t):=Z.out.Vb E;have J:Hid (cM y b H w T n l):=HT.out.Vb E;clear r z U S X Q u E;obtain⟨r,z,-⟩:=cQ a.out.o;have u:=ae a.out.o;have K:y.cell? ⟨b,0,none⟩=some (.slice w.hx.ao w.V.length w.hx.cap):=by rw[aa a.out.m.blk];rfl
 have O:=ae a.out.m.blk
 go_upto_region 4 with fail
 go_quiet ((go_at_call 12;exact Rd (k.out _)))
 go_upto_region 5 with fail
 obtain⟨d,f⟩:∃d,Hid (y.drewN nq=d):=⟨_,rfl⟩
 rw[f.out];have c:Hid (gx d b g.heap.size H w l 12 A C D s t):=a.out.Vb (by rw[<-f.out];exact(ab.refl [] _).drewN nq);have N:Hid (cM d b H w T n l):=J.out.Vb (by rw[<-f.out];exact(ab.refl [] _).drewN nq);clear r z u K O;obtain⟨r,z,U,S,X,Q,u⟩:=cQ c.out.o;obtain⟨x,m,fs,hd,lo,hi,L,B,st,g1,g2,q,⟨R,z1,d1⟩,P,z2,d2⟩:=c.out.m.ver p;have K:d.cell? ⟨b,0,none⟩=some (.slice w.hx.ao w.V.length w.hx.cap):=by rw[aa c.out.m.blk];rfl
 have c1:d.cell? ⟨b,1,none⟩=some (.slice w.hm.ao w.V.length w.hm.cap):=by rw[aa c.out.m.blk];rfl
 rw[R]at K;rw[P]at c1;have O:=ae c.out.m.blk;have I:=hI (wj b l H w T n i x m fs hd lo hi L B st s d N.out hN q);clear q R P;go_wp2_with (go_at_call 18;refine QU I.out ?_;rintro e w3 ⟨rfl,q1⟩);go_ret;exact⟨rfl,q1⟩
theorem Pw(J:List Tx)(A C:Int)(s t:ByteArray)(v:World)(h:cM v b H w T J l)(hV:w.V.length≠0)(hA:qB A)(hC:qB C)(hN:l<=1073741824) :
  Calls prog 9 #[.pointer (some ⟨b,0,none⟩),.agg #[.int .i64 19,.int .i64 A,.int .i64 C,.int .i64 12,.string s,.string t]] v fun e r=>qM b H l e r:=by
 obtain⟨W,HW⟩:∃W,Hid (v.alloc (.cells #[.int .i64 19,.int .i64 A,.int .i64 C,.int .i64 12,.string s,.string t] 28)=W):=⟨_,rfl⟩
 obtain⟨hM,hB,ap,O⟩:=h.m.boxed 19 A C 12 s t W HW.out;have HT:Hid (cM W b H w T J l):=h.Vb O;obtain⟨B,D,X,o3,o4,U,z⟩:=cQ hB;have HL:=hI (lq b l H w 19 A C 12 s t W hM (by omega));have HS:Hid (gx W b v.heap.size H w l 19 A C 12 s t):=⟨hM,hB⟩;have aS:=h.m.len.1;have E:Hid (∀a,Calls prog 12 #[.int .i64 A,.int .i64 w.V.length] a fun e r=>e=.returned (.int .i64 (eG A w.V.length:Nat))/\r=a):=fun a=>eQ A w.V.length a hA ⟨by omega,by omega⟩
 have Q:=fY A w.V.length (by omega);obtain⟨i,Hi⟩:∃i,Hid (eG A w.V.length=i):=⟨_,rfl⟩
 rw[Hi.out]at E Q;have a2:((w.V.length:Int)==0)=false:=Rh.2 (by omega);have aT:(i:Int)<(w.V.length:Int):=by omega
 clear h hM hB O;go_enter func9,ntmps9
 go_upto_region 1 with fail
 rw[HW.out]
 go_upto_region 2 with (go_at_call 11;refine QU HL.out ?_;rintro e Z ⟨rfl,k1⟩)
 have p:Hid (gx Z b v.heap.size H w l 19 A C 12 s t):=HS.out.Vb k1;have af:Hid (cM Z b H w T J l):=HT.out.Vb k1;clear B D X o3 o4 U z k1;obtain⟨B,D,-⟩:=cQ p.out.o;have z:=ae p.out.o;have Y:Z.cell? ⟨b,0,none⟩=some (.slice w.hx.ao w.V.length w.hx.cap):=by rw[aa p.out.m.blk];rfl
 have bz:=ae p.out.m.blk
 go_upto_region 4 with fail
 go_quiet ((go_at_call 12;exact Rd (E.out _)))
 go_upto_region 5 with fail
 obtain⟨u,y⟩:∃u,Hid (Z.drewN nq=u):=⟨_,rfl⟩
 rw[y.out];have n:Hid (gx u b v.heap.size H w l 19 A C 12 s t):=p.out.Vb (by rw[<-y.out];exact(ab.refl [] _).drewN nq);have K:Hid (cM u b H w T J l):=af.out.Vb (by rw[<-y.out];exact(ab.refl [] _).drewN nq);clear B D z Y bz;obtain⟨B,D,X,o3,o4,U,z⟩:=cQ n.out.o;obtain⟨x,m,fs,hd,lo,hi,R,M,st,g1,g2,j,⟨e1,z1,d1⟩,N,z2,d2⟩:=n.out.m.ver Q;have Y:u.cell? ⟨b,0,none⟩=some (.slice w.hx.ao w.V.length w.hx.cap):=by rw[aa n.out.m.blk];rfl
 have c1:u.cell? ⟨b,1,none⟩=some (.slice w.hm.ao w.V.length w.hm.cap):=by rw[aa n.out.m.blk];rfl
 rw[e1]at Y;rw[N]at c1;have bz:=ae n.out.m.blk;have al:=hI (K0 m fs hd R M st u j.d j.st j.le j.ok);have ag:Hid (∀c a,ab [] u a->Calls prog 18 #[.pointer (some ⟨b,0,none⟩),.pointer (some ⟨x,0,none⟩),.pointer (some ⟨m,0,none⟩),.string c] a fun e r=>qM b H l e r):=fun c a k=>wj b l H w T J i x m fs hd lo hi R M st c a (K.out.Vb k) hN (j.Vb k)
 clear j e1 N
 go_upto_region 34 with (go_at_call 22;refine QU al.out ?_;rintro e w3 ⟨L,h3,rfl,I,l3⟩)
 have S:=hI I.kept;have ac:Hid (gx w3 b v.heap.size H w l 19 A C 12 s t):=n.out.Vb I.kept;have ai:Hid (cm w3 h3.ao 6 jJ L):=aw.srcG (f:=jJ) I.own (fun _=>rfl)
 have a1:Hid (L.length<=h3.cap):=by
  rcases I.own.Vm with ⟨-,N,-⟩ | ⟨g,ax,-,-,e3,-⟩
  ·have N:L.length=0:=N
   show L.length<=_;omega
  ·exact e3
 clear B D X o3 o4 U z Y c1 bz z1 d1 z2 d2 I;obtain⟨B,D,X,o3,o4,U,z⟩:=cQ ac.out.o;obtain⟨an,a0⟩:=h3
 by_cases hL:L.length=0
 ·rw[hL]
  go_wp2;go_ret;exact⟨rfl,_,_,_,_,(K.out.Vb S.out).more,rfl⟩
 ·have ar:((L.length:Int)==0)=false:=Rh.2 (by omega)
  have P:Hid (∀a,Calls prog 12 #[.int .i64 C,.int .i64 L.length] a fun e r=>e=.returned (.int .i64 (eG C L.length:Nat))/\r=a):=fun a=>eQ C L.length a hC ⟨by omega,by omega⟩
  have G:=fY C L.length (by omega);obtain⟨k,Hk⟩:∃k,Hid (eG C L.length=k):=⟨_,rfl⟩
  rw[Hk.out]at P G;have az:(k:Int)<(L.length:Int):=by omega
  obtain⟨g0,eg,a3,hc⟩:=ai.out k _ (QP G);replace eg:an=some ⟨g0,0,none⟩:=eg;subst eg;have r0:=hc 0 _ rfl;rw[Tg]at r0;clear hc;generalize L[k].label=c at *;have ad:Hid (∀a,ab [] w3 a->Calls prog 23 #[.pointer (some ⟨b,0,none⟩),.pointer (some ⟨x,0,none⟩),.pointer (some ⟨m,0,none⟩),.string c,.string s,.int .i64 12] a fun e r=>qM b H l e r):=fun a k=>Nb b x m c s a _ (ag.out c a (S.out.trans k))
  go_upto_region 37 with (go_at_call 12;refine QU (P.out _) ?_;rintro q w4 ⟨rfl,F⟩;rw[F];clear F)
  go_region_with (go_at_call 23;refine(ad.out _ (by exact(ab.refl [] _).drew)).mono ?_;rintro e w9 ⟨rfl,q9⟩)
  all_goals
   go_wp2;go_ret;exact⟨rfl,q9⟩
theorem JQ(y:List Tx)(o:pB)(f:World)(h:cM f b H w T y l)(n:l<=1073741824)(E:M3 o) :
  Calls prog 9 #[.pointer (some ⟨b,0,none⟩),.agg #[.int .i64 o.k,.int .i64 o.a,.int .i64 o.c,.int .i64 o.d,.string o.s,.string o.t]] f fun e u=>qM b H l e u:=by
 obtain⟨k,A,C,D,s,t⟩:=o;obtain⟨p,x,F,B,r,J⟩:=E;simp only at *;have j:=h.m;have i:∀{c:Calls prog 9 #[.pointer (some ⟨b,0,none⟩),.agg #[.int .i64 k,.int .i64 A,.int .i64 C,.int .i64 D,.string s,.string t]] f (fun e u=>iB b H w l true e u)},Calls prog 9 #[.pointer (some ⟨b,0,none⟩),.agg #[.int .i64 k,.int .i64 A,.int .i64 C,.int .i64 D,.string s,.string t]] f (fun e u=>qM b H l e u):=fun {c}=>c.mono (fun e u q=>h.up q)
 have z:k=1∨k=2∨k=3∨k=4∨k=5∨k=6∨k=7∨k=15∨k=16∨k=17∨k=18∨(k=8∨k=9∨k=10∨k=12∨(k=19/\D=12)):=by omega
 rcases z with rfl | rfl | rfl | rfl | rfl | rfl | rfl | rfl | rfl | rfl | rfl | I
 ·exact i (c:=iy b l H w _ A C D s t f j (fun W g=>Pa b l H w A C D s t W g n))
 ·exact i (c:=iy b l H w _ A C D s t f j (fun W g=>Pb b l H w A C D s t W g n B r))
 ·exact i (c:=iy b l H w _ A C D s t f j (fun W g=>Pc b l H w A C D s t W g))
 ·exact i (c:=iy b l H w _ A C D s t f j (fun W g=>Pd b l H w A C D s t W g n))
 ·exact i (c:=iy b l H w _ A C D s t f j (fun W g=>Pe b l H w A C D s t W g n))
 ·exact i (c:=iy b l H w _ A C D s t f j (fun W g=>Pf b l H w A C D s t W g n p x B r))
 ·exact i (c:=iy b l H w _ A C D s t f j (fun W g=>Pg b l H w A C D s t W g p x F))
 ·exact i (c:=iy b l H w _ A C D s t f j (fun W g=>NH b l H w A C D s t W g))
 ·exact i (c:=iy b l H w _ A C D s t f j (fun W g=>NI b l H w A C D s t W g))
 ·exact i (c:=iy b l H w _ A C D s t f j (fun W g=>NJ b l H w A C D s t W g h.q))
 ·exact JP b 18 A C D s t f _ (fun W G=>NK b l H w T y A C D s t W (h.Vb G) n p x)
 by_cases v:w.V.length=0
 ·exact i (c:=JT b l H w k A C D s t f j (by omega) v)
 ·rcases I with rfl | rfl | rfl | rfl | ⟨rfl,rfl⟩
  ·exact i (c:=Qj b l H w A C D s t f j v p x n)
  ·exact i (c:=Qk b l H w A C D s t f j v p n B r)
  ·exact i (c:=Pu b l H w A C D s t f j v p n)
  ·exact Pv b l H w T y A C D s t f h v p n
  ·exact Pw b l H w T y A C s t f h v p x n
def Qc(w0:World)(h:Hd)(L:List pB):It where
 B:=List.range w0.heap.size++h.blk.toList
 P w:=ab [] w0 w/\aw w h (ja L)
 lt w a q hq:=by
  rcases Rr.1 hq with e | e
  ·exact QX (Ra.1 e) a.1.size
  ·exact a.2.lt (aN e)
 ok S w w' a k hb:=by
  refine⟨⟨k.os.trans a.1.os,k.tape.trans a.1.tape,k.output.trans a.1.output,Q3 a.1.size k.size,fun q hq _=>?_⟩,a.2.Vg (fun q hq=>k.block q (a.2.lt hq) (hb q (Se _ (by rw[hq];simp))))⟩;rw[k.block q (QX hq a.1.size) (hb q (RN _ (Ra.2 hq)))];exact a.1.block q hq (by simp)
def QK:It where
 B:=[]
 P _:=True
 lt _ _ q hq:=by cases hq
 ok _ _ _ _ _ _:=trivial
def PE:Mc:=⟨⟨none,0⟩,⟨none,0⟩,⟨none,0⟩,⟨none,0⟩,⟨none,0⟩,[],[],[],0,0,0,0,⟨#[]⟩,0,0,⟨#[]⟩,0,0,.slice none 0 0,.slice none 0 0⟩
theorem LG{d:World}{L:List pB}(z:ab [] n v)(r:aw v x (ja L))(k:ab [] v d)(w:d.heap[v.heap.size]?=some (.cells PE.cells.toArray 42 (0,0))):∃I,cM d v.heap.size I PE ⟨none,0⟩ [] 0/\I (10,0)=Qc n x L:=by
 have u:nJ v (fk (fun _=>QK) (10,0) (Qc n x L)):=by
  refine⟨fun q=>?_,fun q C a b h l=>?_⟩
  ·by_cases e:q=(10,0)
   ·subst e;rw[bJ];exact⟨z,r⟩
   ·rw[aq _ _ e];exact trivial
  ·by_cases e:q=(10,0)
   ·subst e;rw[aq _ _ (Ne.symm a)]at l;cases l
   ·rw[aq _ _ e]at h;cases h
 have s:=u.put (0,0) (rB v.heap.size 42 PE.cells) (k.mono (by simp)) w (fun q a=>QV (by rw[Q9.1 a];exact QR _));have B:=s.put (1,0) (ce ⟨none,0⟩ (lB 46 [])) (ab.refl _ _) (QZ _ _ _ _) (fun q a=>by cases a);have A:=B.put (2,0) (ce ⟨none,0⟩ (lB 47 [])) (ab.refl _ _) (QZ _ _ _ _) (fun q a=>by cases a);have t:=A.put (3,0) (ce ⟨none,0⟩ (cr [])) (ab.refl _ _) (QZ _ _ _ _) (fun q a=>by cases a);have o:=t.put (4,0) (ce ⟨none,0⟩ (ig [])) (ab.refl _ _) (QZ _ _ _ _) (fun q a=>by cases a);have p:=o.put (5,0) (ce ⟨none,0⟩ (ig [])) (ab.refl _ _) (QZ _ _ _ _) (fun q a=>by cases a);have y:=p.put (11,0) (ce ⟨none,0⟩ (md [])) (ab.refl _ _) (QZ _ _ _ _) (fun q a=>by cases a);refine⟨_,⟨⟨y,?_,?_,?_,?_,?_,?_,(fun i g m f c=>by cases c),(fun i g m f c=>by cases c),(fun j=>⟨by show(0:Nat)<=_;omega,by show(0:Nat)<=_;omega⟩),⟨QR _,QR _,QR _⟩,⟨⟨by decide,by decide⟩,⟨by decide,by decide⟩,by decide,by decide⟩⟩,rfl,⟨rfl,bJ _ _ _,(fun i g m f c=>by cases c),QR _⟩⟩,?_⟩
 all_goals (simp only[fk];rfl)
theorem Hj:(Instr.build 42 #[]).run prog L=.ok (.agg PE.cells.toArray) L :=
 run_build L 42 _ _ (by kernel_rfl)
theorem MO(a:List pB)(w:World)(Q:ab [] L w)(K:aw w T (ja a))(hL:a.length<=1073741824)(t:∀i,i<a.length->M3 (lT a i)) :
  Calls prog 8 #[.slice T.ao a.length T.cap] w fun e Z=>e=.returned (.int .i64 (-1))/\ab [] L Z:=by
 obtain⟨d,b⟩:=T;obtain⟨W,y⟩:∃W,Hid (w.alloc (.cells PE.cells.toArray 42)=W):=⟨_,rfl⟩
 obtain⟨I0,s,u⟩:=LG Q K (show ab [] w W by rw[<-y.out];exact(ab.refl [] _).alloc _) (by rw[<-y.out];exact QS _ _);have B:Hid (∃I M h j,cM W w.heap.size I M h j 0/\I (10,0)=Qc L ⟨d,b⟩ a):=⟨_,_,_,_,s,u⟩;have H:=hI t;have bw:=Hj;have J:Hid (PE.cells.toArray=#[.slice none 0 0,.slice none 0 0,.slice none 0 0,.slice none 0 0,.slice none 0 0,.int .i64 0,.int .i64 0,.int .i64 0,.int .i64 0,.string ⟨#[]⟩,.int .i64 0,.int .i64 0,.string ⟨#[]⟩,.int .i64 0,.int .i64 0,.slice none 0 0,.slice none 0 0]):=rfl;rw[J.out]at y;simp only[J.out]at bw;clear s u t K Q;go_enter func8,ntmps8
 go_upto_region 2 with fail
 rw[y.out];go_wp2
 go_loopg [4] a.length (fun g i wr=>∃k:Nat,k<=a.length/\g=a.length-k/\i=.int .i64 k/\Hid (∃I M h j,cM wr w.heap.size I M h j k/\I (10,0)=Qc L ⟨d,b⟩ a))
 case atStart=>exact⟨0,by omega,rfl,rfl,B⟩
 case round =>
  obtain⟨k,hk,hg,rfl,A⟩:=hrel;obtain⟨I,M,h,j,x,hI⟩:=A.out;have HI:=hI hI;have q:=x.m.sep.all (10,0);rw[hI]at q
  by_cases r:k<a.length
  ·have S:(k:Int)<(a.length:Int):=by omega
   obtain⟨N,E,ac,l⟩:=(aw.srcG (f:=Kj) q.2 (fun _=>rfl)) k _ (lU a k r);have c0:=l 0 _ rfl;have c1:=l 1 _ rfl;have c2:=l 2 _ rfl;have c3:=l 3 _ rfl;have c4:=l 4 _ rfl;have c5:=l 5 _ rfl;have D:=hI (JQ w.heap.size k I M h j (lT a k) wr x (by omega) (H.out k r));generalize lT a k=o at *;rw[Tg]at c0;replace E:d=some ⟨N,0,none⟩:=E;subst E;clear x hI q l A
   go_upto_region 6 with (go_at_call 9;refine QU D.out ?_;rintro e P ⟨rfl,O,R,n,p,c,v⟩)
   have HL:=hI (IK w.heap.size (k+1) O R n p P c (by omega));have F:Hid (∃I M h j,cM P w.heap.size I M h j (k+1)/\I (10,0)=Qc L ⟨some ⟨N,0,none⟩,b⟩ a):=⟨O,R,n,p,c,v.trans HI.out⟩;clear c v;go_wp2_with (go_at_call 10;refine QU HL.out ?_;rintro e w2 ⟨rfl,V⟩)
   go_roundg (a.length-(k+1))
   case measure=>omega
   case rel =>
    obtain⟨I2,U,G,z,h2,C⟩:=F.out;exact⟨k+1,by omega,rfl,by go_num,I2,U,G,z,h2.Vb V,C⟩
  ·have X:¬(k:Int)<(a.length:Int):=by omega
   have Y:=hI q.1;clear x hI q A;go_wp2;go_ret;exact⟨rfl,Y.out⟩
theorem Ja{L:List pB}{o:pB}{p:pB->Prop}(h:∀i,i<L.length->p (lT L i))(b:p o):∀i,i<(L++[o]).length->p (lT (L++[o]) i):=by
 intro i a;rw[Q0]at a;replace a:i<L.length+1:=a;unfold lT;rw[QQ]
 by_cases e:i<L.length
 ·have:=h i e
  unfold lT at this;rw[QQ]at this;rw[Q7 e];exact this
 ·rw[Q5 (by omega),show i-L.length=0 by omega];exact b
def AU(K:List Int)(k:Int)(q:Nat):Bool:=((decide (1<=k)&&decide (k<=10))||(decide (15<=k)&&decide (k<=18)))||(K.take q).any (fun x=>k==x)
theorem wy(h:i<1∨(10<i/\i<15)∨18<i):AU M i 0=false:=by
 unfold AU;rw[Tq,List.any_nil,Sz];simp
 omega
theorem Cc(h:(1<=i/\i<=10)∨(15<=i/\i<=18))(q:Nat):AU M i q=true:=by
 unfold AU;have:((decide (1<=i)&&decide (i<=10))||(decide (15<=i)&&decide (i<=18)))=true:=by simp;omega
 rw[this];rfl
theorem Lr(K:List Int)(k:Int)(q:Nat)(h:q<K.length):AU K k (q+1)=(AU K k q||(k==K[q])):=by
 unfold AU;rw[Td,QP h,UW,<-TF];simp
theorem Nz(h:AU M i f=true):((1<=i/\i<=10)∨(15<=i/\i<=18))∨i∈M:=by
 unfold AU at h;rw[RB]at h
 rcases h with h | h
 ·left;simp at h;omega
 ·right
  obtain⟨x,a,b⟩:=RC.1 h;rw[TR b];exact Tb a
def xD(w:World)(ka:Option Addr)(K:List Int):Prop:=∀q (hq:q<K.length),∃kb,ka=some ⟨kb,0,none⟩/\kb<w.heap.size/\w.cell? ⟨kb,q,none⟩=some (.int .i64 K[q])
theorem xD.Vb(h:xD n g M)(k:ab [] n v):xD v g M:=fun q b=>by
 obtain⟨a,e,z,c⟩:=h q b;exact⟨a,e,QX z k.size,by rw[Q6 (k.block a z (by simp))];exact c⟩
theorem xD.of(h:n.heap[f]?=some (.cells (M.map (Value.int .i64)).toArray 3 (0,0))):xD n (some ⟨f,0,none⟩) M:=fun q a=>⟨f,rfl,ae h,by rw[aa h];simp[a]⟩
theorem Jh(f:List pB)(K:List Int)(T:Option Addr)(w:World)(hl:f.length<=140737488351232)(Z:mx w D f)(ho:∀o∈f,AZ o)(C:xD w T K)(a3:K.length<=100)(hK:∀o∈f,o.k∈K->o.k=12∨(o.k=19/\o.d=12)) :
  Calls prog 5 #[.slice D f.length l,.slice T K.length K.length] w fun e w'=>e=.returned (.bool true)/\ab [] w w':=by
 have al:=hI (Fh D l f w hl Z ho);have HI:Hid (mx w D f):=Z;have HO:=hI ho;have ap:Hid (xD w T K):=C;have ai:=hI hK;obtain⟨iX,W,I,H,N⟩:=Re Lv;clear Z ho C hK;go_enter func5,ntmps5
 go_upto_region 2 with (go_at_call 7;refine QU al.out ?_;rintro e w1 ⟨⟨r,rfl,hr⟩,k1⟩)
 have P:=hI k1;have HR:=hI hr;clear k1 hr
 cases r
 ·go_wp2
  go_ret;exact⟨rfl,P.out⟩
 ·obtain⟨a0,F⟩:=HR.out rfl
  have Y:=hI F;have az:Hid (gw w w1 ⟨none,0⟩ (ja [])):=⟨QZ _ _ _ _,(by intro k hk;cases hk),P.out⟩;clear F HR;go_wp2
  go_loopg [6,7] f.length (fun g lv iv wr=>∃(k:Nat) (y:Hd) (L:List pB),k<=f.length/\g=f.length-k/\lv=.slice y.ao L.length y.cap/\iv=.int .i64 k/\L.length<=k/\Hid (∀i,i<L.length->M3 (lT L i))/\Hid (gw w wr y (ja L)))
  case atStart=>exact⟨0,⟨none,0⟩,[],by omega,rfl,rfl,rfl,by simp,(fun i h=>by cases h),az⟩
  case round =>
   obtain⟨k,y,L,hk,hg,rfl,rfl,aT,v,B⟩:=hrel
   by_cases u:k<f.length
   ·have a2:(k:Int)<(f.length:Int):=by omega
    obtain⟨b,a5,rfl,hb,z⟩:=(mx.Vb HI.out B.out.kept) k _ (lU f k u);have m:=R4 (lU f k u);have J:=HO.out (lT f k) m;have Q:=ai.out (lT f k) m;have c0:=z 0 _ rfl;have c1:=z 1 _ rfl;have c2:=z 2 _ rfl;have c3:=z 3 _ rfl;have c4:=z 4 _ rfl;have c5:=z 5 _ rfl;rw[Tg]at c0;have S:=Y.out k u;have t:=hI J;have E:=hI S;have ag:=hI Q;have ac:Hid (xD wr T K):=xD.Vb ap.out B.out.kept;generalize lT f k=o at *;clear z J S Q m;have ar:=B.out.own;have an:Hid ((ja L).n<=4294967296):=by show L.length<=_;omega
    have G:Hid ((ja L).n=L.length):=rfl
    have M:Hid (AU K o.k K.length=true->M3 o):=fun q=>⟨t.out.a,t.out.c,t.out.d,E.out.1,E.out.2,by
     rcases Nz q with q | q
     ·omega
     ·have:=ag.out q;omega⟩
    have x:(o.k<1/\Hid (AU K o.k 0=false))∨((10<o.k/\o.k<15)/\Hid (AU K o.k 0=false))∨(18<o.k/\Hid (AU K o.k 0=false))∨((1<=o.k/\o.k<=10)/\Hid (AU K o.k 0=true))∨((15<=o.k/\o.k<=18)/\Hid (AU K o.k 0=true)):=by
     by_cases z1:o.k<1
     ·exact Q1 ⟨z1,wy (Q1 z1)⟩
     ·by_cases z2:o.k<=10
      ·exact QV (QV (QV (Q1 ⟨⟨by omega,z2⟩,Cc (Q1 ⟨by omega,z2⟩) 0⟩)))
      ·by_cases z3:o.k<15
       ·exact QV (Q1 ⟨⟨by omega,z3⟩,wy (QV (Q1 ⟨by omega,z3⟩))⟩)
       ·by_cases z4:o.k<=18
        ·exact QV (QV (QV (QV ⟨⟨by omega,z4⟩,Cc (QV ⟨by omega,z4⟩) 0⟩)))
        ·exact QV (QV (Q1 ⟨by omega,wy (QV (QV (by omega)))⟩))
    rcases x with ⟨V,p⟩ | ⟨⟨V,h2⟩,p⟩ | ⟨V,p⟩ | ⟨⟨V,h2⟩,p⟩ | ⟨⟨V,h2⟩,p⟩
    all_goals
     go_wp2
     go_loopg [9,10] K.length (fun g a j w2=>∃q:Nat,q<=K.length/\g=K.length-q/\a=.bool (AU K o.k q)/\j=.int .i64 q/\wr=w2)
     case atStart=>exact⟨0,by omega,rfl,congrArg Value.bool (by rw[p.out] <;> simp <;> omega),rfl,rfl⟩
     case round =>
      obtain⟨q,hq,a1,rfl,rfl,rfl⟩:=hrel
      by_cases O:q<K.length
      ·have aS:(q:Int)<(K.length:Int):=by omega
       obtain⟨kb,rfl,a6,cq⟩:=ac.out q O;have s:=hI (Lr K o.k q O);generalize K[q]=kq at *
       cases U:AU K o.k q
       ·rw[U,Sp]at s
        go_wp2
        go_roundg (K.length-(q+1))
        case measure=>omega
        case rel=>exact⟨q+1,by omega,rfl,congrArg Value.bool s.out.symm,by go_num,rfl⟩
       ·rw[U,Ts]at s
        go_wp2
        go_roundg (K.length-(q+1))
        case measure=>omega
        case rel=>exact⟨q+1,by omega,rfl,congrArg Value.bool s.out.symm,by go_num,rfl⟩
      ·have af:q=K.length:=by omega
       subst af;have a4:¬(K.length:Int)<(K.length:Int):=by omega
       cases U:AU K o.k K.length
       ·go_wp2
        go_roundg (f.length-(k+1))
        case measure=>omega
        case rel=>exact⟨k+1,y,L,by omega,rfl,rfl,by go_num,by omega,v,B⟩
       ·have ad:=hI (M.out U)
        go_wp2_with (at_builtin;refine cZ wr rfl (.tmp 57) (.tmp 62) 22 rfl iX (.agg #[.int .i64 0,.int .i64 0,.int .i64 0,.int .i64 0,.string ⟨#[]⟩,.string ⟨#[]⟩]) 64 y (ja L) (Kj o) underlying22 W I H N rfl (show 0<6 by omega) (by rw[G.out];simp[Act.eval]) ar an.out (by omega) (by simp[Act.eval]) rfl (Aq o) ?_;intro h5 w5 A R;rw[ja,gM]at A;have X:=hI (B.out.Vl R A);clear A R)
        go_roundg (f.length-(k+1))
        case measure=>omega
        case rel=>exact⟨k+1,h5,L++[o],by omega,rfl,by rw[G.out,Q0];rfl,by go_num,by rw[Q0];show _+1<=_;omega,Ja v.out ad.out,X⟩
   ·have a7:¬(k:Int)<(f.length:Int):=by omega
    have ax:=hI (MO w y L wr B.out.kept B.out.own (by omega) v.out);go_wp2_with (go_at_call 8;refine QU ax.out ?_;rintro e w5 ⟨rfl,k5⟩);go_ret;exact⟨rfl,k5⟩
theorem nk{P:Program}{g:Array Oper}{d:List Oper}{o:Oper}{a:Act}{Q:Exit->Act->World->Prop}(S:o.guard=none)(s x:Operand)(t:TypeId)(w:o.op=Op.call { callee:=Callee.builtin Builtin.append,args:=#[s,x],argTypes:=#[t,t] })(i:TypeInfo)(z:Value)(c:Nat)(h:Hd)(r:dN)(b:List Value)(N:P.underlying t=some (.slice r.e))(O:P.info? r.e=some i)(G:i.zero=some z)(F:i.size=r.size)(J:i.bytes=c)(A:z.cells.size=r.size)(H:0<r.size)(R:a.eval s=.slice h.ao r.n h.cap)(f:aw L h r)(U:r.n+1<=140737488355328)(M:(r.n+1)*c<=140737488355328)(E:a.eval x=.slice (some ⟨L.heap.size,0,none⟩) 1 1)(W:b.length=r.size)(q:∀u∈b,u.oneCell'=true)(I:∀m k,aw k m ⟨r.e,r.size,r.n+1,r.xs++b⟩->bt L k h m->wpList P g Q d (a.put o.dst (.slice m.ao (r.n+1) m.cap)) k) :
  wpList P g Q (o :: d) a (L.alloc (.cells b.toArray r.e)):=by
 have y:ab [] L (L.alloc (.cells b.toArray r.e)):=(ab.refl [] _).alloc _;have B:(L.alloc (.cells b.toArray r.e)).heap[L.heap.size]?=some (.cells b.toArray r.e (0,0)):=QS _ _;obtain⟨v,k,l,D,T⟩:=pE (P:=P) (L.alloc (.cells b.toArray r.e)) t o.type i z c h r N O G F J A H (f.Vb y) (some ⟨L.heap.size,0,none⟩) 1 1 b (by omega) (fun e=>by cases e) (fun V e j u C=>by cases e;rw[bL,aa B];simpa using C) q (by unfold maxLen;omega) M;refine wpList_plain S fun K p=>?_
 unfold Oper.wp;simp[execOp,w,resolve,invoke,builtin,R,E,l,Result.andThen];exact p _ _ (I v k D ((bt.Vb y).trans T))
def pj(d:Int)(o:pB):pB:=if o.k=19 then { o with d:=d } else o
theorem LP(d:Int)(f:List pB)(w:World)(hl:f.length*64<=140737488351232)(hi:mx w D f) :
  Calls prog 6 #[.slice D f.length l,.int .i64 d] w fun e w'=>∃j,e=.returned (.slice j.ao f.length j.cap)/\gw w w' j (ja (f.map (pj d))):=by
 have HI:Hid (mx w D f):=hi;obtain⟨iX,G,u,r,v⟩:=Re Lv;have Z:Hid (gw w w ⟨none,0⟩ (ja [])):=⟨QZ _ _ _ _,(by intro k hk;cases hk),ab.refl _ _⟩;clear hi;go_enter func6,ntmps6;go_wp2
 go_loopg [5,6] f.length (fun g lv iv wr=>∃(k:Nat) (j:Hd) (L:List pB),k<=f.length/\g=f.length-k/\lv=.slice j.ao L.length j.cap/\iv=.int .i64 k/\L.length=k/\Hid (L=(f.take k).map (pj d))/\Hid (gw w wr j (ja L)))
 case atStart=>exact⟨0,⟨none,0⟩,[],by omega,rfl,rfl,rfl,rfl,rfl,Z⟩
 case round =>
  obtain⟨k,j,L,hk,hg,rfl,rfl,x,W,O⟩:=hrel
  by_cases K:k<f.length
  ·have af:(k:Int)<(f.length:Int):=by omega
   obtain⟨b,al,rfl,hb,B⟩:=(mx.Vb HI.out O.out.kept) k _ (lU f k K)
   have q:Hid (L++[pj d (lT f k)]=(f.take (k+1)).map (pj d)):=by
    show _=_
    rw[Td,lU f k K,Ry,<-W.out];rfl
   have c0:=B 0 _ rfl;have c1:=B 1 _ rfl;have c2:=B 2 _ rfl;have c3:=B 3 _ rfl;have c4:=B 4 _ rfl;have c5:=B 5 _ rfl;rw[Tg]at c0;generalize lT f k=o at *;clear B;have C:(ja L).n=L.length:=rfl;have J:Hid ((ja L).n=L.length):=C;have H:Hid ((ja L).n+1<=140737488355328):=by show(ja L).n+1<=_;rw[C];omega
   have I:Hid (((ja L).n+1)*64<=140737488355328):=by show((ja L).n+1)*64<=_;rw[C];omega
   obtain⟨X,N⟩:∃X,Hid (wr.alloc (.cells #[.int .i64 o.k,.int .i64 o.a,.int .i64 o.c,.int .i64 o.d,.string o.s,.string o.t] 28)=X):=⟨_,rfl⟩
   have M:Hid (ab [] wr X):=by show ab _ _ _;rw[<-N.out];exact(ab.refl [] _).alloc _
   have p:Hid (X.heap[wr.heap.size]?=some (.cells #[.int .i64 o.k,.int .i64 o.a,.int .i64 o.c,.int .i64 o.d,.string o.s,.string o.t] 28 (0,0))):=by show _=_;rw[<-N.out];exact QS _ _
   cases y:(o.k==19)
   ·have A:Hid (pj d o=o):=by show _=_;unfold pj;rw[QT (fun e=>by rw[e]at y;cases y)]
    rw[A.out]at q;obtain⟨V,S,Q,U,R,b5,F⟩:=cQ p.out;have h:=hI (O.out.Vb M.out);have E:=h.out.own
    go_upto_region 6 with fail
    rw[N.out];go_wp2_with (at_builtin;refine nk X rfl (.tmp 23) (.tmp 25) 22 rfl iX (.agg #[.int .i64 0,.int .i64 0,.int .i64 0,.int .i64 0,.string ⟨#[]⟩,.string ⟨#[]⟩]) 64 j (ja L) (Kj o) underlying22 G u r v rfl (show 0<6 by omega) (by rw[J.out];simp[Act.eval]) E H.out I.out (by simp[Act.eval]) rfl (Aq o) ?_;intro T w5 i m;rw[ja,gM]at i;have z:=hI (h.out.Vl m i);clear i m)
    go_roundg (f.length-(k+1))
    case measure=>omega
    case rel=>exact⟨k+1,T,L++[o],by omega,rfl,by rw[Q0,x];rfl,by go_num,by rw[Q0];show _+1=_;omega,q,z⟩
   ·have A:Hid (pj d o={ o with d:=d }):=by show _=_;unfold pj;rw[QW (TR y)]
    rw[A.out]at q;obtain⟨Y,P⟩:∃Y,Hid (X.setCell ⟨wr.heap.size,3,none⟩ (.int .i64 d)=Y):=⟨_,rfl⟩
    have ad:Hid (ab [] wr Y):=by show ab _ _ _;rw[<-P.out];exact M.out.setCell (QV (QR _)) _
    have ac:Hid (Y.heap[wr.heap.size]?=some (.cells #[.int .i64 o.k,.int .i64 o.a,.int .i64 o.c,.int .i64 d,.string o.s,.string o.t] 28 (0,0))):=by show _=_;rw[<-P.out,ah p.out 3 _];rfl
    obtain⟨V,S,Q,U,R,b5,F⟩:=cQ p.out;have bf:=am p.out 3;have h:=hI (O.out.Vb ad.out);have E:=h.out.own
    go_upto_region 6 with fail
    rw[N.out]
    go_upto_region 8 with fail
    rw[P.out];clear V S Q U R b5 F bf;obtain⟨V,S,Q,U,R,b5,F⟩:=cQ ac.out;go_wp2_with (at_builtin;refine nk Y rfl (.tmp 23) (.tmp 25) 22 rfl iX (.agg #[.int .i64 0,.int .i64 0,.int .i64 0,.int .i64 0,.string ⟨#[]⟩,.string ⟨#[]⟩]) 64 j (ja L) (Kj { o with d:=d }) underlying22 G u r v rfl (show 0<6 by omega) (by rw[J.out];simp[Act.eval]) E H.out I.out (by simp[Act.eval]) rfl (Aq _) ?_;intro T w5 i m;rw[ja,gM]at i;have z:=hI (h.out.Vl m i);clear i m)
    go_roundg (f.length-(k+1))
    case measure=>omega
    case rel=>exact⟨k+1,T,L++[(⟨o.k,o.a,o.c,d,o.s,o.t⟩:pB)],by omega,rfl,by rw[Q0,x];rfl,by go_num,by rw[Q0];show _+1=_;omega,q,z⟩
  ·have e:k=f.length:=by omega
   subst e;have ag:¬(f.length:Int)<(f.length:Int):=by omega
   rw[RK]at W;have ai:Hid (L.length=f.length):=x;go_wp2;go_ret;exact⟨j,rfl,by rw[<-W.out];exact O.out⟩
theorem aw.opsIn{l:List pB}(o:aw n x (ja l)):mx n x.ao l:=fun i b h=>by
 obtain⟨g,e,d,c⟩:=(aw.srcG (f:=Kj) o (fun _=>rfl)) i b h;exact⟨g,0,e,d,fun j u a=>by rw[SJ];exact c j u a⟩
theorem LO(b:qB i){o:pB}(h:AZ o):AZ (pj i o):=by
 unfold pj
 split
 ·exact⟨h.k,h.a,h.c,b,h.s,h.t⟩
 ·exact h
theorem Eh(b:List pB)(w:World)(s:b.length*64<=140737488351232)(p:mx w D b)(n:∀o∈b,AZ o) :
  Calls prog 4 #[.slice D b.length l] w fun e f=>e=.returned (.bool true)/\ab [] w f:=by
 have g:=hI (LP D l 12 b w s p);have t:=hI n;clear p n;go_enter func4,ntmps4
 go_upto_region 2 with (go_at_call 6;refine QU g.out ?_;rintro e d ⟨c,rfl,j⟩)
 have m:=hI j.kept
 have i:Hid (Calls prog 5 #[.slice c.ao b.length c.cap,.slice (some ⟨d.heap.size,0,none⟩) 2 2] (d.alloc (.cells #[.int .i64 12,.int .i64 19] 3)) fun e f=>e=.returned (.bool true)/\ab [] (d.alloc (.cells #[.int .i64 12,.int .i64 19] 3)) f):=by
  have:=Jh c.ao c.cap (b.map (pj 12)) [12,19] (some ⟨d.heap.size,0,none⟩) (d.alloc (.cells #[.int .i64 12,.int .i64 19] 3)) (by rw[Ri];omega) (j.own.opsIn.Vb ((ab.refl [] _).alloc _)) (fun o h=>by
   obtain⟨q,r,rfl⟩:=Si.1 h;exact LO ⟨by decide,by decide⟩ (t.out q r)) (xD.of (QS _ _)) (by decide) (fun o h a=>by
   obtain⟨q,r,rfl⟩:=Si.1 h;simp only[List.mem_cons,List.not_mem_nil,or_false]at a
   rcases a with a | a
   ·exact Q1 a
   ·refine QV ⟨a,?_⟩
    unfold pj at a ⊢
    by_cases e:q.k=19
    ·rw[QW e]
    ·rw[QT e]at a;exact absurd a e)
  rw[Ri]at this;exact this
 clear j;obtain⟨x,u⟩:=c;go_wp2_with (go_at_call 5;refine QU i.out ?_;rintro e y ⟨rfl,v⟩);go_ret;exact⟨rfl,(m.out.alloc _).trans v⟩
section
open Go.ChangeShapes Go.WideShapes Go.ChangeAt Go.RowKit
theorem own:ownKnob prog.godebug=none:=by kernel_rfl
theorem NG:laidOutB prog=true:=by kernel_rfl
theorem OP:prog.bytesOf 28=64:=by kernel_rfl
theorem KR:prog.cellsOf 28=6:=by kernel_rfl
theorem zK:prog.cellsOf 3=1:=by kernel_rfl
theorem F7:prog.cellsOf 9=1:=by kernel_rfl
theorem uO:prog.underlying 28=some (.struct (prog.fieldsOf 28)):=by kernel_rfl
theorem Nn:(prog.fieldsOf 28).toList.map (fun f=>(f.type,f.offset))=[(3,0),(3,1),(3,2),(3,3),(9,4),(9,5)]:=by kernel_rfl
theorem tT(h:[(3,0),(3,1),(3,2),(3,3),(9,4),(9,5)][N]?=some (b,l)):∃f,(prog.fieldsOf 28)[N]?=some f/\f.type=b/\f.offset=l:=by
 rw[<-Nn,List.getElem?_map,Array.getElem?_toList]at h
 cases e:(prog.fieldsOf 28)[N]? with
 | none=>rw[e]at h;cases h
 | some f=>rw[e]at h;simp at h;exact⟨f,rfl,h.1,h.2⟩
theorem Qh:(prog.fieldsOf 28).size=6:=by kernel_rfl
theorem FF{H:Type}(P:Program)(e:TypeId){L:List (DataW H)}{d:DataW H}(b:d∈L)(g:f∈DataW.weights P e d):f∈DataW.weightsAll P e L:=by
 induction L with
 | nil=>cases b
 | cons a r c =>
  rw[DataW.weightsAll,List.mem_append]
  rcases List.mem_cons.1 b with rfl | h
  ·exact Or.inl g
  ·exact Or.inr (c h)
theorem FY:(⟨N,b,none⟩:Addr).add l=⟨N,b+l,none⟩:=by
 simp only[Addr.add]
 split
 ·next h=>subst h;rfl
 ·rfl
theorem NR{H:Type}{l:TypeId×Value->H}{q:List Value}{x:DataW H×List MemPlace}(h:DataW.trod l prog n 0 (fun _=>true) true f 28 q=some x) :
  ∃o:pB,q=Kj o/\(qB o.k/\qB o.a/\qB o.c/\qB o.d)/\o.s.data.toList.length∈DataW.weights prog 28 x.1/\o.t.data.toList.length∈DataW.weights prog 28 x.1:=by
 obtain⟨xs,m,-,rfl,g,e,b⟩:=DataW.trod_struct uO h;rw[KR]at g;rw[Qh]at e
 match q,g,xs,e with
 | [v0,v1,v2,v3,v4,v5],_,[y0,y1,y2,y3,y4,y5],_ =>
  obtain⟨R,Y,t0,q0⟩:=tT 0 _ _ rfl;obtain⟨f1,W,X,S⟩:=tT 1 _ _ rfl;obtain⟨f2,O,t2,q2⟩:=tT 2 _ _ rfl;obtain⟨f3,e3,P,Q⟩:=tT 3 _ _ rfl;obtain⟨f4,e4,K,V⟩:=tT 4 _ _ rfl;obtain⟨f5,M,t5,q5⟩:=tT 5 _ _ rfl;have C:=b 0 R Y;have D:=b 1 f1 W;have B:=b 2 f2 O;have F:=b 3 f3 e3;have I:=b 4 f4 e4;have w:=b 5 f5 M;rw[t0,q0,zK]at C;rw[X,S,zK]at D;rw[t2,q2,zK]at B;rw[P,Q,zK]at F;rw[K,V,F7]at I;rw[t5,q5,F7]at w;obtain⟨T,G,r,w0⟩:=DataW.trod_int underlying3 C;obtain⟨n1,A,i,w1⟩:=DataW.trod_int underlying3 D;obtain⟨n2,E,u,U⟩:=DataW.trod_int underlying3 B;obtain⟨N,y,v,w3⟩:=DataW.trod_int underlying3 F;obtain⟨Z,z,p,-⟩:=DataW.trod_string underlying9 I;obtain⟨L,J,j,-⟩:=DataW.trod_string underlying9 w;simp at G A E y z J r i u v p j;refine⟨⟨T,n1,n2,N,Z,L⟩,?_,⟨bounds_i64 w0,bounds_i64 w1,bounds_i64 U,bounds_i64 w3⟩,?_,?_⟩
  ·rw[G,A,E,y,z,J];rfl
  ·rw[r,i,u,v,p,j]
   simp[DataW.weights,DataW.weightsEach]
  ·rw[r,i,u,v,p,j]
   simp[DataW.weights,DataW.weightsEach]
theorem Pn{H:Type}{I:TypeId×Value->H}{T:DataW H}{V:List MemPlace}{P:List TypeId}{O:List (DataW H)}(h0:DataW.Trod I prog n 0 (fun _=>true) true 22 (.slice g f S) T V)(y:(DataW.weightsEach prog P O).all (·<=reachBytes)=true)(Q:P[0]?=some 22)(R:O[0]?=some T) :
  ∃l:List pB,l.length=f/\f*64<=140737488351232/\(∀o∈l,AZ o)/\mx n g l:=by
 obtain⟨U,hf⟩:=h0
 rcases Go.Deep.open_slice underlying22 hf with ⟨d,_⟩ | ⟨a,af,ad,m,al,D,Pl,d,-,ac,ai,hm,N,v⟩
 ·simp[Value.cells]at d
  obtain⟨rfl,rfl,rfl⟩:=d;exact⟨[],rfl,by omega,(fun o w=>by cases w),fun i o c=>by cases c⟩
 ·simp[Value.cells]at d
  obtain⟨rfl,rfl,rfl⟩:=d;simp only[if_true]at hm;have ag:f<=m:=by omega
  simp only[Prod.mk.injEq]at N;obtain⟨rfl,-⟩:=N;have x:=sized_slice y (j:=0) Q R underlying22;rw[OP]at x;simp only[List.length_map,List.length_range,reachBytes]at x
  have k:∀i,i<f->∃o:pB,AZ o/\∀(j:Nat) u,(Kj o)[j]?=some u->n.cell? ((a.add (i*6)).add j)=some u:=fun i c=>by
   obtain⟨cs,G,h2⟩:=v i (by omega);rw[KR]at G;obtain⟨-,hl,E⟩:=World.cells?_some G;obtain⟨o,w,⟨Z,Y,r2,X⟩,g4,W⟩:=NR h2
   have B:∀q,q∈DataW.weights prog 28 (D i)->q<=140737488351232:=fun q hq=>by
    have J:q∈DataW.weights prog 22 (.slice ((List.range f).map D) ((List.range (m-f)).map fun j=>D (f+j)):DataW H):=by
     simp only[DataW.weights,underlying22];exact List.mem_cons_of_mem _ (List.mem_append_left _ (FF prog _ (List.mem_map.2 ⟨i,List.mem_range.2 c,rfl⟩) hq))
    have:=List.all_eq_true.1 y _ (DataW.weights_mem_each (j:=0) Q R _ J);have s:q<=reachBytes:=by simpa using this
    simpa only [reachBytes] using s
   refine⟨o,⟨Z,Y,r2,X,B _ g4,B _ W⟩,fun j u C=>?_⟩;have L:j<6:=(List.getElem?_eq_some_iff.1 C).1;rw[E j L,w];exact C
  have t:Nonempty pB:=⟨⟨0,0,0,0,⟨#[]⟩,⟨#[]⟩⟩⟩
  have K:∃F:Nat->pB,∀i,i<f->AZ (F i)/\∀(j:Nat) u,(Kj (F i))[j]?=some u->n.cell? ((a.add (i*6)).add j)=some u:=by
   classical
   refine⟨fun i=>if c:i<f then Classical.choose (k i c) else Classical.choice t,fun i c=>?_⟩;simp only[dif_pos c];exact Classical.choose_spec (k i c)
  obtain⟨F,r⟩:=K;refine⟨(List.range f).map F,by simp,by omega,fun o w=>?_,fun i o c=>?_⟩
  ·obtain⟨i,G,rfl⟩:=List.mem_map.1 w
   exact(r i (List.mem_range.1 G)).1
  ·rw[List.getElem?_map]at c
   have A:i<f:=by
    rcases Nat.lt_or_ge i f with h | h
    ·exact h
    ·rw[List.getElem?_eq_none (by simp;exact h)]at c;cases c
   rw[List.getElem?_range A]at c
   cases c
   have E:=(r i A).2;obtain⟨b,M,z⟩:=a;have e:=E 0 _ rfl;have p:z=none:=by simpa [Addr.add] using World.cell?_spot ((r 0 (by omega)).2 0 _ rfl)
   subst p;refine⟨b,M,rfl,?_,fun j u C=>?_⟩
   ·rw[FY,FY]at e
    unfold World.cell? at e
    split at e
    ·next hh=>exact ae hh
    ·cases e
   ·have:=E j u C
    rw[FY,FY]at this;exact this
end
end Go.Proofs.YtpddjjabfbfifaaGreat
