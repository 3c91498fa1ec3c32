import Derived.Test.YtpddjjabfbfifaaGreatRows
import Derived.Deep.Slices
import Derived.ProofKit
import Derived.OpenShut
import Derived.ShutString
import Derived.ChangeOld
import Derived.Below
import Derived.SizedLaws
import Derived.Test.YtpddjjabfbfifaaGreatG23
namespace Go.Proofs.YtpddjjabfbfifaaGreat
open Go.RowKit Go.Proofs.Tryz
set_option maxRecDepth 100000
set_option maxHeartbeats 40000000
variable{n v:World}{g:Option Addr}{o:Option Nat}{a:List ByteArray}{f S d:Nat}{y:Nat×Nat->It}{k:Mc}{x I:Hd}{M:List Int}{i:Int}(N:Nat)(D:Option Addr)(b l:Nat)(L:World)(H:Nat×Nat->It)(w:Mc)(T:Hd)
structure pB where
 k:Int
 a:Int
 c:Int
 d:Int
 s:ByteArray
 t:ByteArray
def Kj(o:pB):List Value:=[.int .i64 o.k,.int .i64 o.a,.int .i64 o.c,.int .i64 o.d,.string o.s,.string o.t]
def ja(L:List pB):dN:=kU 28 6 Kj L
theorem Lv:(prog.info? 28).map (fun i=>(i.zero,i.size,i.bytes))=some (some (.agg #[.int .i64 0,.int .i64 0,.int .i64 0,.int .i64 0,.string ⟨#[]⟩,.string ⟨#[]⟩]),6,64):=by kernel_rfl
theorem Aq(o:pB):∀u∈Kj o,u.oneCell'=true:=by
 intro u a;simp only[Kj,List.mem_cons,List.not_mem_nil,or_false]at a
 rcases a with rfl | rfl | rfl | rfl | rfl | rfl <;> rfl
structure M3(o:pB):Prop where
 a:qB o.a
 c:qB o.c
 d:qB o.d
 s:o.s.size<=1073741824
 t:o.t.size<=1073741824
 k:(1<=o.k/\o.k<=10)∨(15<=o.k/\o.k<=18)∨o.k=12∨(o.k=19/\o.d=12)
def mx(w:World)(ao:Option Addr)(l:List pB):Prop:=∀(i:Nat) (o:pB),l[i]?=some o->∃b off,ao=some ⟨b,off,none⟩/\b<w.heap.size/\∀(j:Nat) u,(Kj o)[j]?=some u->w.cell? ⟨b,off+i*6+j,none⟩=some u
theorem mx.Vb{l:List pB}(h:mx n g l)(k:ab [] n v):mx v g l:=by
 intro i o d;obtain⟨b,a,e,c,f⟩:=h i o d;exact⟨b,a,e,QX c k.size,fun j u m=>by rw[Q6 (k.block b c (by simp))];exact f j u m⟩
structure AZ(o:pB):Prop where
 k:qB o.k
 a:qB o.a
 c:qB o.c
 d:qB o.d
 s:o.s.size<=140737488351232
 t:o.t.size<=140737488351232
def lT(l:List pB)(k:Nat):pB:=l.getD k ⟨0,0,0,0,⟨#[]⟩,⟨#[]⟩⟩
theorem lU(l:List pB)(k:Nat)(h:k<l.length):l[k]?=some (lT l k):=by
 unfold lT;rw[QQ,QP h];rfl
def OI(l:List pB)(w:World)(e:Ending)(w':World):Prop:=(∃r,e=.returned (.bool r)/\(r=true->l.length<=1073741824/\∀i,i<l.length->(lT l i).s.size<=1073741824/\(lT l i).t.size<=1073741824))/\ab [] w w'
theorem Fh(a:List pB)(w:World)(O:a.length<=140737488351232)(n:mx w D a)(r:∀o∈a,AZ o) :
  Calls prog 7 #[.slice D a.length l] w fun e A=>OI a w e A:=by
 have L:Hid (mx w D a):=n;have u:=hI r;clear n r
 by_cases S:1073741824<a.length
 ·have p:(1073741824:Int)<(a.length:Int):=by omega
  go_enter func7,ntmps7;go_wp2;go_ret;exact⟨⟨false,rfl,by simp⟩,ab.refl _ _⟩
 ·have p:¬(1073741824:Int)<(a.length:Int):=by omega
  go_enter func7,ntmps7;go_wp2
  go_loopg [3,4] a.length (fun g m i wr=>∃(k:Nat) (z:Int),k<=a.length/\g=a.length-k/\i=.int .i64 k/\m=.int .i64 z/\Hid (∀i,i<k->(lT a i).s.size<=1073741824/\(lT a i).t.size<=1073741824)/\0<=z/\z<=1073741824/\Hid (ab [] w wr))
  case atStart=>exact⟨0,a.length,by omega,by omega,rfl,rfl,fun i h=>by omega,by omega,by omega,ab.refl _ _⟩
  case round =>
   obtain⟨k,z,Q,R,rfl,rfl,x,N,y,j⟩:=hrel
   by_cases f:k<a.length
   ·have K:(k:Int)<(a.length:Int):=by omega
    obtain⟨b,G,rfl,P,q⟩:=(mx.Vb L.out j.out) k _ (lU a k f);have F:=q 4 _ rfl;have M:=q 5 _ rfl;have E:=(u.out (lT a k) (R4 (lU a k f))).s;have I:=(u.out (lT a k) (R4 (lU a k f))).t;obtain⟨o,v⟩:∃o,Hid (lT a k=o):=⟨_,rfl⟩
    rw[v.out]at F M E I;clear q;have B:(o.s.size:Int)<=140737488351232:=by omega
    have J:(o.t.size:Int)<=140737488351232:=by omega
    by_cases C:(1073741824:Int)<z+o.s.size+o.t.size
    ·go_upto_region 7 with fail
     go_quiet (fail)
     have c:Hid (ab [] w (wr.drewN nq)):=j.out.drewN nq;go_wp2;go_ret;exact⟨⟨false,rfl,by simp⟩,c.out⟩
    ·have d:Hid (∀i,i<k+1->(lT a i).s.size<=1073741824/\(lT a i).t.size<=1073741824):=fun i n=>by
      by_cases e:i=k
      ·rw[e,v.out];omega
      ·exact x.out i (by omega)
     go_upto_region 7 with fail
     go_quiet (fail)
     have c:Hid (ab [] w (wr.drewN nq)):=j.out.drewN nq;go_wp2
     go_roundg (a.length-(k+1))
     case measure=>omega
     case rel=>exact⟨k+1,z+o.s.size+o.t.size,by omega,rfl,by go_num,rfl,d,by omega,by omega,c⟩
   ·have H:¬(k:Int)<(a.length:Int):=by omega
    have d:Hid (∀i,i<a.length->(lT a i).s.size<=1073741824/\(lT a i).t.size<=1073741824):=fun i n=>x.out i (by omega)
    go_wp2;go_ret;exact⟨⟨true,rfl,fun _=>⟨by omega,d.out⟩⟩,j.out⟩
theorem qU(c:Option Addr)(r p:Nat)(L:List ByteArray)(w:World)(j:ge w D L)(f:ge w c L)(t:L.length<=4294967296) :
  Calls prog 25 #[.slice D L.length r,.slice c L.length p] w fun e m=>e=.returned (.bool true)/\∃n,m=w.drewN n:=by
 have o:Hid (ge w D L):=j;have l:Hid (ge w c L):=f;clear j f;go_enter func25,ntmps25;go_wp2
 go_loopg [5] L.length (fun g i wr=>∃k:Nat,k<=L.length/\g=L.length-k/\i=.int .i64 k/\Hid (∃n,wr=w.drewN n))
 case atStart=>exact⟨0,by omega,by omega,rfl,0,rfl⟩
 case round =>
  obtain⟨k,B,C,rfl,b⟩:=hrel;have h:Hid (ab [] w wr):=by show ab _ _ _;obtain⟨n,e⟩:=b.out;rw[e];exact(ab.refl [] w).drewN n
  by_cases a:k<L.length
  ·have s:(k:Int)<(L.length:Int):=by omega
   obtain⟨A,rfl,y,v⟩:=(ge.Vb o.out h.out) k _ (QP a);obtain⟨E,rfl,z,u⟩:=(ge.Vb l.out h.out) k _ (QP a);generalize L[k]=x at *;have F:(x.toList==x.toList)=true:=UQ _
   go_upto_region 6 with fail
   go_quiet (fail)
   have d:Hid (∃n,wr.drewN nq=w.drewN n):=by show ∃_,_;obtain⟨n,e⟩:=b.out;exact⟨n+nq,by rw[e,Uf]⟩
   go_wp2
   go_roundg (L.length-(k+1))
   case measure=>omega
   case rel=>exact⟨k+1,by omega,rfl,by go_num,d⟩
  ·have q:¬(k:Int)<(L.length:Int):=by omega
   go_wp2;go_ret;exact⟨rfl,b.out⟩
def Ix(bo:Option Nat)(L:List ByteArray):It where
 B:=bo.toList
 P w:=vF w bo L
 lt w a q hq:=by
  cases bo with
  | none=>cases hq
  | some b=>rw[UI,Q9]at hq;rw[hq];exact ae (a.blk b rfl)
 ok S w w' a k hb:=⟨a.nil,fun b e=>k.get (a.blk b e) (hb b (by rw[e];simp))⟩
theorem vF.srcX(h:vF n o a):ge n (wD o) a:=by
 intro k x c
 cases o with
 | none=>rw[h.nil.1 rfl]at c;cases c
 | some b =>
  have d:=h.blk b rfl;exact⟨b,rfl,ae d,by rw[aa d];simp[cN,c]⟩
abbrev Tx:=Option Nat×Hd×List ByteArray
def MN(t:Tx):List Value:=[.slice (wD t.1) t.2.2.length t.2.2.length,.slice t.2.1.ao t.2.2.length t.2.1.cap]
def md(TS:List Tx):dN:=kU 63 2 MN TS
structure QF(I:Nat×Nat->It)(tv:Value)(ht:Hd)(TS:List Tx)(N:Nat):Prop where
 e:tv=.slice ht.ao TS.length ht.cap
 r:I (11,0)=ce ht (md TS)
 l:∀k bo h L,TS[k]?=some (bo,h,L)->I (12,k)=Ix bo L/\I (13,k)=ce h (aB L)/\L.length<=900000000
 n:TS.length<=N
structure cM(w:World)(b:Nat)(I:Nat×Nat->It)(M:Mc)(ht:Hd)(TS:List Tx)(N:Nat):Prop where
 m:bZ w b I M N
 q:M.qv=.slice none 0 0
 t:QF I M.tv ht TS N
theorem cM.Vb{a:List Tx}(h:cM n f y k x a S)(b:ab [] n v):cM v f y k x a S:=⟨h.m.Vb b,h.q,h.t⟩
theorem cM.more{a:List Tx}(h:cM n f y k x a S):cM n f y k x a (S+1):=⟨h.m.more,h.q,{ h.t with n:=UK h.t.n }⟩
def qM(b:Nat)(I:Nat×Nat->It)(N:Nat)(e:Ending)(w':World):Prop:=e=.returned (.bool true)/\∃I' M' ht' TS',cM w' b I' M' ht' TS' (N+1)/\I' (10,0)=I (10,0)
theorem cM.up{c:List Tx}{e:Ending}(h:cM n f y k x c S)(s:iB f y k S true e v):qM f y S e v:=by
 obtain⟨j,p,m,g,a⟩:=s;refine⟨j,p,m,x,c,⟨g,a.q.trans h.q,⟨a.t.trans h.t.e,(a.k 11 0 (by decide)).trans h.t.r,fun b i d L o=>?_,UK h.t.n⟩⟩,a.k 10 0 (QR _)⟩;rw[a.k 12 b (by decide),a.k 13 b (by decide)];exact h.t.l b i d L o
theorem cM.rowOwn{a:List Tx}(h:cM n f y k x a S):aw n x (md a):=by have:=h.m.sep.all (11,0);rw[h.t.r]at this;exact this
theorem cM.c16{a:List Tx}(h:cM n f y k x a S):n.cell? ⟨f,16,none⟩=some (.slice x.ao a.length x.cap):=by rw[aa h.m.blk,<-h.t.e];rfl
theorem cM.at_{o:List Tx}(h:cM n f y k x o S)(u:d<o.length):∃b a L g,o[d]?=some (b,a,L)/\(x.ao=some ⟨g,0,none⟩/\g<n.heap.size/\n.cell? ⟨g,d*2,none⟩=some (.slice (wD b) L.length L.length)/\n.cell? ⟨g,d*2+1,none⟩=some (.slice a.ao L.length a.cap))/\vF n b L/\aw n a (aB L)/\L.length<=900000000:=by
 obtain⟨⟨b,a,L⟩,e⟩:∃v,o[d]?=some v:=⟨o[d],QP u⟩
 obtain⟨g,s,z,c⟩:=(aw.srcG (f:=MN) h.rowOwn (fun _=>rfl)) d _ e;obtain⟨q,p,r⟩:=h.t.l d b a L e;have j:=h.m.sep.all (12,d);have i:=h.m.sep.all (13,d);rw[q]at j;rw[p]at i;exact⟨b,a,L,g,e,⟨s,z,c 0 _ rfl,c 1 _ rfl⟩,j,i,r⟩
theorem IK(o:List Tx)(j:World)(h:cM j b H w T o l)(hN:l<=1073741825) :
  Calls prog 10 #[.pointer (some ⟨b,0,none⟩)] j fun e A=>e=.returned (.bool true)/\ab [] j A:=by
 have Z:Hid (cM j b H w T o l):=h;have HM:Hid (bZ j b H w l):=h.m;have G:=ae h.m.blk;have W:j.cell? ⟨b,15,none⟩=some (.slice none 0 0):=by rw[aa h.m.blk,<-h.q];rfl
 have af:=h.m.len.2.2;have ac:=h.t.n;clear h;go_enter func10,ntmps10;go_wp2
 go_loopg [3] 0 (fun g i wr=>g=0/\i=.int .i64 0/\j=wr)
 case atStart=>exact⟨rfl,rfl,rfl⟩
 case round =>
  obtain⟨M,rfl,rfl⟩:=hrel;go_wp2
  go_loopg [5] o.length (fun g i wr=>∃k:Nat,k<=o.length/\g=o.length-k/\i=.int .i64 k/\Hid (ab [] j wr))
  case atStart=>exact⟨0,by omega,rfl,rfl,ab.refl _ _⟩
  case round =>
   obtain⟨k,hk,V,rfl,r⟩:=hrel;have u:Hid (cM wr b H w T o l):=Z.out.Vb r.out;have I:=u.out.c16;clear G;have G:=ae u.out.m.blk
   by_cases v:k<o.length
   ·obtain⟨S,J,L,g,-,⟨M,X,g0,g1⟩,Q,U,hl⟩:=u.out.at_ v
    rw[M]at I;have y:Hid (∀n,Calls prog 25 #[.slice (wD S) L.length L.length,.slice J.ao L.length J.cap] (wr.drewN n) fun e A=>e=.returned (.bool true)/\∃m,A=(wr.drewN n).drewN m):=fun n=>qU (wD S) J.ao _ _ L (wr.drewN n) (ge.Vb Q.srcX ((ab.refl [] _).drewN n)) (ge.Vb U.srcX ((ab.refl [] _).drewN n)) (by omega)
    have O:(k:Int)<(o.length:Int):=by omega
    clear Q U M
    go_upto_region 10 with fail
    go_quiet ((go_at_call 25;exact UF (y.out _)))
    have s:Hid (ab [] j (wr.drewN nq)):=r.out.drewN nq;go_wp2
    go_roundg (o.length-(k+1))
    case measure=>omega
    case rel=>exact⟨k+1,by omega,rfl,by go_num,s⟩
   ·have K:¬(k:Int)<(o.length:Int):=by omega
    have N:=hI r.out;clear r;go_wp2
    go_loopg [7] w.L.length (fun g i wr=>∃k:Nat,k<=w.L.length/\g=w.L.length-k/\i=.int .i64 k/\Hid (ab [] j wr))
    case atStart=>exact⟨0,by omega,rfl,rfl,N⟩
    case round =>
     obtain⟨k,hk,Y,rfl,r⟩:=hrel;have d:Hid (bZ wr b H w l):=HM.out.Vb r.out;have c3:wr.cell? ⟨b,3,none⟩=some (.slice w.hl.ao w.L.length w.hl.cap):=by rw[aa d.out.blk];rfl
     have c4:wr.cell? ⟨b,4,none⟩=some (.slice w.hc.ao w.L.length w.hc.cap):=by rw[aa d.out.blk];rfl
     clear G;have G:=ae d.out.blk
     by_cases v:k<w.L.length
     ·obtain⟨⟨a,c,f⟩,p⟩:∃x,w.L[k]?=some x:=⟨w.L[k],QP v⟩
      obtain⟨F,C,-,ad⟩:=d.out.l k a c f p;obtain⟨gl,z,X,R⟩:=n8 d.out.ownL (k:=k) (x:=(a,f)) (by rw[Rq,p];rfl);obtain⟨gr,D,rz,P⟩:=n8 d.out.ownC (k:=k) (x:=(c,f)) (by rw[Rq,p];rfl);replace R:wr.cell? ⟨gl,k,none⟩=some (.slice (wD a) f.length f.length):=R;replace P:wr.cell? ⟨gr,k,none⟩=some (.slice (wD c) f.length f.length):=P;rw[z]at c3;rw[D]at c4;have B:iG wr a f:=by have:=d.out.sep.all (8,k);rw[F]at this;exact this
      have E:iG wr c f:=by have:=d.out.sep.all (9,k);rw[C]at this;exact this
      have y:Hid (∀n,Calls prog 26 #[.slice (wD a) f.length f.length,.slice (wD c) f.length f.length] (wr.drewN n) fun e A=>e=.returned (.bool true)/\∃m,A=(wr.drewN n).drewN m):=fun n=>nC (wD a) (wD c) _ _ f (wr.drewN n) (kR.kept B.src ((ab.refl [] _).drewN n) (by simp)) (kR.kept E.src ((ab.refl [] _).drewN n) (by simp)) (by omega)
      have O:(k:Int)<(w.L.length:Int):=by omega
      clear p F C z D B E
      go_upto_region 16 with fail
      go_quiet ((go_at_call 26;exact UF (y.out _)))
      have s:Hid (ab [] j (wr.drewN nq)):=r.out.drewN nq;go_wp2
      go_roundg (w.L.length-(k+1))
      case measure=>omega
      case rel=>exact⟨k+1,by omega,rfl,by go_num,s⟩
     ·have K:¬(k:Int)<(w.L.length:Int):=by omega
      go_wp2;go_ret;exact⟨rfl,r.out⟩
theorem O3:(prog.info? 63).map (fun i=>(i.zero,i.size,i.bytes))=some (some (.agg #[.slice none 0 0,.slice none 0 0]),2,48):=by kernel_rfl
theorem Qq(t:Tx):∀u∈MN t,u.oneCell'=true:=by
 intro u a;simp only[MN,List.mem_cons,List.not_mem_nil,or_false]at a
 rcases a with rfl | rfl <;> rfl
theorem bZ.retv{b:Nat×Nat->It}(h:bZ n f y k S)(s:nJ v b)(e:Value)(g:b (0,0)=rB f 42 ({ k with tv:=e }:Mc).cells)(a:∀j i,0<j->j<10->b (j,i)=y (j,i)):bZ v f b { k with tv:=e } S:={
 sep:=s
 w0:=g
 x:=by rw[a 1 0 (by decide) (by decide)];exact h.x
 m:=by rw[a 2 0 (by decide) (by decide)];exact h.m
 r:=by rw[a 3 0 (by decide) (by decide)];exact h.r
 ls:=by rw[a 4 0 (by decide) (by decide)];exact h.ls
 lw:=by rw[a 5 0 (by decide) (by decide)];exact h.lw
 v:=fun i x m c d=>by rw[a 6 i (by decide) (by decide),a 7 i (by decide) (by decide)];exact h.v i x m c d
 l:=fun i x m c d=>by rw[a 8 i (by decide) (by decide),a 9 i (by decide) (by decide)];exact h.l i x m c d
 fit:=h.fit
 len:=h.len
 rng:=h.rng }
theorem rP{i:Nat}{a:It}(c:10<=f)(b:d<10):fk y (f,S) a (d,i)=y (d,i):=aq _ _ (bn (by omega))
theorem cM.lay{c:List Tx}(h:cM n f y k x c S)(a:It)(D:d=12∨d=13)(u:ab [] n v)(o:a.P v)(z:∀q,q∈a.B->n.heap.size<=q):cM v f (fk y (d,c.length) a) k x c S:=by
 have b:10<=d:=by omega
 have s:=h.m.sep.put (d,c.length) a (u.mono (by simp)) o (fun q w=>QV (z q w));have m:bZ v f (fk y (d,c.length) a) k S:=h.m.retv s k.tv (by rw[rP b (by decide)];exact h.m.w0) (fun j i _ g=>rP b g);refine⟨m,h.q,⟨h.t.e,by rw[aq _ _ (bn (by omega))];exact h.t.r,fun j C p L g=>?_,h.t.n⟩⟩;have A:=(Q8.1 g).1;rw[aq _ _ (rC (by omega)),aq _ _ (rC (by omega))];exact h.t.l j C p L g
theorem cM.add{b:List Tx}{p:Hd}(h:cM n f y k x b S)(C:y (12,b.length)=Ix o a)(w:y (13,b.length)=ce p (aB a))(E:a.length<=900000000)(g:bt n v x I)(J:aw v I (md (b++[(o,p,a)]))) :
  ∃D K z A,cM (v.setCell ⟨f,16,none⟩ (.slice I.ao (b.length+1) I.cap)) f D K z A (S+1)/\D (10,0)=y (10,0):=by
 have s:=h.m.sep.grown h.m.w0 (bn (by decide)) h.t.r g J 16 (.slice I.ao (b.length+1) I.cap);have m:=(h.m.retv s (.slice I.ao (b.length+1) I.cap) (bJ _ _ _) (fun j i L F=>by rw[aq _ _ (bn (by omega)),rP (by decide) F])).more;have q:∀d i,11<d->fk (fk y (11,0) (ce I (md (b++[(o,p,a)])))) (0,0) (rB f 42 (k.cells.set 16 (.slice I.ao (b.length+1) I.cap))) (d,i)=y (d,i):=fun d i M=>by rw[aq _ _ (bn (by omega)),aq _ _ (bn (by omega))]
 refine⟨_,_,I,b++[(o,p,a)],⟨m,h.q,⟨by rw[Q0];rfl,by rw[aq _ _ (bn (by decide))];exact bJ _ _ _,fun j B u H c=>?_,?_⟩⟩,?_⟩
 ·rw[q 12 j (by decide),q 13 j (by decide)]
  by_cases e:j<b.length
  ·rw[Q7 e]at c
   exact h.t.l j B u H c
  ·have G:j=b.length:=by
    have:=(Q8.1 c).1;rw[Q0]at this;have:j<b.length+1:=this;omega
   subst G;rw[Q5 (QR _),RY]at c
   cases c
   exact⟨C,w,E⟩
 ·have:=h.t.n
  rw[Q0];show _+1<=_;omega
 ·rw[aq _ _ (bn (by decide)),aq _ _ (bn (by decide))]
theorem Iz(c:List Tx)(o:Option Nat)(v:Hd)(L:List ByteArray)(z:World)(h:cM z b H w T c l)(hN:l<=1073741824)(E:H (12,c.length)=Ix o L)(hO:aw z v (aB L))(hl:L.length<=900000000) :
  Calls prog 41 #[.pointer (some ⟨b,0,none⟩),.slice (wD o) L.length L.length,.slice v.ao L.length v.cap] z fun e w'=>qM b H l e w':=by
 have hX:vF z o L:=by have:=h.m.sep.all (12,c.length);rw[E]at this;exact this
 have S:=hI (qU (wD o) v.ao L.length v.cap L z hX.srcX hO.srcX (by omega));have HM:Hid (cM z b H w T c l):=h;have a3:=hI E;have a6:=hI hX.nil;have HO:Hid (aw z v (aB L)):=hO;obtain⟨iS,a5,Q,O,M⟩:=Re js;obtain⟨iT,an,F,P,G⟩:=Re O3;have ba:=h.t.n
 have B:Hid (v.ao=none->L.length=0/\v.cap=0):=fun e=>by
  rcases hO.Vm with ⟨p,e2,e3⟩ | ⟨g,aT,p,-⟩
  ·exact⟨e2,by rw[p]⟩
  ·rw[e]at p;cases p
 have N:Hid (∀u∈cN L,u.oneCell'=true):=fun u hu=>by
  obtain⟨x,-,rfl⟩:=Si.1 hu;rfl
 have I:Hid ((cN L).length=L.length*1):=by show _=_;rw[cN,Ri,UZ]
 have k:(L.length=0/\wD o=none)∨L.length≠0:=by
  by_cases e:L=[]
  ·exact Q1 ⟨by rw[e];rfl,by rw[hX.nil.2 e];rfl⟩
  ·exact QV (fun e2=>e (Ud.1 e2))
 have a4:∀w',aw w' ⟨none,0⟩ (aB []):=fun w'=>QZ _ _ _ _
 have ai:Hid ((md c).n<=4294967296):=by show c.length<=_;omega
 have J:Hid ((md c).n=c.length):=rfl;have al:Hid ((⟨(aB []).e,(aB []).size,(aB []).n+L.length,(aB []).xs++cN L⟩:dN)=aB L):=by show dN.mk _ _ (0+L.length) ([]++cN L)=_;rw[SJ];rfl
 have aS:Hid ((aB []).n+L.length<=1000000000):=by show 0+L.length<=_;omega
 have az:Hid ((aB []).n+L.length=L.length):=SJ _;clear h hX E
 have d:((((L.length:Int)==0)=true/\wD o=none))∨((L.length:Int)==0)=false:=by
  rcases k with ⟨h0,hn⟩ | h0
  ·exact Q1 ⟨by rw[h0];rfl,hn⟩
  ·exact QV (Rh.2 (by omega))
 clear k;obtain⟨ra,ac⟩:∃ra,Hid (wD o=ra):=⟨_,rfl⟩
 rw[ac.out]at S d ⊢;have a0:Hid (∀i:Hd,MN (o,i,L)=[.slice ra L.length L.length,.slice i.ao L.length i.cap]):=fun i=>by rw[<-ac.out];rfl
 obtain⟨f,A⟩:=v
 rcases d with ⟨h0,rfl⟩ | h0
 all_goals
  go_enter func41,ntmps41
  go_upto_region 2 with (go_at_call 25;refine QU S.out ?_;rintro e w1 ⟨rfl,n1,X⟩;have Z:Hid (ab [] z w1):=(by show ab _ _ _;rw[X];exact(ab.refl [] _).drewN n1);clear X)
  have U:Hid (aw w1 ⟨f,A⟩ (aB L)):=HO.out.Vb Z.out
  have a2:Hid (∀ad,f=some ad->∀j u,(cN L)[j]?=some u->w1.cell? (ad.add j)=some u):=fun ad e j u hj=>by
   rcases U.out.Vm with ⟨p,-,-⟩ | ⟨g,aT,p,e2,-⟩
   ·rw[show f=none from congrArg Hd.ao p]at e;cases e
   ·rw[show f=some ⟨g,0,none⟩ from p]at e
    cases e
    rw[bL];exact(U.out.cell p j u hj)
  go_upto_region 4 with fail
  go_upto_region 5 with (at_builtin;refine ed _ rfl (.const (.slice none 0 0)) (.tmp 30) 61 rfl iS (.string ⟨#[]⟩) 16 ⟨none,0⟩ (aB []) underlying61 a5 Q O M rfl Rc rfl (a4 _) f L.length A (cN L) rfl I.out B.out a2.out N.out aS.out (by omega) ?_;intro i w5 C D;rw[al.out]at C;rw[az.out])
  have ar:Hid (ab [] w1 w5):=D.kept.mono (by simp[Hd.blk])
  have a:=(show Hid _ from(HM.out.Vb Z.out).lay (ce i (aB L)) (QV rfl) ar.out C (fun q y=>by
   have y:=aN y
   rcases D.blk with e | ⟨g,e,hg⟩
   ·rw[e]at y;cases y
   ·rw[e]at y;cases y;exact hg))
  have R:Hid (fk H (13,c.length) (ce i (aB L)) (12,c.length)=Ix o L):=by show _=_;rw[aq _ _ (bn (by decide))];exact a3.out
  have ag:=hI (bJ H (13,c.length) (ce i (aB L)));have V:Hid (fk H (13,c.length) (ce i (aB L)) (10,0)=H (10,0)):=by show _=_;rw[aq _ _ (bn (by decide))]
  clear C D;generalize fk H (13,c.length) (ce i (aB L))=I5 at *;have a7:=a.out.c16;have bz:=ae a.out.m.blk;have fb:=am a.out.m.blk;have a1:=a.out.rowOwn;have Y:Hid (b∉T.blk.toList):=fun y=>a.out.m.sep.far (0,0) (11,0) (bn (by decide)) b (by rw[a.out.m.w0];exact Q9.2 rfl) (by rw[a.out.t.r];exact y)
  obtain⟨af,K⟩:=i;go_wp2_with (at_builtin;refine cZ w5 rfl (.tmp 36) (.tmp 40) 40 rfl iT (.agg #[.slice none 0 0,.slice none 0 0]) 48 T (md c) [.slice _ L.length L.length,.slice af L.length K] underlying40 an F P G rfl Uq (by rw[J.out];simp[Act.eval]) a1 ai.out (by omega) (by simp[Act.eval]) rfl (by intro u hu;simp only[List.mem_cons,List.not_mem_nil,or_false]at hu;rcases hu with rfl | rfl <;> rfl) ?_;intro h7 w7 s W;replace s:aw w7 h7 ⟨(md c).e,(md c).size,(md c).n+1,(md c).xs++MN (o,⟨af,K⟩,L)⟩:=(by rw[a0.out];exact s);rw[md,gM]at s;have p7:=W.kept.get a.out.m.blk Y.out;have f7:=am p7;have c7:w7.cell? ⟨b,16,none⟩=some (.slice T.ao c.length T.cap):=(by rw[aa p7,<-a.out.t.e];rfl);have z7:=ae p7;have HF:=hI (a.out.add R.out ag.out hl W s);rw[J.out]);go_ret;obtain⟨I',M',ax,ap,q1,q2⟩:=HF.out;exact⟨rfl,I',M',ax,ap,q1,q2.trans V.out⟩
theorem NC(h:f∈(Ix o a).B):o=some f:=by
 replace h:f∈o.toList:=h
 cases o with
 | none=>cases h
 | some g=>rw[UI,Q9]at h;rw[h]
theorem M7(a:Fs)(d:Option Nat)(b:ByteArray)(c:zw a):(vG a d b).1.length<=900000000:=by
 unfold vG
 cases d with
 | none=>show(0:Nat)<=_;omega
 | some k =>
  have f:=(wT a c k).ok.len;simp only
  cases gC (bK a k).2.2.Vn b with
  | none=>show(0:Nat)<=_;omega
  | some n =>
   have e:=t8 (bK a k).2.2.Vn n;have g:=wo (bK a k).2.2.Vn n;have i:=tW (bK a k).2.2.Vn (aK (bK a k).2.2.Vn n);have h:(gI (bK a k).2.2.Vn n).length<=100000000:=GC _ _ (by omega)
   show(cW (bK a k).2.2.Vn n).length<=_
   omega
theorem wj(z:List Tx)(i x m:Nat)(j:Fs)(N:Hd)(P Q v o:Nat)(f:Option Nat)(a:ByteArray)(n:World)(h:cM n b H w T z l)(U:l<=1073741824)(V:pb n H w i x m j N P Q v o f) :
  Calls prog 18 #[.pointer (some ⟨b,0,none⟩),.pointer (some ⟨x,0,none⟩),.pointer (some ⟨m,0,none⟩),.string a] n fun e C=>qM b H l e C:=by
 have s:=hI (Jk x j P Q f a n V.p V.le V.ok);have r:Hid (∀g,ab [] n g->Calls prog 40 #[.pointer (some ⟨m,0,none⟩),.string a] g fun e C=>Qy (vG j f a).1 (vG j f a).2 g e C):=fun g k=>Ia m j N v o f a g (V.d.Vb k) V.st V.le V.ok
 have u:=hI (M7 j f a V.ok);have HM:Hid (cM n b H w T z l):=h;generalize vG j f a=A at *;obtain⟨L,c⟩:=A;simp only at s r u;clear h V;go_enter func18,ntmps18
 go_upto_region 2 with (go_at_call 39;refine QU s.out ?_;rintro e Y ⟨y,rfl,R,M,E⟩)
 have B:=hI E;have G:=hI (HM.out.lay (Ix y L) (Q1 rfl) E R (fun q W=>M q (NC W)));clear R M E
 go_upto_region 3 with (go_at_call 40;refine QU (r.out Y B.out) ?_;rintro e g ⟨O,rfl,K⟩)
 have F:=hI (G.out.Vb K.kept);have t:Hid (fk H (12,z.length) (Ix y L) (10,0)=H (10,0)):=by show _=_;rw[aq _ _ (bn (by decide))]
 have J:=hI (Iz b l _ w T z y O L g F.out U (bJ _ _ _) K.own u.out);clear K;generalize wD y=ra at *;obtain⟨ac,X⟩:=O;go_wp2_with (go_at_call 41;refine QU J.out ?_;rintro e w3 ⟨rfl,I',M',D,I,Z,S⟩);go_ret;exact⟨rfl,I',M',D,I,Z,S.trans t.out⟩
theorem Nb(a c:ByteArray)(w:World)(Q:World->Prop)(f:Calls prog 18 #[.pointer (some ⟨N,0,none⟩),.pointer (some ⟨b,0,none⟩),.pointer (some ⟨l,0,none⟩),.string a] w fun e d=>e=.returned (.bool true)/\Q d) :
  Calls prog 23 #[.pointer (some ⟨N,0,none⟩),.pointer (some ⟨b,0,none⟩),.pointer (some ⟨l,0,none⟩),.string a,.string c,.int .i64 12] w fun e d=>e=.returned (.bool true)/\Q d:=by
 have g:=hI f;clear f;go_enter func23,ntmps23;go_wp2_with (go_at_call 18;refine QU g.out ?_;rintro e i ⟨rfl,h⟩);go_ret;exact⟨rfl,h⟩
theorem JP(k A C D:Int)(s t:ByteArray)(w:World)(Q:World->Prop)(c:∀W,ab [] w W->Calls prog 11 #[.pointer (some ⟨l,0,none⟩),.agg #[.int .i64 k,.int .i64 A,.int .i64 C,.int .i64 D,.string s,.string t]] W fun e a=>e=.returned (.bool true)/\Q a) :
  Calls prog 9 #[.pointer (some ⟨l,0,none⟩),.agg #[.int .i64 k,.int .i64 A,.int .i64 C,.int .i64 D,.string s,.string t]] w fun e a=>e=.returned (.bool true)/\Q a:=by
 obtain⟨W,b⟩:∃W,Hid (w.alloc (.cells #[.int .i64 k,.int .i64 A,.int .i64 C,.int .i64 D,.string s,.string t] 28)=W):=⟨_,rfl⟩
 have f:ab [] w W:=by rw[<-b.out];exact(ab.refl [] _).alloc _
 have d:W.heap[w.heap.size]?=some (.cells #[.int .i64 k,.int .i64 A,.int .i64 C,.int .i64 D,.string s,.string t] 28 (0,0)):=by rw[<-b.out];exact QS _ _
 obtain⟨p,q,i,o,m,r,n⟩:=cQ d;have h:=hI (c W f);clear d c f;go_enter func9,ntmps9
 go_upto_region 1 with fail
 rw[b.out];go_wp2_with (go_at_call 11;refine QU h.out ?_;rintro e j ⟨rfl,g⟩);go_ret;exact⟨rfl,g⟩
theorem vF.wrote(h:vF n (some f) a)(s:ByteArray):vF (n.setCell ⟨f,S,none⟩ (.string s)) (some f) (a.set S s):=by
 refine⟨⟨(fun e=>by cases e),fun e=>?_⟩,fun q e=>?_⟩
 ·have:a=[]:=Ud.1 (by rw[<-Rv (i:=S) (a:=s),e];rfl)
  exact absurd (h.nil.2 this) (by simp)
 ·cases e
  rw[ah (h.blk f rfl),Ru,xk]
theorem Mm(o:aw n x (aB a))(b:x.ao=some ⟨f,0,none⟩)(s:ByteArray):aw (n.setCell ⟨f,S,none⟩ (.string s)) x (aB (a.set S s)):=by
 have:=o.putAt b S (.string s)
 have e:(⟨(aB a).e,(aB a).size,(aB a).n,(aB a).xs.set S (.string s)⟩:dN)=aB (a.set S s):=by
  unfold aB;rw[xk,Rv]
 rw[e]at this;exact this
theorem cM.wrote{g:List ByteArray}{b:List Tx}(h:cM n f y k I b S)(z:b[d]?=some (o,x,a))(D:g.length=a.length)(G:nJ v (fk (fk y (12,d) (Ix o g)) (13,d) (ce x (aB g)))):∃C H u w,cM v f C H u w (S+1)/\C (10,0)=y (10,0):=by
 have p:=(Q8.1 z).1
 have F:md (b.set d (o,x,g))=md b:=by
  have e:(b.set d (o,x,g)).flatMap MN=b.flatMap MN:=by
   have J:(b.set d (o,x,g)).map MN=b.map MN:=by
    rw[Tn]
    apply Sq
    intro j;rw[RU]
    by_cases B:d=j
    ·subst B
     rw[QW rfl,Rq,z];simp only[List.length_map,p,if_true,Option.map_some,MN,D]
    ·rw[QT B]
   rw[Uo,Uo,J]
  unfold md kU;rw[e,Rv]
 have m:=(h.m.retv G k.tv (by rw[rP (by decide) (by decide),rP (by decide) (by decide)];exact h.m.w0) (fun j i _ c=>by rw[rP (by decide) c,rP (by decide) c])).more;refine⟨_,_,I,b.set d (o,x,g),⟨m,h.q,⟨by rw[Rv];exact h.t.e,by rw[aq _ _ (bn (by decide)),aq _ _ (bn (by decide)),F];exact h.t.r,fun j A s E c=>?_,by rw[Rv];exact UK h.t.n⟩⟩,by rw[aq _ _ (bn (by decide)),aq _ _ (bn (by decide))]⟩;rw[RU]at c;rw[aq _ _ (bn (by decide))]
 by_cases e:d=j
 ·subst e
  rw[QW rfl,QW p]at c
  cases c
  obtain⟨-,-,K⟩:=h.t.l d o x a z;rw[bJ,bJ];exact⟨rfl,rfl,by omega⟩
 ·rw[QT e]at c
  rw[aq _ _ (rC (Ne.symm e)),aq _ _ (rC (Ne.symm e)),aq _ _ (bn (by decide))];exact h.t.l j A s E c
theorem NK(j:List Tx)(A C D:Int)(s t:ByteArray)(Q:World)(h:cM Q b H w T j l)(hN:l<=1073741824)(hA:qB A)(hC:qB C) :
  Calls prog 11 #[.pointer (some ⟨b,0,none⟩),.agg #[.int .i64 18,.int .i64 A,.int .i64 C,.int .i64 D,.string s,.string t]] Q fun e w'=>qM b H l e w':=by
 obtain⟨W,HW⟩:∃W,Hid (Q.alloc (.cells #[.int .i64 18,.int .i64 A,.int .i64 C,.int .i64 D,.string s,.string t] 28)=W):=⟨_,rfl⟩
 obtain⟨-,hB,bj,bd⟩:=h.m.boxed 18 A C D s t W HW.out;have f:=h.Vb bd;obtain⟨o0,o1,V,o3,X,o5,S⟩:=cQ hB;have bz:=ae f.m.blk;have d:=f.c16
 by_cases hL:j.length=0
 ·have HF:Hid (cM W b H w T j l):=f
  rw[hL]at d;clear h f hB;go_enter func11,ntmps11
  go_upto_region 1 with fail
  rw[HW.out];go_wp2;go_ret;exact⟨rfl,_,_,_,_,HF.out.more,rfl⟩
 ·have bw:=h.t.n
  have ai:Hid (∀K,Calls prog 12 #[.int .i64 A,.int .i64 j.length] K fun e w'=>e=.returned (.int .i64 (eG A j.length:Nat))/\w'=K):=fun K=>eQ A j.length K hA ⟨by omega,by omega⟩
  have a1:=fY A j.length (by omega);obtain⟨k,Hk⟩:∃k,Hid (eG A j.length=k):=⟨_,rfl⟩
  rw[Hk.out]at ai a1;have HM:Hid (cM W b H w T j l):=f;obtain⟨bo,E,L,P,hk,⟨N,O,F,R⟩,hX,hO,br⟩:=f.at_ a1;obtain⟨c,o,-⟩:=f.t.l k bo E L hk;rw[N]at d;have bs:(k:Int)<(j.length:Int):=by omega
  have bg:(0:Int)<(j.length:Int):=by omega
  have a4:=hI hk;have ag:=hI c;have a5:=hI o
  by_cases y:L.length=0
  ·rw[y]at F
   clear h f hB hk c o N hX hO;go_enter func11,ntmps11
   go_upto_region 1 with fail
   rw[HW.out]
   go_upto_region 48 with fail
   go_quiet ((go_at_call 12;exact Rd (ai.out _)))
   have HF:Hid (cM (W.drewN nq) b H w T j l):=HM.out.Vb ((ab.refl [] _).drewN nq);go_wp2;go_ret;exact⟨rfl,_,_,_,_,HF.out.more,rfl⟩
  ·have ax:Hid (∀K,Calls prog 12 #[.int .i64 C,.int .i64 L.length] K fun e w'=>e=.returned (.int .i64 (eG C L.length:Nat))/\w'=K):=fun K=>eQ C L.length K hC ⟨by omega,by omega⟩
   have ad:=fY C L.length (by omega);obtain⟨i,Hi⟩:∃i,Hid (eG C L.length=i):=⟨_,rfl⟩
   rw[Hi.out]at ax ad
   obtain⟨a,rfl⟩:∃a,bo=some a:=by
    cases bo with
    | none=>rw[hX.nil.1 rfl]at y;exact absurd rfl y
    | some a=>exact⟨a,rfl⟩
   obtain⟨p,M⟩:∃p,E.ao=some ⟨p,0,none⟩:=by
    rcases hO.Vm with ⟨-,e2,-⟩ | ⟨g,a6,e1,-⟩
    ·exact absurd e2 y
    ·exact⟨g,e1⟩
   have u:=hI M
   have U:a≠Q.heap.size:=by
    intro e;have:=(Ix (some a) L).lt Q (by have:=h.m.sep.all (12,k);rw[c]at this;exact this) a (Q9.2 rfl);omega
   have aT:p≠a:=by
    intro e;exact f.m.sep.far (13,k) (12,k) (bn (by decide)) p (by rw[o];show p∈E.blk.toList;unfold Hd.blk;rw[M];exact Q9.2 rfl) (by rw[c,e];exact Q9.2 rfl)
   have bv:=hI hB;replace F:W.cell? ⟨P,k*2,none⟩=some (.slice (some ⟨a,0,none⟩) L.length L.length):=F;rw[M]at R;have bk:(i:Int)<(L.length:Int):=by omega
   have bp:(0:Int)<(L.length:Int):=by omega
   have a0:=hI U
   have ap:Hid (P≠a):=by
    intro e;exact f.m.sep.far (11,0) (12,k) (bn (by decide)) P (by rw[f.t.r];show P∈T.blk.toList;unfold Hd.blk;rw[N];exact Q9.2 rfl) (by rw[c,e];exact Q9.2 rfl)
   have a3:Hid (b≠a):=by
    intro e;exact f.m.sep.far (0,0) (12,k) (bn (by decide)) b (by rw[f.m.w0];exact Q9.2 rfl) (by rw[c,e];exact Q9.2 rfl)
   have v:Hid (∀x,ab [a] W x->(x.cell? ⟨Q.heap.size,2,none⟩=some (.int .i64 C)/\x.cell? ⟨Q.heap.size,4,none⟩=some (.string s)/\Q.heap.size<x.heap.size)/\(x.cell? ⟨b,16,none⟩=some (.slice (some ⟨P,0,none⟩) j.length T.cap)/\b<x.heap.size)/\x.cell? ⟨P,k*2,none⟩=some (.slice (some ⟨a,0,none⟩) L.length L.length)/\x.cell? ⟨P,k*2+1,none⟩=some (.slice (some ⟨p,0,none⟩) L.length E.cap)/\P<x.heap.size):=fun x kw=>by
    have q:∀g i,g<W.heap.size->g≠a->x.cell? ⟨g,i,none⟩=W.cell? ⟨g,i,none⟩:=fun g i hg hn=>Q6 (kw.block g hg (by simp;exact hn))
    have z:=kw.size;exact⟨⟨by rw[q _ _ S (Ne.symm a0.out)];exact V,by rw[q _ _ S (Ne.symm a0.out)];exact X,by omega⟩,⟨by rw[q _ _ bz a3.out];exact d,by omega⟩,by rw[q _ _ O ap.out];exact F,by rw[q _ _ O ap.out];exact R,by omega⟩
   have bl:Hid (L.length<=E.cap):=by
    rcases hO.Vm with ⟨-,e2,-⟩ | ⟨g,a6,-,-,e3,-⟩
    ·exact absurd e2 y
    ·exact e3
   clear h f hB hk c o N hX hO U M aT;go_enter func11,ntmps11
   go_upto_region 1 with fail
   rw[HW.out]
   go_upto_region 48 with fail
   go_quiet ((go_at_call 12;exact Rd (ai.out _)))
   go_upto_region 50 with fail
   obtain⟨W2,ar⟩:∃W2,Hid (W.drewN nq=W2):=⟨_,rfl⟩
   rw[ar.out];have an:Hid (ab [] W W2):=by show ab _ _ _;rw[<-ar.out];exact(ab.refl [] _).drewN nq
   clear o0 o1 V o3 X o5 S d bz F R O;obtain⟨⟨V,X,S⟩,⟨d,bz⟩,F,R,O⟩:=v.out W2 (an.out.mono (by simp))
   go_quiet ((go_at_call 12;exact Rd (ax.out _)))
   go_upto_region 51 with fail
   obtain⟨J,az⟩:∃J,Hid (W2.drewN nq=J):=⟨_,rfl⟩
   rw[az.out];have ac:Hid (ab [] W J):=by show ab _ _ _;rw[<-az.out];exact an.out.drewN nq
   have aS:Hid (cM J b H w T j l):=HM.out.Vb ac.out;have I:Hid (vF J (some a) L):=by show vF _ _ _;have:=aS.out.m.sep.all (12,k);rw[ag.out]at this;exact this
   clear V X S d bz F R O;obtain⟨⟨V,X,S⟩,⟨d,bz⟩,F,R,O⟩:=v.out J (ac.out.mono (by simp));have d0:J.cell? ⟨a,i,none⟩=some (.string L[i]):=by rw[aa (I.out.blk a rfl)];simp[cN,ad]
   have df:=am (I.out.blk a rfl) i;have dz:=ae (I.out.blk a rfl);generalize L[i]=bf at *
   go_region
   all_goals
    obtain⟨B,Z⟩:∃B,Hid ((J.setCell ⟨a,i,none⟩ (.string s)).drew=B):=⟨_,rfl⟩
    rw[Z.out];have al:Hid (ab [a] J B):=by show ab _ _ _;rw[<-Z.out];exact((ab.refl [a] _).setCell (Q1 (by simp)) _).drew
    have S4:Hid (nJ B (fk H (12,k) (Ix (some a) (L.set i s)))):=by
     show nJ _ _
     refine aS.out.m.sep.put _ _ (by rw[ag.out];exact al.out) ?_ (fun q hq=>Q1 (by rw[ag.out];exact hq));rw[<-Z.out];exact(Ix _ _).ok [] _ _ (I.out.wrote s) (ab.refl [] _).drew (by simp)
    have af:Hid (fk H (12,k) (Ix (some a) (L.set i s)) (13,k)=ce E (aB L)):=by show _=_;rw[aq _ _ (bn (by decide))];exact a5.out
    have G:Hid (aw B E (aB L)):=by show aw _ _ _;have:=S4.out.all (13,k);rw[af.out]at this;exact this
    clear d0 df dz V X S d bz F R O;obtain⟨⟨V,X,S⟩,⟨d,bz⟩,F,R,O⟩:=v.out B ((ac.out.mono (by simp)).trans al.out);have d0:B.cell? ⟨p,i,none⟩=some (.string L[i]):=G.out.cell u.out i _ (by simp[aB,cN,ad]);have df:=Cz G.out u.out i;have dz:p<B.heap.size:=G.out.lt (by unfold Hd.blk;rw[u.out];rfl);generalize L[i]=be at *
    go_upto_region 52 with fail
    go_region
    all_goals
     obtain⟨W5,Y⟩:∃W5,Hid ((B.setCell ⟨p,i,none⟩ (.string s)).drew=W5):=⟨_,rfl⟩
     rw[Y.out];have a7:Hid (ab [p] B W5):=by show ab _ _ _;rw[<-Y.out];exact((ab.refl [p] _).setCell (Q1 (by simp)) _).drew
     have S5:Hid (nJ W5 (fk (fk H (12,k) (Ix (some a) (L.set i s))) (13,k) (ce E (aB (L.set i s))))):=by
      show nJ _ _
      have a2:E.blk.toList=[p]:=by unfold Hd.blk;rw[u.out];rfl
      refine S4.out.put _ _ (by rw[af.out];show ab E.blk.toList _ _;rw[a2];exact a7.out) ?_ (fun q hq=>Q1 (by rw[af.out];exact hq));rw[<-Y.out];exact(ce _ _).ok [] _ _ (Mm G.out u.out s) (ab.refl [] _).drew (by simp)
     go_wp2;go_ret;exact⟨rfl,HM.out.wrote a4.out Rv S5.out⟩
theorem Pv(q:List Tx)(A C D:Int)(s t:ByteArray)(g:World)(h:cM g b H w T q l)(hV:w.V.length≠0)(hA:qB A)(Z:l<=1073741824) :
  Calls prog 9 #[.pointer (some ⟨b,0,none⟩),.agg #[.int .i64 12,.int .i64 A,.int .i64 C,.int .i64 D,.string s,.string t]] g fun e E=>qM b H l e E:=by
 obtain⟨W,Q⟩:∃W,Hid (g.alloc (.cells #[.int .i64 12,.int .i64 A,.int .i64 C,.int .i64 D,.string s,.string t] 28)=W):=⟨_,rfl⟩
 obtain⟨L,J,ac,p⟩:=h.m.boxed 12 A C D s t W Q.out;have HT:Hid (cM W b H w T q l):=h.Vb p;obtain⟨y,z,O,U,S,Y,v⟩:=cQ J;have HL:=hI (lq b l H w 12 A C D s t W L (by omega));have HS:Hid (gx W b g.heap.size H w l 12 A C D s t):=⟨L,J⟩;have ag:=h.m.len.1;have n:Hid (∀u,Calls prog 12 #[.int .i64 A,.int .i64 w.V.length] u fun e E=>e=.returned (.int .i64 (eG A w.V.length:Nat))/\E=u):=fun u=>eQ A w.V.length u hA ⟨by omega,by omega⟩
 have j:=fY A w.V.length (by omega);obtain⟨i,Hi⟩:∃i,Hid (eG A w.V.length=i):=⟨_,rfl⟩
 rw[Hi.out]at n j;have af:((w.V.length:Int)==0)=false:=Rh.2 (by omega);have ad:(i:Int)<(w.V.length:Int):=by omega
 clear h L J p;go_enter func9,ntmps9
 go_upto_region 1 with fail
 rw[Q.out]
 go_upto_region 2 with (go_at_call 11;refine QU HL.out ?_;rintro e r ⟨rfl,G⟩)
 have c:Hid (gx r b g.heap.size H w l 12 A C D s t):=HS.out.Vb G;have I:Hid (cM r b H w T q l):=HT.out.Vb G;clear y z O U S Y v G;obtain⟨y,z,-⟩:=cQ c.out.o;have v:=ae c.out.o;have F:r.cell? ⟨b,0,none⟩=some (.slice w.hx.ao w.V.length w.hx.cap):=by rw[aa c.out.m.blk];rfl
 have R:=ae c.out.m.blk
 go_upto_region 4 with fail
 go_quiet ((go_at_call 12;exact Rd (n.out _)))
 go_upto_region 5 with fail
 obtain⟨f,d⟩:∃f,Hid (r.drewN nq=f):=⟨_,rfl⟩
 rw[d.out];have a:Hid (gx f b g.heap.size H w l 12 A C D s t):=c.out.Vb (by rw[<-d.out];exact(ab.refl [] _).drewN nq);have M:Hid (cM f b H w T q l):=I.out.Vb (by rw[<-d.out];exact(ab.refl [] _).drewN nq);clear y z v F R;obtain⟨y,z,O,U,S,Y,v⟩:=cQ a.out.o;obtain⟨x,m,fs,hd,lo,hi,N,B,st,g1,g2,k,⟨X,z1,d1⟩,P,z2,d2⟩:=a.out.m.ver j;have F:f.cell? ⟨b,0,none⟩=some (.slice w.hx.ao w.V.length w.hx.cap):=by rw[aa a.out.m.blk];rfl
 have c1:f.cell? ⟨b,1,none⟩=some (.slice w.hm.ao w.V.length w.hm.cap):=by rw[aa a.out.m.blk];rfl
 rw[X]at F;rw[P]at c1;have R:=ae a.out.m.blk;have K:=hI (wj b l H w T q i x m fs hd lo hi N B st s f M.out Z k);clear k X P;go_wp2_with (go_at_call 18;refine QU K.out ?_;rintro e w3 ⟨rfl,q1⟩);go_ret;exact⟨rfl,q1⟩
theorem Pw(I:List Tx)(A C:Int)(s t:ByteArray)(v:World)(h:cM v b H w T I l)(hV:w.V.length≠0)(hA:qB A)(hC:qB C)(hN:l<=1073741824) :
  Calls prog 9 #[.pointer (some ⟨b,0,none⟩),.agg #[.int .i64 19,.int .i64 A,.int .i64 C,.int .i64 12,.string s,.string t]] v fun e r=>qM b H l e r:=by
 obtain⟨W,HW⟩:∃W,Hid (v.alloc (.cells #[.int .i64 19,.int .i64 A,.int .i64 C,.int .i64 12,.string s,.string t] 28)=W):=⟨_,rfl⟩
 obtain⟨hM,hB,ar,P⟩:=h.m.boxed 19 A C 12 s t W HW.out;have HT:Hid (cM W b H w T I l):=h.Vb P;obtain⟨B,z,U,o3,X,o5,D⟩:=cQ hB;have HL:=hI (lq b l H w 19 A C 12 s t W hM (by omega));have HS:Hid (gx W b v.heap.size H w l 19 A C 12 s t):=⟨hM,hB⟩;have aS:=h.m.len.1;have O:Hid (∀a,Calls prog 12 #[.int .i64 A,.int .i64 w.V.length] a fun e r=>e=.returned (.int .i64 (eG A w.V.length:Nat))/\r=a):=fun a=>eQ A w.V.length a hA ⟨by omega,by omega⟩
 have M:=fY A w.V.length (by omega);obtain⟨i,Hi⟩:∃i,Hid (eG A w.V.length=i):=⟨_,rfl⟩
 rw[Hi.out]at O M;have a1:((w.V.length:Int)==0)=false:=Rh.2 (by omega);have ax:(i:Int)<(w.V.length:Int):=by omega
 clear h hM hB P;go_enter func9,ntmps9
 go_upto_region 1 with fail
 rw[HW.out]
 go_upto_region 2 with (go_at_call 11;refine QU HL.out ?_;rintro e Z ⟨rfl,k1⟩)
 have p:Hid (gx Z b v.heap.size H w l 19 A C 12 s t):=HS.out.Vb k1;have ac:Hid (cM Z b H w T I l):=HT.out.Vb k1;clear B z U o3 X o5 D k1;obtain⟨B,z,-⟩:=cQ p.out.o;have D:=ae p.out.o;have Y:Z.cell? ⟨b,0,none⟩=some (.slice w.hx.ao w.V.length w.hx.cap):=by rw[aa p.out.m.blk];rfl
 have bz:=ae p.out.m.blk
 go_upto_region 4 with fail
 go_quiet ((go_at_call 12;exact Rd (O.out _)))
 go_upto_region 5 with fail
 obtain⟨u,y⟩:∃u,Hid (Z.drewN nq=u):=⟨_,rfl⟩
 rw[y.out];have j:Hid (gx u b v.heap.size H w l 19 A C 12 s t):=p.out.Vb (by rw[<-y.out];exact(ab.refl [] _).drewN nq);have Q:Hid (cM u b H w T I l):=ac.out.Vb (by rw[<-y.out];exact(ab.refl [] _).drewN nq);clear B z D Y bz;obtain⟨B,z,U,o3,X,o5,D⟩:=cQ j.out.o;obtain⟨x,m,fs,hd,lo,hi,S,E,st,g1,g2,n,⟨e1,z1,d1⟩,F,z2,d2⟩:=j.out.m.ver M;have Y:u.cell? ⟨b,0,none⟩=some (.slice w.hx.ao w.V.length w.hx.cap):=by rw[aa j.out.m.blk];rfl
 have c1:u.cell? ⟨b,1,none⟩=some (.slice w.hm.ao w.V.length w.hm.cap):=by rw[aa j.out.m.blk];rfl
 rw[e1]at Y;rw[F]at c1;have bz:=ae j.out.m.blk;have an:=hI (K0 m fs hd S E st u n.d n.st n.le n.ok);have ad:Hid (∀c a,ab [] u a->Calls prog 18 #[.pointer (some ⟨b,0,none⟩),.pointer (some ⟨x,0,none⟩),.pointer (some ⟨m,0,none⟩),.string c] a fun e r=>qM b H l e r):=fun c a k=>wj b l H w T I i x m fs hd lo hi S E st c a (Q.out.Vb k) hN (n.Vb k)
 clear n e1 F
 go_upto_region 34 with (go_at_call 22;refine QU an.out ?_;rintro e w3 ⟨L,h3,rfl,J,l3⟩)
 have G:=hI J.kept;have af:Hid (gx w3 b v.heap.size H w l 19 A C 12 s t):=j.out.Vb J.kept;have ag:Hid (cm w3 h3.ao 6 jJ L):=aw.srcG (f:=jJ) J.own (fun _=>rfl)
 have a3:Hid (L.length<=h3.cap):=by
  rcases J.own.Vm with ⟨-,F,-⟩ | ⟨g,aT,-,-,e3,-⟩
  ·have F:L.length=0:=F
   show L.length<=_;omega
  ·exact e3
 clear B z U o3 X o5 D Y c1 bz z1 d1 z2 d2 J;obtain⟨B,z,U,o3,X,o5,D⟩:=cQ af.out.o;obtain⟨al,az⟩:=h3
 by_cases hL:L.length=0
 ·rw[hL]
  go_wp2;go_ret;exact⟨rfl,_,_,_,_,(Q.out.Vb G.out).more,rfl⟩
 ·have ap:((L.length:Int)==0)=false:=Rh.2 (by omega)
  have K:Hid (∀a,Calls prog 12 #[.int .i64 C,.int .i64 L.length] a fun e r=>e=.returned (.int .i64 (eG C L.length:Nat))/\r=a):=fun a=>eQ C L.length a hC ⟨by omega,by omega⟩
  have R:=fY C L.length (by omega);obtain⟨k,Hk⟩:∃k,Hid (eG C L.length=k):=⟨_,rfl⟩
  rw[Hk.out]at K R;have a0:(k:Int)<(L.length:Int):=by omega
  obtain⟨g0,eg,a2,hc⟩:=ag.out k _ (QP R);replace eg:al=some ⟨g0,0,none⟩:=eg;subst eg;have r0:=hc 0 _ rfl;rw[Tg]at r0;clear hc;generalize L[k].label=c at *;have ai:Hid (∀a,ab [] w3 a->Calls prog 23 #[.pointer (some ⟨b,0,none⟩),.pointer (some ⟨x,0,none⟩),.pointer (some ⟨m,0,none⟩),.string c,.string s,.int .i64 12] a fun e r=>qM b H l e r):=fun a k=>Nb b x m c s a _ (ad.out c a (G.out.trans k))
  go_upto_region 37 with (go_at_call 12;refine QU (K.out _) ?_;rintro q w4 ⟨rfl,N⟩;rw[N];clear N)
  go_region_with (go_at_call 23;refine(ai.out _ (by exact(ab.refl [] _).drew)).mono ?_;rintro e w9 ⟨rfl,q9⟩)
  all_goals
   go_wp2;go_ret;exact⟨rfl,q9⟩
theorem JQ(y:List Tx)(o:pB)(f:World)(h:cM f b H w T y l)(n:l<=1073741824)(I:M3 o) :
  Calls prog 9 #[.pointer (some ⟨b,0,none⟩),.agg #[.int .i64 o.k,.int .i64 o.a,.int .i64 o.c,.int .i64 o.d,.string o.s,.string o.t]] f fun e u=>qM b H l e u:=by
 obtain⟨k,A,C,D,s,t⟩:=o;obtain⟨p,x,E,B,r,J⟩:=I;simp only at *;have i:=h.m;have j:∀{c:Calls prog 9 #[.pointer (some ⟨b,0,none⟩),.agg #[.int .i64 k,.int .i64 A,.int .i64 C,.int .i64 D,.string s,.string t]] f (fun e u=>iB b H w l true e u)},Calls prog 9 #[.pointer (some ⟨b,0,none⟩),.agg #[.int .i64 k,.int .i64 A,.int .i64 C,.int .i64 D,.string s,.string t]] f (fun e u=>qM b H l e u):=fun {c}=>c.mono (fun e u q=>h.up q)
 have z:k=1∨k=2∨k=3∨k=4∨k=5∨k=6∨k=7∨k=15∨k=16∨k=17∨k=18∨(k=8∨k=9∨k=10∨k=12∨(k=19/\D=12)):=by omega
 rcases z with rfl | rfl | rfl | rfl | rfl | rfl | rfl | rfl | rfl | rfl | rfl | F
 ·exact j (c:=iy b l H w _ A C D s t f i (fun W g=>Pa b l H w A C D s t W g n))
 ·exact j (c:=iy b l H w _ A C D s t f i (fun W g=>Pb b l H w A C D s t W g n B r))
 ·exact j (c:=iy b l H w _ A C D s t f i (fun W g=>Pc b l H w A C D s t W g))
 ·exact j (c:=iy b l H w _ A C D s t f i (fun W g=>Pd b l H w A C D s t W g n))
 ·exact j (c:=iy b l H w _ A C D s t f i (fun W g=>Pe b l H w A C D s t W g n))
 ·exact j (c:=iy b l H w _ A C D s t f i (fun W g=>Pf b l H w A C D s t W g n p x B r))
 ·exact j (c:=iy b l H w _ A C D s t f i (fun W g=>Pg b l H w A C D s t W g p x E))
 ·exact j (c:=iy b l H w _ A C D s t f i (fun W g=>NH b l H w A C D s t W g))
 ·exact j (c:=iy b l H w _ A C D s t f i (fun W g=>NI b l H w A C D s t W g))
 ·exact j (c:=iy b l H w _ A C D s t f i (fun W g=>NJ b l H w A C D s t W g h.q))
 ·exact JP b 18 A C D s t f _ (fun W G=>NK b l H w T y A C D s t W (h.Vb G) n p x)
 by_cases v:w.V.length=0
 ·exact j (c:=JT b l H w k A C D s t f i (by omega) v)
 ·rcases F with rfl | rfl | rfl | rfl | ⟨rfl,rfl⟩
  ·exact j (c:=Qj b l H w A C D s t f i v p x n)
  ·exact j (c:=Qk b l H w A C D s t f i v p n B r)
  ·exact j (c:=Pu b l H w A C D s t f i v p n)
  ·exact Pv b l H w T y A C D s t f h v p n
  ·exact Pw b l H w T y A C s t f h v p x n
def Qc(w0:World)(h:Hd)(L:List pB):It where
 B:=List.range w0.heap.size++h.blk.toList
 P w:=ab [] w0 w/\aw w h (ja L)
 lt w a q hq:=by
  rcases Rr.1 hq with e | e
  ·exact QX (Ra.1 e) a.1.size
  ·exact a.2.lt (aN e)
 ok S w w' a k hb:=by
  refine⟨⟨k.os.trans a.1.os,k.tape.trans a.1.tape,k.output.trans a.1.output,Q3 a.1.size k.size,fun q hq _=>?_⟩,a.2.Vg (fun q hq=>k.block q (a.2.lt hq) (hb q (Se _ (by rw[hq];simp))))⟩;rw[k.block q (QX hq a.1.size) (hb q (RN _ (Ra.2 hq)))];exact a.1.block q hq (by simp)
def QK:It where
 B:=[]
 P _:=True
 lt _ _ q hq:=by cases hq
 ok _ _ _ _ _ _:=trivial
def PE:Mc:=⟨⟨none,0⟩,⟨none,0⟩,⟨none,0⟩,⟨none,0⟩,⟨none,0⟩,[],[],[],0,0,0,0,⟨#[]⟩,0,0,⟨#[]⟩,0,0,.slice none 0 0,.slice none 0 0⟩
theorem LG{d:World}{L:List pB}(o:ab [] n v)(A:aw v x (ja L))(k:ab [] v d)(u:d.heap[v.heap.size]?=some (.cells PE.cells.toArray 42 (0,0))):∃I,cM d v.heap.size I PE ⟨none,0⟩ [] 0/\I (10,0)=Qc n x L:=by
 have w:nJ v (fk (fun _=>QK) (10,0) (Qc n x L)):=by
  refine⟨fun q=>?_,fun q C a b f g=>?_⟩
  ·by_cases e:q=(10,0)
   ·subst e;rw[bJ];exact⟨o,A⟩
   ·rw[aq _ _ e];exact trivial
  ·by_cases e:q=(10,0)
   ·subst e;rw[aq _ _ (Ne.symm a)]at g;cases g
   ·rw[aq _ _ e]at f;cases f
 have s:=w.put (0,0) (rB v.heap.size 42 PE.cells) (k.mono (by simp)) u (fun q a=>QV (by rw[Q9.1 a];exact QR _));have r:=s.put (1,0) (ce ⟨none,0⟩ (lB 46 [])) (ab.refl _ _) (QZ _ _ _ _) (fun q a=>by cases a);have t:=r.put (2,0) (ce ⟨none,0⟩ (lB 47 [])) (ab.refl _ _) (QZ _ _ _ _) (fun q a=>by cases a);have y:=t.put (3,0) (ce ⟨none,0⟩ (cr [])) (ab.refl _ _) (QZ _ _ _ _) (fun q a=>by cases a);have z:=y.put (4,0) (ce ⟨none,0⟩ (ig [])) (ab.refl _ _) (QZ _ _ _ _) (fun q a=>by cases a);have p:=z.put (5,0) (ce ⟨none,0⟩ (ig [])) (ab.refl _ _) (QZ _ _ _ _) (fun q a=>by cases a);have B:=p.put (11,0) (ce ⟨none,0⟩ (md [])) (ab.refl _ _) (QZ _ _ _ _) (fun q a=>by cases a);refine⟨_,⟨⟨B,?_,?_,?_,?_,?_,?_,(fun i h m l c=>by cases c),(fun i h m l c=>by cases c),(fun j=>⟨by show(0:Nat)<=_;omega,by show(0:Nat)<=_;omega⟩),⟨QR _,QR _,QR _⟩,⟨⟨by decide,by decide⟩,⟨by decide,by decide⟩,by decide,by decide⟩⟩,rfl,⟨rfl,bJ _ _ _,(fun i h m l c=>by cases c),QR _⟩⟩,?_⟩
 all_goals (simp only[fk];rfl)
theorem Hj:(Instr.build 42 #[]).run prog L=.ok (.agg PE.cells.toArray) L :=
 run_build L 42 _ _ (by kernel_rfl)
theorem MO(a:List pB)(w:World)(N:ab [] L w)(S:aw w T (ja a))(hL:a.length<=1073741824)(u:∀i,i<a.length->M3 (lT a i)) :
  Calls prog 8 #[.slice T.ao a.length T.cap] w fun e Y=>e=.returned (.int .i64 (-1))/\ab [] L Y:=by
 obtain⟨d,b⟩:=T;obtain⟨W,y⟩:∃W,Hid (w.alloc (.cells PE.cells.toArray 42)=W):=⟨_,rfl⟩
 obtain⟨I0,r,q⟩:=LG N S (show ab [] w W by rw[<-y.out];exact(ab.refl [] _).alloc _) (by rw[<-y.out];exact QS _ _);have H:Hid (∃I M j n,cM W w.heap.size I M j n 0/\I (10,0)=Qc L ⟨d,b⟩ a):=⟨_,_,_,_,r,q⟩;have B:=hI u;have X:=Hj;have K:Hid (PE.cells.toArray=#[.slice none 0 0,.slice none 0 0,.slice none 0 0,.slice none 0 0,.slice none 0 0,.int .i64 0,.int .i64 0,.int .i64 0,.int .i64 0,.string ⟨#[]⟩,.int .i64 0,.int .i64 0,.string ⟨#[]⟩,.int .i64 0,.int .i64 0,.slice none 0 0,.slice none 0 0]):=rfl;rw[K.out]at y;simp only[K.out]at X;clear r q u S N;go_enter func8,ntmps8
 go_upto_region 2 with fail
 rw[y.out];go_wp2
 go_loopg [4] a.length (fun g i wr=>∃k:Nat,k<=a.length/\g=a.length-k/\i=.int .i64 k/\Hid (∃I M j n,cM wr w.heap.size I M j n k/\I (10,0)=Qc L ⟨d,b⟩ a))
 case atStart=>exact⟨0,by omega,rfl,rfl,H⟩
 case round =>
  obtain⟨k,hk,hg,rfl,G⟩:=hrel;obtain⟨I,M,j,n,z,c⟩:=G.out;have HI:=hI c;have p:=z.m.sep.all (10,0);rw[c]at p
  by_cases t:k<a.length
  ·have af:(k:Int)<(a.length:Int):=by omega
   obtain⟨R,F,ac,l⟩:=(aw.srcG (f:=Kj) p.2 (fun _=>rfl)) k _ (lU a k t);have Z:=l 0 _ rfl;have c1:=l 1 _ rfl;have c2:=l 2 _ rfl;have c3:=l 3 _ rfl;have c4:=l 4 _ rfl;have c5:=l 5 _ rfl;have A:=hI (JQ w.heap.size k I M j n (lT a k) wr z (by omega) (B.out k t));generalize lT a k=o at *;rw[Tg]at Z;replace F:d=some ⟨R,0,none⟩:=F;subst F;clear z c p l G
   go_upto_region 6 with (go_at_call 9;refine QU A.out ?_;rintro e O ⟨rfl,P,Q,s,v,h,x⟩)
   have HL:=hI (IK w.heap.size (k+1) P Q s v O h (by omega));have C:Hid (∃I M j n,cM O w.heap.size I M j n (k+1)/\I (10,0)=Qc L ⟨some ⟨R,0,none⟩,b⟩ a):=⟨P,Q,s,v,h,x.trans HI.out⟩;clear h x;go_wp2_with (go_at_call 10;refine QU HL.out ?_;rintro e w2 ⟨rfl,U⟩)
   go_roundg (a.length-(k+1))
   case measure=>omega
   case rel =>
    obtain⟨V,M2,E,D,h2,J⟩:=C.out;exact⟨k+1,by omega,rfl,by go_num,V,M2,E,D,h2.Vb U,J⟩
  ·have ad:¬(k:Int)<(a.length:Int):=by omega
   have HK:=hI p.1;clear z c p G;go_wp2;go_ret;exact⟨rfl,HK.out⟩
theorem Ja{L:List pB}{o:pB}{p:pB->Prop}(h:∀i,i<L.length->p (lT L i))(b:p o):∀i,i<(L++[o]).length->p (lT (L++[o]) i):=by
 intro i a;rw[Q0]at a;replace a:i<L.length+1:=a;unfold lT;rw[QQ]
 by_cases e:i<L.length
 ·have:=h i e
  unfold lT at this;rw[QQ]at this;rw[Q7 e];exact this
 ·rw[Q5 (by omega),show i-L.length=0 by omega];exact b
def AU(K:List Int)(k:Int)(q:Nat):Bool:=((decide (1<=k)&&decide (k<=10))||(decide (15<=k)&&decide (k<=18)))||(K.take q).any (fun x=>k==x)
theorem wy(h:i<1∨(10<i/\i<15)∨18<i):AU M i 0=false:=by
 unfold AU;rw[Tq,List.any_nil,Sz];simp
 omega
theorem Cc(h:(1<=i/\i<=10)∨(15<=i/\i<=18))(q:Nat):AU M i q=true:=by
 unfold AU;have:((decide (1<=i)&&decide (i<=10))||(decide (15<=i)&&decide (i<=18)))=true:=by simp;omega
 rw[this];rfl
theorem Lr(K:List Int)(k:Int)(q:Nat)(h:q<K.length):AU K k (q+1)=(AU K k q||(k==K[q])):=by
 unfold AU;rw[Td,QP h,UW,<-TF];simp
theorem Nz(h:AU M i f=true):((1<=i/\i<=10)∨(15<=i/\i<=18))∨i∈M:=by
 unfold AU at h;rw[RB]at h
 rcases h with h | h
 ·left;simp at h;omega
 ·right
  obtain⟨x,b,a⟩:=RC.1 h;rw[TR a];exact Tb b
def xD(w:World)(ka:Option Addr)(K:List Int):Prop:=∀q (hq:q<K.length),∃kb,ka=some ⟨kb,0,none⟩/\kb<w.heap.size/\w.cell? ⟨kb,q,none⟩=some (.int .i64 K[q])
theorem xD.Vb(h:xD n g M)(k:ab [] n v):xD v g M:=fun q b=>by
 obtain⟨a,e,z,c⟩:=h q b;exact⟨a,e,QX z k.size,by rw[Q6 (k.block a z (by simp))];exact c⟩
theorem xD.of(h:n.heap[f]?=some (.cells (M.map (Value.int .i64)).toArray 3 (0,0))):xD n (some ⟨f,0,none⟩) M:=fun q a=>⟨f,rfl,ae h,by rw[aa h];simp[a]⟩
theorem Jh(f:List pB)(K:List Int)(V:Option Addr)(w:World)(hl:f.length<=140737488351232)(hi:mx w D f)(ho:∀o∈f,AZ o)(F:xD w V K)(aS:K.length<=100)(hK:∀o∈f,o.k∈K->o.k=12∨(o.k=19/\o.d=12)) :
  Calls prog 5 #[.slice D f.length l,.slice V K.length K.length] w fun e w'=>e=.returned (.bool true)/\ab [] w w':=by
 have ag:=hI (Fh D l f w hl hi ho);have HI:Hid (mx w D f):=hi;have HO:=hI ho;have af:Hid (xD w V K):=F;have Z:=hI hK;obtain⟨iX,Y,C,S,P⟩:=Re Lv;clear hi ho F hK;go_enter func5,ntmps5
 go_upto_region 2 with (go_at_call 7;refine QU ag.out ?_;rintro e w1 ⟨⟨r,rfl,hr⟩,k1⟩)
 have N:=hI k1;have HR:=hI hr;clear k1 hr
 cases r
 ·go_wp2
  go_ret;exact⟨rfl,N.out⟩
 ·obtain⟨a0,G⟩:=HR.out rfl
  have W:=hI G;have ax:Hid (gw w w1 ⟨none,0⟩ (ja [])):=⟨QZ _ _ _ _,(by intro k hk;cases hk),N.out⟩;clear G HR;go_wp2
  go_loopg [6,7] f.length (fun g lv iv wr=>∃(k:Nat) (B:Hd) (L:List pB),k<=f.length/\g=f.length-k/\lv=.slice B.ao L.length B.cap/\iv=.int .i64 k/\L.length<=k/\Hid (∀i,i<L.length->M3 (lT L i))/\Hid (gw w wr B (ja L)))
  case atStart=>exact⟨0,⟨none,0⟩,[],by omega,rfl,rfl,rfl,by simp,(fun i h=>by cases h),ax⟩
  case round =>
   obtain⟨k,B,L,hk,hg,rfl,rfl,a4,t,z⟩:=hrel
   by_cases y:k<f.length
   ·have a2:(k:Int)<(f.length:Int):=by omega
    obtain⟨b,a5,rfl,hb,u⟩:=(mx.Vb HI.out z.out.kept) k _ (lU f k y);have p:=R4 (lU f k y);have R:=HO.out (lT f k) p;have O:=Z.out (lT f k) p;have c0:=u 0 _ rfl;have c1:=u 1 _ rfl;have c2:=u 2 _ rfl;have c3:=u 3 _ rfl;have c4:=u 4 _ rfl;have c5:=u 5 _ rfl;rw[Tg]at c0;have E:=W.out k y;have x:=hI R;have H:=hI E;have ad:=hI O;have ap:Hid (xD wr V K):=xD.Vb af.out z.out.kept;generalize lT f k=o at *;clear u R E O p;have an:=z.out.own;have ac:Hid ((ja L).n<=4294967296):=by show L.length<=_;omega
    have I:Hid ((ja L).n=L.length):=rfl
    have M:Hid (AU K o.k K.length=true->M3 o):=fun q=>⟨x.out.a,x.out.c,x.out.d,H.out.1,H.out.2,by
     rcases Nz q with q | q
     ·omega
     ·have:=ad.out q;omega⟩
    have A:(o.k<1/\Hid (AU K o.k 0=false))∨((10<o.k/\o.k<15)/\Hid (AU K o.k 0=false))∨(18<o.k/\Hid (AU K o.k 0=false))∨((1<=o.k/\o.k<=10)/\Hid (AU K o.k 0=true))∨((15<=o.k/\o.k<=18)/\Hid (AU K o.k 0=true)):=by
     by_cases z1:o.k<1
     ·exact Q1 ⟨z1,wy (Q1 z1)⟩
     ·by_cases z2:o.k<=10
      ·exact QV (QV (QV (Q1 ⟨⟨by omega,z2⟩,Cc (Q1 ⟨by omega,z2⟩) 0⟩)))
      ·by_cases z3:o.k<15
       ·exact QV (Q1 ⟨⟨by omega,z3⟩,wy (QV (Q1 ⟨by omega,z3⟩))⟩)
       ·by_cases z4:o.k<=18
        ·exact QV (QV (QV (QV ⟨⟨by omega,z4⟩,Cc (QV ⟨by omega,z4⟩) 0⟩)))
        ·exact QV (QV (Q1 ⟨by omega,wy (QV (QV (by omega)))⟩))
    rcases A with ⟨T,m⟩ | ⟨⟨T,h2⟩,m⟩ | ⟨T,m⟩ | ⟨⟨T,h2⟩,m⟩ | ⟨⟨T,h2⟩,m⟩
    all_goals
     go_wp2
     go_loopg [9,10] K.length (fun g a j w2=>∃q:Nat,q<=K.length/\g=K.length-q/\a=.bool (AU K o.k q)/\j=.int .i64 q/\wr=w2)
     case atStart=>exact⟨0,by omega,rfl,congrArg Value.bool (by rw[m.out] <;> simp <;> omega),rfl,rfl⟩
     case round =>
      obtain⟨q,hq,a3,rfl,rfl,rfl⟩:=hrel
      by_cases J:q<K.length
      ·have aT:(q:Int)<(K.length:Int):=by omega
       obtain⟨kb,rfl,az,cq⟩:=ap.out q J;have s:=hI (Lr K o.k q J);generalize K[q]=kq at *
       cases U:AU K o.k q
       ·rw[U,Sp]at s
        go_wp2
        go_roundg (K.length-(q+1))
        case measure=>omega
        case rel=>exact⟨q+1,by omega,rfl,congrArg Value.bool s.out.symm,by go_num,rfl⟩
       ·rw[U,Ts]at s
        go_wp2
        go_roundg (K.length-(q+1))
        case measure=>omega
        case rel=>exact⟨q+1,by omega,rfl,congrArg Value.bool s.out.symm,by go_num,rfl⟩
      ·have ar:q=K.length:=by omega
       subst ar;have a6:¬(K.length:Int)<(K.length:Int):=by omega
       cases U:AU K o.k K.length
       ·go_wp2
        go_roundg (f.length-(k+1))
        case measure=>omega
        case rel=>exact⟨k+1,B,L,by omega,rfl,rfl,by go_num,by omega,t,z⟩
       ·have X:=hI (M.out U)
        go_wp2_with (at_builtin;refine cZ wr rfl (.tmp 57) (.tmp 62) 22 rfl iX (.agg #[.int .i64 0,.int .i64 0,.int .i64 0,.int .i64 0,.string ⟨#[]⟩,.string ⟨#[]⟩]) 64 B (ja L) (Kj o) underlying22 Y C S P rfl (show 0<6 by omega) (by rw[I.out];simp[Act.eval]) an ac.out (by omega) (by simp[Act.eval]) rfl (Aq o) ?_;intro h5 w5 v Q;rw[ja,gM]at v;have al:=hI (z.out.Vl Q v);clear v Q)
        go_roundg (f.length-(k+1))
        case measure=>omega
        case rel=>exact⟨k+1,h5,L++[o],by omega,rfl,by rw[I.out,Q0];rfl,by go_num,by rw[Q0];show _+1<=_;omega,Ja t.out X.out,al⟩
   ·have a1:¬(k:Int)<(f.length:Int):=by omega
    have ai:=hI (MO w B L wr z.out.kept z.out.own (by omega) t.out);go_wp2_with (go_at_call 8;refine QU ai.out ?_;rintro e w5 ⟨rfl,k5⟩);go_ret;exact⟨rfl,k5⟩
theorem nk{P:Program}{l:Array Oper}{d:List Oper}{o:Oper}{a:Act}{Q:Exit->Act->World->Prop}(M:o.guard=none)(s x:Operand)(t:TypeId)(v:o.op=Op.call { callee:=Callee.builtin Builtin.append,args:=#[s,x],argTypes:=#[t,t] })(i:TypeInfo)(z:Value)(c:Nat)(h:Hd)(r:dN)(b:List Value)(B:P.underlying t=some (.slice r.e))(C:P.info? r.e=some i)(O:i.zero=some z)(N:i.size=r.size)(S:i.bytes=c)(A:z.cells.size=r.size)(J:0<r.size)(F:a.eval s=.slice h.ao r.n h.cap)(k:aw L h r)(U:r.n+1<=140737488355328)(E:(r.n+1)*c<=140737488355328)(T:a.eval x=.slice (some ⟨L.heap.size,0,none⟩) 1 1)(W:b.length=r.size)(q:∀u∈b,u.oneCell'=true)(R:∀m f,aw f m ⟨r.e,r.size,r.n+1,r.xs++b⟩->bt L f h m->wpList P l Q d (a.put o.dst (.slice m.ao (r.n+1) m.cap)) f) :
  wpList P l Q (o :: d) a (L.alloc (.cells b.toArray r.e)):=by
 have y:ab [] L (L.alloc (.cells b.toArray r.e)):=(ab.refl [] _).alloc _;have G:(L.alloc (.cells b.toArray r.e)).heap[L.heap.size]?=some (.cells b.toArray r.e (0,0)):=QS _ _;obtain⟨p,f,g,D,H⟩:=pE (P:=P) (L.alloc (.cells b.toArray r.e)) t o.type i z c h r B C O N S A J (k.Vb y) (some ⟨L.heap.size,0,none⟩) 1 1 b (by omega) (fun e=>by cases e) (fun V e j u I=>by cases e;rw[bL,aa G];simpa using I) q (by unfold maxLen;omega) E;refine wpList_plain M fun K w=>?_
 unfold Oper.wp;simp[execOp,v,resolve,invoke,builtin,F,T,g,Result.andThen];exact w _ _ (R p f D ((bt.Vb y).trans H))
def pj(d:Int)(o:pB):pB:=if o.k=19 then { o with d:=d } else o
theorem LP(d:Int)(f:List pB)(w:World)(hl:f.length*64<=140737488351232)(hi:mx w D f) :
  Calls prog 6 #[.slice D f.length l,.int .i64 d] w fun e w'=>∃m,e=.returned (.slice m.ao f.length m.cap)/\gw w w' m (ja (f.map (pj d))):=by
 have HI:Hid (mx w D f):=hi;obtain⟨iX,H,r,u,v⟩:=Re Lv;have V:Hid (gw w w ⟨none,0⟩ (ja [])):=⟨QZ _ _ _ _,(by intro k hk;cases hk),ab.refl _ _⟩;clear hi;go_enter func6,ntmps6;go_wp2
 go_loopg [5,6] f.length (fun g lv iv wr=>∃(k:Nat) (m:Hd) (L:List pB),k<=f.length/\g=f.length-k/\lv=.slice m.ao L.length m.cap/\iv=.int .i64 k/\L.length=k/\Hid (L=(f.take k).map (pj d))/\Hid (gw w wr m (ja L)))
 case atStart=>exact⟨0,⟨none,0⟩,[],by omega,rfl,rfl,rfl,rfl,rfl,V⟩
 case round =>
  obtain⟨k,m,L,hk,hg,rfl,rfl,z,T,O⟩:=hrel
  by_cases I:k<f.length
  ·have ag:(k:Int)<(f.length:Int):=by omega
   obtain⟨b,ac,rfl,hb,F⟩:=(mx.Vb HI.out O.out.kept) k _ (lU f k I)
   have q:Hid (L++[pj d (lT f k)]=(f.take (k+1)).map (pj d)):=by
    show _=_
    rw[Td,lU f k I,Ry,<-T.out];rfl
   have c0:=F 0 _ rfl;have c1:=F 1 _ rfl;have c2:=F 2 _ rfl;have c3:=F 3 _ rfl;have c4:=F 4 _ rfl;have c5:=F 5 _ rfl;rw[Tg]at c0;generalize lT f k=o at *;clear F;have C:(ja L).n=L.length:=rfl;have M:Hid ((ja L).n=L.length):=C;have J:Hid ((ja L).n+1<=140737488355328):=by show(ja L).n+1<=_;rw[C];omega
   have K:Hid (((ja L).n+1)*64<=140737488355328):=by show((ja L).n+1)*64<=_;rw[C];omega
   obtain⟨X,N⟩:∃X,Hid (wr.alloc (.cells #[.int .i64 o.k,.int .i64 o.a,.int .i64 o.c,.int .i64 o.d,.string o.s,.string o.t] 28)=X):=⟨_,rfl⟩
   have G:Hid (ab [] wr X):=by show ab _ _ _;rw[<-N.out];exact(ab.refl [] _).alloc _
   have p:Hid (X.heap[wr.heap.size]?=some (.cells #[.int .i64 o.k,.int .i64 o.a,.int .i64 o.c,.int .i64 o.d,.string o.s,.string o.t] 28 (0,0))):=by show _=_;rw[<-N.out];exact QS _ _
   cases E:(o.k==19)
   ·have y:Hid (pj d o=o):=by show _=_;unfold pj;rw[QT (fun e=>by rw[e]at E;cases E)]
    rw[y.out]at q;obtain⟨U,S,b2,R,P,b5,B⟩:=cQ p.out;have h:=hI (O.out.Vb G.out);have x:=h.out.own
    go_upto_region 6 with fail
    rw[N.out];go_wp2_with (at_builtin;refine nk X rfl (.tmp 23) (.tmp 25) 22 rfl iX (.agg #[.int .i64 0,.int .i64 0,.int .i64 0,.int .i64 0,.string ⟨#[]⟩,.string ⟨#[]⟩]) 64 m (ja L) (Kj o) underlying22 H r u v rfl (show 0<6 by omega) (by rw[M.out];simp[Act.eval]) x J.out K.out (by simp[Act.eval]) rfl (Aq o) ?_;intro h5 w5 i j;rw[ja,gM]at i;have A:=hI (h.out.Vl j i);clear i j)
    go_roundg (f.length-(k+1))
    case measure=>omega
    case rel=>exact⟨k+1,h5,L++[o],by omega,rfl,by rw[Q0,z];rfl,by go_num,by rw[Q0];show _+1=_;omega,q,A⟩
   ·have y:Hid (pj d o={ o with d:=d }):=by show _=_;unfold pj;rw[QW (TR E)]
    rw[y.out]at q;obtain⟨Y,W⟩:∃Y,Hid (X.setCell ⟨wr.heap.size,3,none⟩ (.int .i64 d)=Y):=⟨_,rfl⟩
    have Z:Hid (ab [] wr Y):=by show ab _ _ _;rw[<-W.out];exact G.out.setCell (QV (QR _)) _
    have Q:Hid (Y.heap[wr.heap.size]?=some (.cells #[.int .i64 o.k,.int .i64 o.a,.int .i64 o.c,.int .i64 d,.string o.s,.string o.t] 28 (0,0))):=by show _=_;rw[<-W.out,ah p.out 3 _];rfl
    obtain⟨U,S,b2,R,P,b5,B⟩:=cQ p.out;have bf:=am p.out 3;have h:=hI (O.out.Vb Z.out);have x:=h.out.own
    go_upto_region 6 with fail
    rw[N.out]
    go_upto_region 8 with fail
    rw[W.out];clear U S b2 R P b5 B bf;obtain⟨U,S,b2,R,P,b5,B⟩:=cQ Q.out;go_wp2_with (at_builtin;refine nk Y rfl (.tmp 23) (.tmp 25) 22 rfl iX (.agg #[.int .i64 0,.int .i64 0,.int .i64 0,.int .i64 0,.string ⟨#[]⟩,.string ⟨#[]⟩]) 64 m (ja L) (Kj { o with d:=d }) underlying22 H r u v rfl (show 0<6 by omega) (by rw[M.out];simp[Act.eval]) x J.out K.out (by simp[Act.eval]) rfl (Aq _) ?_;intro h5 w5 i j;rw[ja,gM]at i;have A:=hI (h.out.Vl j i);clear i j)
    go_roundg (f.length-(k+1))
    case measure=>omega
    case rel=>exact⟨k+1,h5,L++[(⟨o.k,o.a,o.c,d,o.s,o.t⟩:pB)],by omega,rfl,by rw[Q0,z];rfl,by go_num,by rw[Q0];show _+1=_;omega,q,A⟩
  ·have e:k=f.length:=by omega
   subst e;have ad:¬(f.length:Int)<(f.length:Int):=by omega
   rw[RK]at T;have af:Hid (L.length=f.length):=z;go_wp2;go_ret;exact⟨m,rfl,by rw[<-T.out];exact O.out⟩
theorem aw.opsIn{l:List pB}(o:aw n x (ja l)):mx n x.ao l:=fun i c b=>by
 obtain⟨g,e,a,d⟩:=(aw.srcG (f:=Kj) o (fun _=>rfl)) i c b;exact⟨g,0,e,a,fun j u h=>by rw[SJ];exact d j u h⟩
theorem LO(b:qB i){o:pB}(h:AZ o):AZ (pj i o):=by
 unfold pj
 split
 ·exact⟨h.k,h.a,h.c,b,h.s,h.t⟩
 ·exact h
theorem Eh(b:List pB)(w:World)(s:b.length*64<=140737488351232)(p:mx w D b)(r:∀o∈b,AZ o) :
  Calls prog 4 #[.slice D b.length l] w fun e i=>e=.returned (.bool true)/\ab [] w i:=by
 have j:=hI (LP D l 12 b w s p);have x:=hI r;clear p r;go_enter func4,ntmps4
 go_upto_region 2 with (go_at_call 6;refine QU j.out ?_;rintro e d ⟨c,rfl,m⟩)
 have f:=hI m.kept
 have g:Hid (Calls prog 5 #[.slice c.ao b.length c.cap,.slice (some ⟨d.heap.size,0,none⟩) 2 2] (d.alloc (.cells #[.int .i64 12,.int .i64 19] 3)) fun e i=>e=.returned (.bool true)/\ab [] (d.alloc (.cells #[.int .i64 12,.int .i64 19] 3)) i):=by
  have:=Jh c.ao c.cap (b.map (pj 12)) [12,19] (some ⟨d.heap.size,0,none⟩) (d.alloc (.cells #[.int .i64 12,.int .i64 19] 3)) (by rw[Ri];omega) (m.own.opsIn.Vb ((ab.refl [] _).alloc _)) (fun o h=>by
   obtain⟨q,n,rfl⟩:=Si.1 h;exact LO ⟨by decide,by decide⟩ (x.out q n)) (xD.of (QS _ _)) (by decide) (fun o h a=>by
   obtain⟨q,n,rfl⟩:=Si.1 h;simp only[List.mem_cons,List.not_mem_nil,or_false]at a
   rcases a with a | a
   ·exact Q1 a
   ·refine QV ⟨a,?_⟩
    unfold pj at a ⊢
    by_cases e:q.k=19
    ·rw[QW e]
    ·rw[QT e]at a;exact absurd a e)
  rw[Ri]at this;exact this
 clear m;obtain⟨v,u⟩:=c;go_wp2_with (go_at_call 5;refine QU g.out ?_;rintro e y ⟨rfl,t⟩);go_ret;exact⟨rfl,(f.out.alloc _).trans t⟩
section
open Go.ChangeShapes Go.WideShapes Go.ChangeAt Go.RowKit
theorem own:ownKnob prog.godebug=none:=by kernel_rfl
theorem NG:laidOutB prog=true:=by kernel_rfl
theorem OP:prog.bytesOf 28=64:=by kernel_rfl
theorem KR:prog.cellsOf 28=6:=by kernel_rfl
theorem zK:prog.cellsOf 3=1:=by kernel_rfl
theorem F7:prog.cellsOf 9=1:=by kernel_rfl
theorem uO:prog.underlying 28=some (.struct (prog.fieldsOf 28)):=by kernel_rfl
theorem Nn:(prog.fieldsOf 28).toList.map (fun f=>(f.type,f.offset))=[(3,0),(3,1),(3,2),(3,3),(9,4),(9,5)]:=by kernel_rfl
theorem tT(h:[(3,0),(3,1),(3,2),(3,3),(9,4),(9,5)][N]?=some (b,l)):∃f,(prog.fieldsOf 28)[N]?=some f/\f.type=b/\f.offset=l:=by
 rw[<-Nn,List.getElem?_map,Array.getElem?_toList]at h
 cases e:(prog.fieldsOf 28)[N]? with
 | none=>rw[e]at h;cases h
 | some f=>rw[e]at h;simp at h;exact⟨f,rfl,h.1,h.2⟩
theorem Qh:(prog.fieldsOf 28).size=6:=by kernel_rfl
theorem FF{H:Type}(P:Program)(e:TypeId){L:List (DataW H)}{d:DataW H}(b:d∈L)(c:f∈DataW.weights P e d):f∈DataW.weightsAll P e L:=by
 induction L with
 | nil=>cases b
 | cons a r g =>
  rw[DataW.weightsAll,List.mem_append]
  rcases List.mem_cons.1 b with rfl | h
  ·exact Or.inl c
  ·exact Or.inr (g h)
theorem FY:(⟨N,b,none⟩:Addr).add l=⟨N,b+l,none⟩:=by
 simp only[Addr.add]
 split
 ·next h=>subst h;rfl
 ·rfl
theorem NR{H:Type}{l:TypeId×Value->H}{j:List Value}{x:DataW H×List MemPlace}(h:DataW.trod l prog n 0 (fun _=>true) true f 28 j=some x) :
  ∃o:pB,j=Kj o/\(qB o.k/\qB o.a/\qB o.c/\qB o.d)/\o.s.data.toList.length∈DataW.weights prog 28 x.1/\o.t.data.toList.length∈DataW.weights prog 28 x.1:=by
 obtain⟨K,m,-,rfl,e,g,b⟩:=DataW.trod_struct uO h;rw[KR]at e;rw[Qh]at g
 match j,e,K,g with
 | [v0,v1,v2,v3,v4,v5],_,[y0,y1,y2,y3,y4,y5],_ =>
  obtain⟨f0,e0,W,T⟩:=tT 0 _ _ rfl;obtain⟨f1,e1,t1,Z⟩:=tT 1 _ _ rfl;obtain⟨f2,X,t2,M⟩:=tT 2 _ _ rfl;obtain⟨f3,U,t3,q3⟩:=tT 3 _ _ rfl;obtain⟨f4,P,t4,N⟩:=tT 4 _ _ rfl;obtain⟨Q,V,L,S⟩:=tT 5 _ _ rfl;have E:=b 0 f0 e0;have B:=b 1 f1 e1;have I:=b 2 f2 X;have J:=b 3 f3 U;have w:=b 4 f4 P;have y:=b 5 Q V;rw[W,T,zK]at E;rw[t1,Z,zK]at B;rw[t2,M,zK]at I;rw[t3,q3,zK]at J;rw[t4,N,F7]at w;rw[L,S,F7]at y;obtain⟨n0,z,i,w0⟩:=DataW.trod_int underlying3 E;obtain⟨R,D,v,Y⟩:=DataW.trod_int underlying3 B;obtain⟨n2,G,p,w2⟩:=DataW.trod_int underlying3 I;obtain⟨n3,A,u,O⟩:=DataW.trod_int underlying3 J;obtain⟨s4,C,q,-⟩:=DataW.trod_string underlying9 w;obtain⟨s5,F,r,-⟩:=DataW.trod_string underlying9 y;simp at z D G A C F i v p u q r;refine⟨⟨n0,R,n2,n3,s4,s5⟩,?_,⟨bounds_i64 w0,bounds_i64 Y,bounds_i64 w2,bounds_i64 O⟩,?_,?_⟩
  ·rw[z,D,G,A,C,F];rfl
  ·rw[i,v,p,u,q,r]
   simp[DataW.weights,DataW.weightsEach]
  ·rw[i,v,p,u,q,r]
   simp[DataW.weights,DataW.weightsEach]
theorem Pn{H:Type}{I:TypeId×Value->H}{N:DataW H}{p0:List MemPlace}{T:List TypeId}{O:List (DataW H)}(h0:DataW.Trod I prog n 0 (fun _=>true) true 22 (.slice g f S) N p0)(x:(DataW.weightsEach prog T O).all (·<=reachBytes)=true)(P:T[0]?=some 22)(Q:O[0]?=some N) :
  ∃l:List pB,l.length=f/\f*64<=140737488351232/\(∀o∈l,AZ o)/\mx n g l:=by
 obtain⟨R,hf⟩:=h0
 rcases Go.Deep.open_slice underlying22 hf with ⟨d,_⟩ | ⟨a,ac,af,m,ai,D,Pl,d,-,Y,ag,W,U,v⟩
 ·simp[Value.cells]at d
  obtain⟨rfl,rfl,rfl⟩:=d;exact⟨[],rfl,by omega,(fun o A=>by cases A),fun i o c=>by cases c⟩
 ·simp[Value.cells]at d
  obtain⟨rfl,rfl,rfl⟩:=d;simp only[if_true]at W;have ad:f<=m:=by omega
  simp only[Prod.mk.injEq]at U;obtain⟨rfl,-⟩:=U;have B:=sized_slice x (j:=0) P Q underlying22;rw[OP]at B;simp only[List.length_map,List.length_range,reachBytes]at B
  have k:∀i,i<f->∃o:pB,AZ o/\∀(j:Nat) u,(Kj o)[j]?=some u->n.cell? ((a.add (i*6)).add j)=some u:=fun i c=>by
   obtain⟨cs,C,Z⟩:=v i (by omega);rw[KR]at C;obtain⟨-,hl,G⟩:=World.cells?_some C;obtain⟨o,A,⟨r0,r1,r2,r3⟩,V,X⟩:=NR Z
   have z:∀q,q∈DataW.weights prog 28 (D i)->q<=140737488351232:=fun q hq=>by
    have M:q∈DataW.weights prog 22 (.slice ((List.range f).map D) ((List.range (m-f)).map fun j=>D (f+j)):DataW H):=by
     simp only[DataW.weights,underlying22];exact List.mem_cons_of_mem _ (List.mem_append_left _ (FF prog _ (List.mem_map.2 ⟨i,List.mem_range.2 c,rfl⟩) hq))
    have:=List.all_eq_true.1 x _ (DataW.weights_mem_each (j:=0) P Q _ M);have p:q<=reachBytes:=by simpa using this
    simpa only [reachBytes] using p
   refine⟨o,⟨r0,r1,r2,r3,z _ V,z _ X⟩,fun j u F=>?_⟩;have L:j<6:=(List.getElem?_eq_some_iff.1 F).1;rw[G j L,A];exact F
  have r:Nonempty pB:=⟨⟨0,0,0,0,⟨#[]⟩,⟨#[]⟩⟩⟩
  have K:∃E:Nat->pB,∀i,i<f->AZ (E i)/\∀(j:Nat) u,(Kj (E i))[j]?=some u->n.cell? ((a.add (i*6)).add j)=some u:=by
   classical
   refine⟨fun i=>if c:i<f then Classical.choose (k i c) else Classical.choice r,fun i c=>?_⟩;simp only[dif_pos c];exact Classical.choose_spec (k i c)
  obtain⟨E,s⟩:=K;refine⟨(List.range f).map E,by simp,by omega,fun o A=>?_,fun i o c=>?_⟩
  ·obtain⟨i,C,rfl⟩:=List.mem_map.1 A
   exact(s i (List.mem_range.1 C)).1
  ·rw[List.getElem?_map]at c
   have y:i<f:=by
    rcases Nat.lt_or_ge i f with h | h
    ·exact h
    ·rw[List.getElem?_eq_none (by simp;exact h)]at c;cases c
   rw[List.getElem?_range y]at c
   cases c
   have G:=(s i y).2;obtain⟨b,J,w⟩:=a;have e:=G 0 _ rfl;have t:w=none:=by simpa [Addr.add] using World.cell?_spot ((s 0 (by omega)).2 0 _ rfl)
   subst t;refine⟨b,J,rfl,?_,fun j u F=>?_⟩
   ·rw[FY,FY]at e
    unfold World.cell? at e
    split at e
    ·next hh=>exact ae hh
    ·cases e
   ·have:=G j u F
    rw[FY,FY]at this;exact this
end
end Go.Proofs.YtpddjjabfbfifaaGreat
