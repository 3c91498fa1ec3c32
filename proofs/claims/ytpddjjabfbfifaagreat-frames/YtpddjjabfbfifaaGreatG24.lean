import Derived.Test.YtpddjjabfbfifaaGreatRows
import Derived.Deep.Slices
import Derived.ProofKit
import Derived.OpenShut
import Derived.ShutString
import Derived.ChangeOld
import Derived.Below
import Derived.SizedLaws
import Derived.Test.YtpddjjabfbfifaaGreatG23
namespace Go.Proofs.YtpddjjabfbfifaaGreat
open Go.RowKit Tryz
set_option maxRecDepth 100000
set_option maxHeartbeats 40000000
variable{n d:World}{z0:Option Addr}{o:Option Nat}{a:List ByteArray}{f S v:Nat}{y:Nat×Nat->It}{k:Mc}{x I:Hd}{M:List Int}{i:Int}{N:Type}(g:Nat)(D:Option Addr)(b l:Nat)(L:World)(H:Nat×Nat->It)(w:Mc)(T:Hd)
structure pA where
 k:Int
 a:Int
 c:Int
 d:Int
 s:ByteArray
 t:ByteArray
def Kh(o:pA):List Value:=[.int .i64 o.k,.int .i64 o.a,.int .i64 o.c,.int .i64 o.d,.string o.s,.string o.t]
def ja(L:List pA):dN:=kT 28 6 Kh L
theorem Ls:(prog.info? 28).map (fun i=>(i.zero,i.size,i.bytes))=some (some (.agg #[.int .i64 0,.int .i64 0,.int .i64 0,.int .i64 0,.string ⟨#[]⟩,.string ⟨#[]⟩]),6,64):=by kernel_rfl
theorem Ao(o:pA):∀u∈Kh o,u.oneCell'=true:=by
 intro u a;simp only[Kh,Ri,RN,SO]at a
 rcases a with rfl | rfl | rfl | rfl | rfl | rfl <;> rfl
structure M0(o:pA):Prop where
 a:qA o.a
 c:qA o.c
 d:qA o.d
 s:o.s.size<=1073741824
 t:o.t.size<=1073741824
 k:(1<=o.k/\o.k<=10)∨(15<=o.k/\o.k<=18)∨o.k=12∨(o.k=19/\o.d=12)
def mw(w:World)(ao:Option Addr)(l:List pA):Prop:=∀(i:Nat) (o:pA),l[i]?=some o->∃b off,ao=some ⟨b,off,none⟩/\b<w.heap.size/\∀(j:Nat) u,(Kh o)[j]?=some u->w.cell? ⟨b,off+i*6+j,none⟩=some u
theorem mw.Va{l:List pA}(h:mw n z0 l)(k:ab [] n d):mw d z0 l:=by
 intro i o m;obtain⟨b,a,e,c,f⟩:=h i o m;exact⟨b,a,e,QW c k.size,fun j u g=>by rw[Q5 (k.block b c (by simp))];exact f j u g⟩
structure AW(o:pA):Prop where
 k:qA o.k
 a:qA o.a
 c:qA o.c
 d:qA o.d
 s:o.s.size<=140737488351232
 t:o.t.size<=140737488351232
def lS(l:List pA)(k:Nat):pA:=l.getD k ⟨0,0,0,0,⟨#[]⟩,⟨#[]⟩⟩
theorem lT(l:List pA)(k:Nat)(h:k<l.length):l[k]?=some (lS l k):=by
 unfold lS;rw[QP,QO h];rfl
def OH(l:List pA)(w:World)(e:Ending)(w':World):Prop:=(∃r,e=.returned (.bool r)/\(r=true->l.length<=1073741824/\∀i,i<l.length->(lS l i).s.size<=1073741824/\(lS l i).t.size<=1073741824))/\ab [] w w'
theorem Ff(a:List pA)(w:World)(P:a.length<=140737488351232)(j:mw w D a)(r:∀o∈a,AW o) :
  Calls prog 7 #[.slice D a.length l] w fun e J=>OH a w e J:=by
 have M:Hid (mw w D a):=j;have v:=hI r;clear j r
 by_cases Q:1073741824<a.length
 ·have q:(1073741824:Int)<(a.length:Int):=by omega
  go_enter func7,ntmps7;go_wp2;go_ret;exact⟨⟨false,rfl,by simp⟩,ab.refl _ _⟩
 ·have q:¬(1073741824:Int)<(a.length:Int):=by omega
  go_enter func7,ntmps7;go_wp2
  go_loopg [3,4] a.length (fun g m i wr=>∃(k:Nat) (z:Int),k<=a.length/\g=a.length-k/\i=.int .i64 k/\m=.int .i64 z/\Hid (∀i,i<k->(lS a i).s.size<=1073741824/\(lS a i).t.size<=1073741824)/\0<=z/\z<=1073741824/\Hid (ab [] w wr))
  case atStart=>exact⟨0,a.length,by omega,by omega,rfl,rfl,fun i h=>by omega,by omega,by omega,ab.refl _ _⟩
  case round =>
   obtain⟨k,z,O,R,rfl,rfl,x,A,H,n⟩:=hrel
   by_cases c:k<a.length
   ·have L:(k:Int)<(a.length:Int):=by omega
    obtain⟨b,N,rfl,S,p⟩:=(mw.Va M.out n.out) k _ (lT a k c);have B:=p 4 _ rfl;have F:=p 5 _ rfl;have K:=(v.out (lS a k) (R2 (lT a k c))).s;have E:=(v.out (lS a k) (R2 (lT a k c))).t;obtain⟨o,u⟩:∃o,Hid (lS a k=o):=⟨_,rfl⟩
    rw[u.out]at B F K E;clear p;have G:(o.s.size:Int)<=140737488351232:=by omega
    have C:(o.t.size:Int)<=140737488351232:=by omega
    by_cases I:(1073741824:Int)<z+o.s.size+o.t.size
    ·go_upto_region 7 with fail
     go_quiet (fail)
     have f:Hid (ab [] w (wr.drewN nq)):=n.out.drewN nq;go_wp2;go_ret;exact⟨⟨false,rfl,by simp⟩,f.out⟩
    ·have d:Hid (∀i,i<k+1->(lS a i).s.size<=1073741824/\(lS a i).t.size<=1073741824):=fun i j=>by
      by_cases e:i=k
      ·rw[e,u.out];omega
      ·exact x.out i (by omega)
     go_upto_region 7 with fail
     go_quiet (fail)
     have f:Hid (ab [] w (wr.drewN nq)):=n.out.drewN nq;go_wp2
     go_roundg (a.length-(k+1))
     case measure=>omega
     case rel=>exact⟨k+1,z+o.s.size+o.t.size,by omega,rfl,by go_num,rfl,d,by omega,by omega,f⟩
   ·have y:¬(k:Int)<(a.length:Int):=by omega
    have d:Hid (∀i,i<a.length->(lS a i).s.size<=1073741824/\(lS a i).t.size<=1073741824):=fun i j=>x.out i (by omega)
    go_wp2;go_ret;exact⟨⟨true,rfl,fun _=>⟨by omega,d.out⟩⟩,n.out⟩
theorem qT(c:Option Addr)(s q:Nat)(L:List ByteArray)(w:World)(f:ge w D L)(j:ge w c L)(y:L.length<=4294967296) :
  Calls prog 25 #[.slice D L.length s,.slice c L.length q] w fun e o=>e=.returned (.bool true)/\∃n,o=w.drewN n:=by
 have m:Hid (ge w D L):=f;have p:Hid (ge w c L):=j;clear f j;go_enter func25,ntmps25;go_wp2
 go_loopg [5] L.length (fun g i wr=>∃k:Nat,k<=L.length/\g=L.length-k/\i=.int .i64 k/\Hid (∃n,wr=w.drewN n))
 case atStart=>exact⟨0,by omega,by omega,rfl,0,rfl⟩
 case round =>
  obtain⟨k,t,C,rfl,b⟩:=hrel;have h:Hid (ab [] w wr):=by show ab _ _ _;obtain⟨n,e⟩:=b.out;rw[e];exact(ab.refl [] w).drewN n
  by_cases a:k<L.length
  ·have r:(k:Int)<(L.length:Int):=by omega
   obtain⟨u,rfl,v,B⟩:=(ge.Va m.out h.out) k _ (QO a);obtain⟨F,rfl,A,z⟩:=(ge.Va p.out h.out) k _ (QO a);generalize L[k]=x at *;have E:(x.toList==x.toList)=true:=UP _
   go_upto_region 6 with fail
   go_quiet (fail)
   have d:Hid (∃n,wr.drewN nq=w.drewN n):=by show ∃_,_;obtain⟨n,e⟩:=b.out;exact⟨n+nq,by rw[e,Ue]⟩
   go_wp2
   go_roundg (L.length-(k+1))
   case measure=>omega
   case rel=>exact⟨k+1,by omega,rfl,by go_num,d⟩
  ·have l:¬(k:Int)<(L.length:Int):=by omega
   go_wp2;go_ret;exact⟨rfl,b.out⟩
def Iv(bo:Option Nat)(L:List ByteArray):It where
 B:=bo.toList
 P w:=vE w bo L
 lt w a q hq:=by
  cases bo with
  | none=>cases hq
  | some b=>rw[UH,Q8]at hq;rw[hq];exact ae (a.blk b rfl)
 ok S w w' a k hb:=⟨a.nil,fun b e=>k.get (a.blk b e) (hb b (by rw[e];simp))⟩
theorem vE.srcX(h:vE n o a):ge n (wC o) a:=by
 intro k x c
 cases o with
 | none=>rw[h.nil.1 rfl]at c;cases c
 | some b =>
  have d:=h.blk b rfl;exact⟨b,rfl,ae d,by rw[aa d];simp[cN,c]⟩
abbrev Tx:=Option Nat×Hd×List ByteArray
def MM(t:Tx):List Value:=[.slice (wC t.1) t.2.2.length t.2.2.length,.slice t.2.1.ao t.2.2.length t.2.1.cap]
def mb(TS:List Tx):dN:=kT 63 2 MM TS
structure QE(I:Nat×Nat->It)(tv:Value)(ht:Hd)(TS:List Tx)(N:Nat):Prop where
 e:tv=.slice ht.ao TS.length ht.cap
 r:I (11,0)=ce ht (mb TS)
 l:∀k bo h L,TS[k]?=some (bo,h,L)->I (12,k)=Iv bo L/\I (13,k)=ce h (aB L)/\L.length<=900000000
 n:TS.length<=N
structure cM(w:World)(b:Nat)(I:Nat×Nat->It)(M:Mc)(ht:Hd)(TS:List Tx)(N:Nat):Prop where
 m:bZ w b I M N
 q:M.qv=.slice none 0 0
 t:QE I M.tv ht TS N
theorem cM.Va{a:List Tx}(h:cM n f y k x a S)(b:ab [] n d):cM d f y k x a S:=⟨h.m.Va b,h.q,h.t⟩
theorem cM.more{a:List Tx}(h:cM n f y k x a S):cM n f y k x a (S+1):=⟨h.m.more,h.q,{ h.t with n:=UJ h.t.n }⟩
def qL(b:Nat)(I:Nat×Nat->It)(N:Nat)(e:Ending)(w':World):Prop:=e=.returned (.bool true)/\∃I' M' ht' TS',cM w' b I' M' ht' TS' (N+1)/\I' (10,0)=I (10,0)
theorem cM.up{c:List Tx}{e:Ending}(h:cM n f y k x c S)(s:iB f y k S true e d):qL f y S e d:=by
 obtain⟨o,u,p,i,a⟩:=s;refine⟨o,u,p,x,c,⟨i,a.q.trans h.q,⟨a.t.trans h.t.e,(a.k 11 0 (by decide)).trans h.t.r,fun b m g L j=>?_,UJ h.t.n⟩⟩,a.k 10 0 (QQ _)⟩;rw[a.k 12 b (by decide),a.k 13 b (by decide)];exact h.t.l b m g L j
theorem cM.rowOwn{a:List Tx}(h:cM n f y k x a S):aw n x (mb a):=by have:=h.m.sep.all (11,0);rw[h.t.r]at this;exact this
theorem cM.c16{a:List Tx}(h:cM n f y k x a S):n.cell? ⟨f,16,none⟩=some (.slice x.ao a.length x.cap):=by rw[aa h.m.blk,<-h.t.e];rfl
theorem cM.at_{d:List Tx}(h:cM n f y k x d S)(s:v<d.length):∃b a L g,d[v]?=some (b,a,L)/\(x.ao=some ⟨g,0,none⟩/\g<n.heap.size/\n.cell? ⟨g,v*2,none⟩=some (.slice (wC b) L.length L.length)/\n.cell? ⟨g,v*2+1,none⟩=some (.slice a.ao L.length a.cap))/\vE n b L/\aw n a (aB L)/\L.length<=900000000:=by
 obtain⟨⟨b,a,L⟩,e⟩:∃q,d[v]?=some q:=⟨d[v],QO s⟩
 obtain⟨g,u,z,c⟩:=(aw.srcG (f:=MM) h.rowOwn (fun _=>rfl)) v _ e;obtain⟨p,o,r⟩:=h.t.l v b a L e;have j:=h.m.sep.all (12,v);have i:=h.m.sep.all (13,v);rw[p]at j;rw[o]at i;exact⟨b,a,L,g,e,⟨u,z,c 0 _ rfl,c 1 _ rfl⟩,j,i,r⟩
theorem II(o:List Tx)(j:World)(h:cM j b H w T o l)(hN:l<=1073741825) :
  Calls prog 10 #[.pointer (some ⟨b,0,none⟩)] j fun e B=>e=.returned (.bool true)/\ab [] j B:=by
 have HT:Hid (cM j b H w T o l):=h;have HM:Hid (bZ j b H w l):=h.m;have G:=ae h.m.blk;have al:j.cell? ⟨b,15,none⟩=some (.slice none 0 0):=by rw[aa h.m.blk,<-h.q];rfl
 have ac:=h.m.len.2.2;have ag:=h.t.n;clear h;go_enter func10,ntmps10;go_wp2
 go_loopg [3] 0 (fun g i wr=>g=0/\i=.int .i64 0/\j=wr)
 case atStart=>exact⟨rfl,rfl,rfl⟩
 case round =>
  obtain⟨M,rfl,rfl⟩:=hrel;go_wp2
  go_loopg [5] o.length (fun g i wr=>∃k:Nat,k<=o.length/\g=o.length-k/\i=.int .i64 k/\Hid (ab [] j wr))
  case atStart=>exact⟨0,by omega,rfl,rfl,ab.refl _ _⟩
  case round =>
   obtain⟨k,X,ad,rfl,r⟩:=hrel;have u:Hid (cM wr b H w T o l):=HT.out.Va r.out;have O:=u.out.c16;clear G;have G:=ae u.out.m.blk
   by_cases s:k<o.length
   ·obtain⟨P,J,L,g,-,⟨M,V,g0,g1⟩,Q,S,hl⟩:=u.out.at_ s
    rw[M]at O;have v:Hid (∀n,Calls prog 25 #[.slice (wC P) L.length L.length,.slice J.ao L.length J.cap] (wr.drewN n) fun e B=>e=.returned (.bool true)/\∃m,B=(wr.drewN n).drewN m):=fun n=>qT (wC P) J.ao _ _ L (wr.drewN n) (ge.Va Q.srcX ((ab.refl [] _).drewN n)) (ge.Va S.srcX ((ab.refl [] _).drewN n)) (by omega)
    have N:(k:Int)<(o.length:Int):=by omega
    clear Q S M
    go_upto_region 10 with fail
    go_quiet ((go_at_call 25;exact UE (v.out _)))
    have y:Hid (ab [] j (wr.drewN nq)):=r.out.drewN nq;go_wp2
    go_roundg (o.length-(k+1))
    case measure=>omega
    case rel=>exact⟨k+1,by omega,rfl,by go_num,y⟩
   ·have I:¬(k:Int)<(o.length:Int):=by omega
    have K:=hI r.out;clear r;go_wp2
    go_loopg [7] w.L.length (fun g i wr=>∃k:Nat,k<=w.L.length/\g=w.L.length-k/\i=.int .i64 k/\Hid (ab [] j wr))
    case atStart=>exact⟨0,by omega,rfl,rfl,K⟩
    case round =>
     obtain⟨k,X,ai,rfl,r⟩:=hrel;have d:Hid (bZ wr b H w l):=HM.out.Va r.out;have c3:wr.cell? ⟨b,3,none⟩=some (.slice w.hl.ao w.L.length w.hl.cap):=by rw[aa d.out.blk];rfl
     have Y:wr.cell? ⟨b,4,none⟩=some (.slice w.hc.ao w.L.length w.hc.cap):=by rw[aa d.out.blk];rfl
     clear G;have G:=ae d.out.blk
     by_cases s:k<w.L.length
     ·obtain⟨⟨a,c,f⟩,p⟩:∃x,w.L[k]?=some x:=⟨w.L[k],QO s⟩
      obtain⟨D,z,-,af⟩:=d.out.l k a c f p;obtain⟨Z,C,V,U⟩:=nZ d.out.ownL (k:=k) (x:=(a,f)) (by rw[Rp,p];rfl);obtain⟨W,A,rz,R⟩:=nZ d.out.ownC (k:=k) (x:=(c,f)) (by rw[Rp,p];rfl);replace U:wr.cell? ⟨Z,k,none⟩=some (.slice (wC a) f.length f.length):=U;replace R:wr.cell? ⟨W,k,none⟩=some (.slice (wC c) f.length f.length):=R;rw[C]at c3;rw[A]at Y;have F:iG wr a f:=by have:=d.out.sep.all (8,k);rw[D]at this;exact this
      have E:iG wr c f:=by have:=d.out.sep.all (9,k);rw[z]at this;exact this
      have v:Hid (∀n,Calls prog 26 #[.slice (wC a) f.length f.length,.slice (wC c) f.length f.length] (wr.drewN n) fun e B=>e=.returned (.bool true)/\∃m,B=(wr.drewN n).drewN m):=fun n=>nB (wC a) (wC c) _ _ f (wr.drewN n) (kQ.kept F.src ((ab.refl [] _).drewN n) (by simp)) (kQ.kept E.src ((ab.refl [] _).drewN n) (by simp)) (by omega)
      have N:(k:Int)<(w.L.length:Int):=by omega
      clear p D z C A F E
      go_upto_region 16 with fail
      go_quiet ((go_at_call 26;exact UE (v.out _)))
      have y:Hid (ab [] j (wr.drewN nq)):=r.out.drewN nq;go_wp2
      go_roundg (w.L.length-(k+1))
      case measure=>omega
      case rel=>exact⟨k+1,by omega,rfl,by go_num,y⟩
     ·have I:¬(k:Int)<(w.L.length:Int):=by omega
      go_wp2;go_ret;exact⟨rfl,r.out⟩
theorem O0:(prog.info? 63).map (fun i=>(i.zero,i.size,i.bytes))=some (some (.agg #[.slice none 0 0,.slice none 0 0]),2,48):=by kernel_rfl
theorem Qp(t:Tx):∀u∈MM t,u.oneCell'=true:=by
 intro u a;simp only[MM,Ri,RN,SO]at a
 rcases a with rfl | rfl <;> rfl
theorem bZ.retv{b:Nat×Nat->It}(h:bZ n f y k S)(s:nI d b)(v:Value)(o:b (0,0)=rA f 42 ({ k with tv:=v }:Mc).cells)(a:∀j i,0<j->j<10->b (j,i)=y (j,i)):bZ d f b { k with tv:=v } S:={
 sep:=s
 w0:=o
 x:=by rw[a 1 0 (by decide) (by decide)];exact h.x
 m:=by rw[a 2 0 (by decide) (by decide)];exact h.m
 r:=by rw[a 3 0 (by decide) (by decide)];exact h.r
 ls:=by rw[a 4 0 (by decide) (by decide)];exact h.ls
 lw:=by rw[a 5 0 (by decide) (by decide)];exact h.lw
 v:=fun i x m c e=>by rw[a 6 i (by decide) (by decide),a 7 i (by decide) (by decide)];exact h.v i x m c e
 l:=fun i x m c e=>by rw[a 8 i (by decide) (by decide),a 9 i (by decide) (by decide)];exact h.l i x m c e
 fit:=h.fit
 len:=h.len
 rng:=h.rng }
theorem rO{i:Nat}{a:It}(c:10<=f)(b:v<10):fk y (f,S) a (v,i)=y (v,i):=aq _ _ (bn (by omega))
theorem cM.lay{b:List Tx}(h:cM n f y k x b S)(c:It)(D:v=12∨v=13)(u:ab [] n d)(o:c.P d)(C:∀q,q∈c.B->n.heap.size<=q):cM d f (fk y (v,b.length) c) k x b S:=by
 have a:10<=v:=by omega
 have s:=h.m.sep.put (v,b.length) c (u.mono (by simp)) o (fun q A=>QU (C q A));have m:bZ d f (fk y (v,b.length) c) k S:=h.m.retv s k.tv (by rw[rO a (by decide)];exact h.m.w0) (fun j i _ g=>rO a g);refine⟨m,h.q,⟨h.t.e,by rw[aq _ _ (bn (by omega))];exact h.t.r,fun j p w L g=>?_,h.t.n⟩⟩;have z:=(Q7.1 g).1;rw[aq _ _ (rB (by omega)),aq _ _ (rB (by omega))];exact h.t.l j p w L g
theorem cM.add{b:List Tx}{u:Hd}(h:cM n f y k x b S)(C:y (12,b.length)=Iv o a)(w:y (13,b.length)=ce u (aB a))(G:a.length<=900000000)(g:bt n d x I)(E:aw d I (mb (b++[(o,u,a)]))) :
  ∃D F B z,cM (d.setCell ⟨f,16,none⟩ (.slice I.ao (b.length+1) I.cap)) f D F B z (S+1)/\D (10,0)=y (10,0):=by
 have s:=h.m.sep.grown h.m.w0 (bn (by decide)) h.t.r g E 16 (.slice I.ao (b.length+1) I.cap);have m:=(h.m.retv s (.slice I.ao (b.length+1) I.cap) (bJ _ _ _) (fun j i L H=>by rw[aq _ _ (bn (by omega)),rO (by decide) H])).more;have q:∀p i,11<p->fk (fk y (11,0) (ce I (mb (b++[(o,u,a)])))) (0,0) (rA f 42 (k.cells.set 16 (.slice I.ao (b.length+1) I.cap))) (p,i)=y (p,i):=fun p i M=>by rw[aq _ _ (bn (by omega)),aq _ _ (bn (by omega))]
 refine⟨_,_,I,b++[(o,u,a)],⟨m,h.q,⟨by rw[QZ];rfl,by rw[aq _ _ (bn (by decide))];exact bJ _ _ _,fun j A v K c=>?_,?_⟩⟩,?_⟩
 ·rw[q 12 j (by decide),q 13 j (by decide)]
  by_cases e:j<b.length
  ·rw[Q6 e]at c
   exact h.t.l j A v K c
  ·have J:j=b.length:=by
    have:=(Q7.1 c).1;rw[QZ]at this;have:j<b.length+1:=this;omega
   subst J;rw[Q4 (QQ _),RV]at c
   cases c
   exact⟨C,w,G⟩
 ·have:=h.t.n
  rw[QZ];show _+1<=_;omega
 ·rw[aq _ _ (bn (by decide)),aq _ _ (bn (by decide))]
theorem Ix(c:List Tx)(o:Option Nat)(v:Hd)(L:List ByteArray)(y:World)(h:cM y b H w T c l)(hN:l<=1073741824)(E:H (12,c.length)=Iv o L)(hO:aw y v (aB L))(hl:L.length<=900000000) :
  Calls prog 41 #[.pointer (some ⟨b,0,none⟩),.slice (wC o) L.length L.length,.slice v.ao L.length v.cap] y fun e w'=>qL b H l e w':=by
 have hX:vE y o L:=by have:=h.m.sep.all (12,c.length);rw[E]at this;exact this
 have O:=hI (qT (wC o) v.ao L.length v.cap L y hX.srcX hO.srcX (by omega));have HM:Hid (cM y b H w T c l):=h;have a5:=hI E;have a6:=hI hX.nil;have HO:Hid (aw y v (aB L)):=hO;obtain⟨iS,aS,K,Y,W⟩:=Rd js;obtain⟨iT,a4,F,N,af⟩:=Rd O0;have ba:=h.t.n
 have D:Hid (v.ao=none->L.length=0/\v.cap=0):=fun e=>by
  rcases hO.ways with ⟨s,e2,e3⟩ | ⟨g,a2,s,-⟩
  ·exact⟨e2,by rw[s]⟩
  ·rw[e]at s;cases s
 have M:Hid (∀u∈cN L,u.oneCell'=true):=fun u hu=>by
  obtain⟨x,-,rfl⟩:=Sh.1 hu;rfl
 have Z:Hid ((cN L).length=L.length*1):=by show _=_;rw[cN,Rh,UY]
 have i:(L.length=0/\wC o=none)∨L.length≠0:=by
  by_cases e:L=[]
  ·exact Q0 ⟨by rw[e];rfl,by rw[hX.nil.2 e];rfl⟩
  ·exact QU (fun e2=>e (Uc.1 e2))
 have ax:∀w',aw w' ⟨none,0⟩ (aB []):=fun w'=>QY _ _ _ _
 have an:Hid ((mb c).n<=4294967296):=by show c.length<=_;omega
 have Q:Hid ((mb c).n=c.length):=rfl;have az:Hid ((⟨(aB []).e,(aB []).size,(aB []).n+L.length,(aB []).xs++cN L⟩:dN)=aB L):=by show dN.mk _ _ (0+L.length) ([]++cN L)=_;rw[SG];rfl
 have ai:Hid ((aB []).n+L.length<=1000000000):=by show 0+L.length<=_;omega
 have a1:Hid ((aB []).n+L.length=L.length):=SG _;clear h hX E
 have d:((((L.length:Int)==0)=true/\wC o=none))∨((L.length:Int)==0)=false:=by
  rcases i with ⟨h0,hn⟩ | h0
  ·exact Q0 ⟨by rw[h0];rfl,hn⟩
  ·exact QU (Rg.2 (by omega))
 clear i;obtain⟨ra,I⟩:∃ra,Hid (wC o=ra):=⟨_,rfl⟩
 rw[I.out]at O d ⊢;have ar:Hid (∀f:Hd,MM (o,f,L)=[.slice ra L.length L.length,.slice f.ao L.length f.cap]):=fun f=>by rw[<-I.out];rfl
 obtain⟨k,A⟩:=v
 rcases d with ⟨h0,rfl⟩ | h0
 all_goals
  go_enter func41,ntmps41
  go_upto_region 2 with (go_at_call 25;refine QT O.out ?_;rintro e w1 ⟨rfl,n1,J⟩;have ac:Hid (ab [] y w1):=(by show ab _ _ _;rw[J];exact(ab.refl [] _).drewN n1);clear J)
  have P:Hid (aw w1 ⟨k,A⟩ (aB L)):=HO.out.Va ac.out
  have a3:Hid (∀ad,k=some ad->∀j u,(cN L)[j]?=some u->w1.cell? (ad.add j)=some u):=fun ad e j u hj=>by
   rcases P.out.ways with ⟨s,-,-⟩ | ⟨g,a2,s,e2,-⟩
   ·rw[show k=none from congrArg Hd.ao s]at e;cases e
   ·rw[show k=some ⟨g,0,none⟩ from s]at e
    cases e
    rw[bL];exact(P.out.cell s j u hj)
  go_upto_region 4 with fail
  go_upto_region 5 with (at_builtin;refine ed _ rfl (.const (.slice none 0 0)) (.tmp 30) 61 rfl iS (.string ⟨#[]⟩) 16 ⟨none,0⟩ (aB []) underlying61 aS K Y W rfl Rb rfl (ax _) k L.length A (cN L) rfl Z.out D.out a3.out M.out ai.out (by omega) ?_;intro f w5 B C;rw[az.out]at B;rw[a1.out])
  have al:Hid (ab [] w1 w5):=C.kept.mono (by simp[Hd.blk])
  have a:=(show Hid _ from(HM.out.Va ac.out).lay (ce f (aB L)) (QU rfl) al.out B (fun q z=>by
   have z:=aN z
   rcases C.blk with e | ⟨g,e,hg⟩
   ·rw[e]at z;cases z
   ·rw[e]at z;cases z;exact hg))
  have U:Hid (fk H (13,c.length) (ce f (aB L)) (12,c.length)=Iv o L):=by show _=_;rw[aq _ _ (bn (by decide))];exact a5.out
  have S:=hI (bJ H (13,c.length) (ce f (aB L)));have G:Hid (fk H (13,c.length) (ce f (aB L)) (10,0)=H (10,0)):=by show _=_;rw[aq _ _ (bn (by decide))]
  clear B C;generalize fk H (13,c.length) (ce f (aB L))=I5 at *;have a7:=a.out.c16;have bz:=ae a.out.m.blk;have fb:=am a.out.m.blk;have aT:=a.out.rowOwn;have X:Hid (b∉T.blk.toList):=fun z=>a.out.m.sep.far (0,0) (11,0) (bn (by decide)) b (by rw[a.out.m.w0];exact Q8.2 rfl) (by rw[a.out.t.r];exact z)
  obtain⟨R,ag⟩:=f;go_wp2_with (at_builtin;refine cZ w5 rfl (.tmp 36) (.tmp 40) 40 rfl iT (.agg #[.slice none 0 0,.slice none 0 0]) 48 T (mb c) [.slice _ L.length L.length,.slice R L.length ag] underlying40 a4 F N af rfl Up (by rw[Q.out];simp[Act.eval]) aT an.out (by omega) (by simp[Act.eval]) rfl (by intro u hu;simp only[Ri,RN,SO]at hu;rcases hu with rfl | rfl <;> rfl) ?_;intro h7 w7 p V;replace p:aw w7 h7 ⟨(mb c).e,(mb c).size,(mb c).n+1,(mb c).xs++MM (o,⟨R,ag⟩,L)⟩:=(by rw[ar.out];exact p);rw[mb,gM]at p;have p7:=V.kept.get a.out.m.blk X.out;have f7:=am p7;have c7:w7.cell? ⟨b,16,none⟩=some (.slice T.ao c.length T.cap):=(by rw[aa p7,<-a.out.t.e];rfl);have z7:=ae p7;have HF:=hI (a.out.add U.out S.out hl V p);rw[Q.out]);go_ret;obtain⟨I',M',a0,ap,q1,q2⟩:=HF.out;exact⟨rfl,I',M',a0,ap,q1,q2.trans G.out⟩
theorem NB(h:f∈(Iv o a).B):o=some f:=by
 replace h:f∈o.toList:=h
 cases o with
 | none=>cases h
 | some g=>rw[UH,Q8]at h;rw[h]
theorem M5(a:Fs)(d:Option Nat)(b:ByteArray)(c:zu a):(vF a d b).1.length<=900000000:=by
 unfold vF
 cases d with
 | none=>show(0:Nat)<=_;omega
 | some k =>
  have f:=(wS a c k).ok.len;simp only
  cases gC (bK a k).2.2.sts b with
  | none=>show(0:Nat)<=_;omega
  | some n =>
   have h:=t7 (bK a k).2.2.sts n;have e:=wn (bK a k).2.2.sts n;have g:=tV (bK a k).2.2.sts (aK (bK a k).2.2.sts n);have i:(gI (bK a k).2.2.sts n).length<=100000000:=GA _ _ (by omega)
   show(cW (bK a k).2.2.sts n).length<=_
   omega
theorem wi(z:List Tx)(i x m:Nat)(f:Fs)(O:Hd)(Q N v u:Nat)(g:Option Nat)(a:ByteArray)(n:World)(h:cM n b H w T z l)(X:l<=1073741824)(V:pa n H w i x m f O Q N v u g) :
  Calls prog 18 #[.pointer (some ⟨b,0,none⟩),.pointer (some ⟨x,0,none⟩),.pointer (some ⟨m,0,none⟩),.string a] n fun e I=>qL b H l e I:=by
 have o:=hI (Ji x f Q N g a n V.p V.le V.ok);have s:Hid (∀j,ab [] n j->Calls prog 40 #[.pointer (some ⟨m,0,none⟩),.string a] j fun e I=>Qx (vF f g a).1 (vF f g a).2 j e I):=fun j k=>Hw m f O v u g a j (V.d.Va k) V.st V.le V.ok
 have r:=hI (M5 f g a V.ok);have Z:Hid (cM n b H w T z l):=h;generalize vF f g a=A at *;obtain⟨L,c⟩:=A;simp only at o s r;clear h V;go_enter func18,ntmps18
 go_upto_region 2 with (go_at_call 39;refine QT o.out ?_;rintro e Y ⟨y,rfl,M,R,B⟩)
 have G:=hI B;have C:=hI (Z.out.lay (Iv y L) (Q0 rfl) B M (fun q hq=>R q (NB hq)));clear M R B
 go_upto_region 3 with (go_at_call 40;refine QT (s.out Y G.out) ?_;rintro e j ⟨P,rfl,J⟩)
 have F:=hI (C.out.Va J.kept);have t:Hid (fk H (12,z.length) (Iv y L) (10,0)=H (10,0)):=by show _=_;rw[aq _ _ (bn (by decide))]
 have K:=hI (Ix b l _ w T z y P L j F.out X (bJ _ _ _) J.own r.out);clear J;generalize wC y=ra at *;obtain⟨ac,ad⟩:=P;go_wp2_with (go_at_call 41;refine QT K.out ?_;rintro e w3 ⟨rfl,I',W,E,D,U,S⟩);go_ret;exact⟨rfl,I',W,E,D,U,S.trans t.out⟩
theorem Na(c a:ByteArray)(w:World)(Q:World->Prop)(f:Calls prog 18 #[.pointer (some ⟨g,0,none⟩),.pointer (some ⟨b,0,none⟩),.pointer (some ⟨l,0,none⟩),.string c] w fun e d=>e=.returned (.bool true)/\Q d) :
  Calls prog 23 #[.pointer (some ⟨g,0,none⟩),.pointer (some ⟨b,0,none⟩),.pointer (some ⟨l,0,none⟩),.string c,.string a,.int .i64 12] w fun e d=>e=.returned (.bool true)/\Q d:=by
 have h:=hI f;clear f;go_enter func23,ntmps23;go_wp2_with (go_at_call 18;refine QT h.out ?_;rintro e j ⟨rfl,i⟩);go_ret;exact⟨rfl,i⟩
theorem JN(k A C D:Int)(s t:ByteArray)(w:World)(Q:World->Prop)(f:∀W,ab [] w W->Calls prog 11 #[.pointer (some ⟨l,0,none⟩),.agg #[.int .i64 k,.int .i64 A,.int .i64 C,.int .i64 D,.string s,.string t]] W fun e b=>e=.returned (.bool true)/\Q b) :
  Calls prog 9 #[.pointer (some ⟨l,0,none⟩),.agg #[.int .i64 k,.int .i64 A,.int .i64 C,.int .i64 D,.string s,.string t]] w fun e b=>e=.returned (.bool true)/\Q b:=by
 obtain⟨W,a⟩:∃W,Hid (w.alloc (.cells #[.int .i64 k,.int .i64 A,.int .i64 C,.int .i64 D,.string s,.string t] 28)=W):=⟨_,rfl⟩
 have c:ab [] w W:=by rw[<-a.out];exact(ab.refl [] _).alloc _
 have d:W.heap[w.heap.size]?=some (.cells #[.int .i64 k,.int .i64 A,.int .i64 C,.int .i64 D,.string s,.string t] 28 (0,0)):=by rw[<-a.out];exact QR _ _
 obtain⟨p,i,m,j,n,r,q⟩:=cQ d;have h:=hI (f W c);clear d f c;go_enter func9,ntmps9
 go_upto_region 1 with fail
 rw[a.out];go_wp2_with (go_at_call 11;refine QT h.out ?_;rintro e o ⟨rfl,g⟩);go_ret;exact⟨rfl,g⟩
theorem vE.wrote(h:vE n (some f) a)(s:ByteArray):vE (n.setCell ⟨f,S,none⟩ (.string s)) (some f) (a.set S s):=by
 refine⟨⟨(fun e=>by cases e),fun e=>?_⟩,fun q e=>?_⟩
 ·have:a=[]:=Uc.1 (by rw[<-Ru (i:=S) (a:=s),e];rfl)
  exact absurd (h.nil.2 this) (by simp)
 ·cases e
  rw[ah (h.blk f rfl),Rt,xj]
theorem Ml(o:aw n x (aB a))(b:x.ao=some ⟨f,0,none⟩)(s:ByteArray):aw (n.setCell ⟨f,S,none⟩ (.string s)) x (aB (a.set S s)):=by
 have:=o.putAt b S (.string s)
 have e:(⟨(aB a).e,(aB a).size,(aB a).n,(aB a).xs.set S (.string s)⟩:dN)=aB (a.set S s):=by
  unfold aB;rw[xj,Ru]
 rw[e]at this;exact this
theorem cM.wrote{g:List ByteArray}{b:List Tx}(h:cM n f y k I b S)(s:b[v]?=some (o,x,a))(F:g.length=a.length)(D:nI d (fk (fk y (12,v) (Iv o g)) (13,v) (ce x (aB g)))):∃C E A w,cM d f C E A w (S+1)/\C (10,0)=y (10,0):=by
 have p:=(Q7.1 s).1
 have J:mb (b.set v (o,x,g))=mb b:=by
  have e:(b.set v (o,x,g)).flatMap MM=b.flatMap MM:=by
   have G:(b.set v (o,x,g)).map MM=b.map MM:=by
    rw[Tm]
    apply Sp
    intro j;rw[RT]
    by_cases B:v=j
    ·subst B
     rw[QV rfl,Rp,s];simp only[Rh,p,TY,UT,MM,F]
    ·rw[QS B]
   rw[Un,Un,G]
  unfold mb kT;rw[e,Ru]
 have m:=(h.m.retv D k.tv (by rw[rO (by decide) (by decide),rO (by decide) (by decide)];exact h.m.w0) (fun j i _ c=>by rw[rO (by decide) c,rO (by decide) c])).more;refine⟨_,_,I,b.set v (o,x,g),⟨m,h.q,⟨by rw[Ru];exact h.t.e,by rw[aq _ _ (bn (by decide)),aq _ _ (bn (by decide)),J];exact h.t.r,fun j z u H c=>?_,by rw[Ru];exact UJ h.t.n⟩⟩,by rw[aq _ _ (bn (by decide)),aq _ _ (bn (by decide))]⟩;rw[RT]at c;rw[aq _ _ (bn (by decide))]
 by_cases e:v=j
 ·subst e
  rw[QV rfl,QV p]at c
  cases c
  obtain⟨-,-,K⟩:=h.t.l v o x a s;rw[bJ,bJ];exact⟨rfl,rfl,by omega⟩
 ·rw[QS e]at c
  rw[aq _ _ (rB (Ne.symm e)),aq _ _ (rB (Ne.symm e)),aq _ _ (bn (by decide))];exact h.t.l j z u H c
theorem NJ(o:List Tx)(A C D:Int)(s t:ByteArray)(O:World)(h:cM O b H w T o l)(hN:l<=1073741824)(hA:qA A)(hC:qA C) :
  Calls prog 11 #[.pointer (some ⟨b,0,none⟩),.agg #[.int .i64 18,.int .i64 A,.int .i64 C,.int .i64 D,.string s,.string t]] O fun e w'=>qL b H l e w':=by
 obtain⟨W,HW⟩:∃W,Hid (O.alloc (.cells #[.int .i64 18,.int .i64 A,.int .i64 C,.int .i64 D,.string s,.string t] 28)=W):=⟨_,rfl⟩
 obtain⟨-,hB,bp,a5⟩:=h.m.boxed 18 A C D s t W HW.out;have f:=h.Va a5;obtain⟨o0,o1,o2,o3,o4,o5,S⟩:=cQ hB;have Y:=ae f.m.blk;have d:=f.c16
 by_cases hL:o.length=0
 ·have HF:Hid (cM W b H w T o l):=f
  rw[hL]at d;clear h f hB;go_enter func11,ntmps11
  go_upto_region 1 with fail
  rw[HW.out];go_wp2;go_ret;exact⟨rfl,_,_,_,_,HF.out.more,rfl⟩
 ·have br:=h.t.n
  have af:Hid (∀M,Calls prog 12 #[.int .i64 A,.int .i64 o.length] M fun e w'=>e=.returned (.int .i64 (eG A o.length:Nat))/\w'=M):=fun M=>eQ A o.length M hA ⟨by omega,by omega⟩
  have ai:=fY A o.length (by omega);obtain⟨k,Hk⟩:∃k,Hid (eG A o.length=k):=⟨_,rfl⟩
  rw[Hk.out]at af ai;have HM:Hid (cM W b H w T o l):=f;obtain⟨bo,E,L,R,hk,⟨N,Q,B,U⟩,hX,hO,bv⟩:=f.at_ ai;obtain⟨c,j,-⟩:=f.t.l k bo E L hk;rw[N]at d;have bf:(k:Int)<(o.length:Int):=by omega
  have bs:(0:Int)<(o.length:Int):=by omega
  have a7:=hI hk;have ag:=hI c;have a4:=hI j
  by_cases x:L.length=0
  ·rw[x]at B
   clear h f hB hk c j N hX hO;go_enter func11,ntmps11
   go_upto_region 1 with fail
   rw[HW.out]
   go_upto_region 48 with fail
   go_quiet ((go_at_call 12;exact Rc (af.out _)))
   have HF:Hid (cM (W.drewN nq) b H w T o l):=HM.out.Va ((ab.refl [] _).drewN nq);go_wp2;go_ret;exact⟨rfl,_,_,_,_,HF.out.more,rfl⟩
  ·have aS:Hid (∀M,Calls prog 12 #[.int .i64 C,.int .i64 L.length] M fun e w'=>e=.returned (.int .i64 (eG C L.length:Nat))/\w'=M):=fun M=>eQ C L.length M hC ⟨by omega,by omega⟩
   have ac:=fY C L.length (by omega);obtain⟨i,Hi⟩:∃i,Hid (eG C L.length=i):=⟨_,rfl⟩
   rw[Hi.out]at aS ac
   obtain⟨a,rfl⟩:∃a,bo=some a:=by
    cases bo with
    | none=>rw[hX.nil.1 rfl]at x;exact absurd rfl x
    | some a=>exact⟨a,rfl⟩
   obtain⟨p,K⟩:∃p,E.ao=some ⟨p,0,none⟩:=by
    rcases hO.ways with ⟨-,e2,-⟩ | ⟨g,a6,e1,-⟩
    ·exact absurd e2 x
    ·exact⟨g,e1⟩
   have v:=hI K
   have P:a≠O.heap.size:=by
    intro e;have:=(Iv (some a) L).lt O (by have:=h.m.sep.all (12,k);rw[c]at this;exact this) a (Q8.2 rfl);omega
   have ar:p≠a:=by
    intro e;exact f.m.sep.far (13,k) (12,k) (bn (by decide)) p (by rw[j];show p∈E.blk.toList;unfold Hd.blk;rw[K];exact Q8.2 rfl) (by rw[c,e];exact Q8.2 rfl)
   have bl:=hI hB;replace B:W.cell? ⟨R,k*2,none⟩=some (.slice (some ⟨a,0,none⟩) L.length L.length):=B;rw[K]at U;have bk:(i:Int)<(L.length:Int):=by omega
   have bg:(0:Int)<(L.length:Int):=by omega
   have a0:=hI P
   have ax:Hid (R≠a):=by
    intro e;exact f.m.sep.far (11,0) (12,k) (bn (by decide)) R (by rw[f.t.r];show R∈T.blk.toList;unfold Hd.blk;rw[N];exact Q8.2 rfl) (by rw[c,e];exact Q8.2 rfl)
   have a2:Hid (b≠a):=by
    intro e;exact f.m.sep.far (0,0) (12,k) (bn (by decide)) b (by rw[f.m.w0];exact Q8.2 rfl) (by rw[c,e];exact Q8.2 rfl)
   have y:Hid (∀u,ab [a] W u->(u.cell? ⟨O.heap.size,2,none⟩=some (.int .i64 C)/\u.cell? ⟨O.heap.size,4,none⟩=some (.string s)/\O.heap.size<u.heap.size)/\(u.cell? ⟨b,16,none⟩=some (.slice (some ⟨R,0,none⟩) o.length T.cap)/\b<u.heap.size)/\u.cell? ⟨R,k*2,none⟩=some (.slice (some ⟨a,0,none⟩) L.length L.length)/\u.cell? ⟨R,k*2+1,none⟩=some (.slice (some ⟨p,0,none⟩) L.length E.cap)/\R<u.heap.size):=fun u kw=>by
    have q:∀g i,g<W.heap.size->g≠a->u.cell? ⟨g,i,none⟩=W.cell? ⟨g,i,none⟩:=fun g i hg hn=>Q5 (kw.block g hg (by simp;exact hn))
    have z:=kw.size;exact⟨⟨by rw[q _ _ S (Ne.symm a0.out)];exact o2,by rw[q _ _ S (Ne.symm a0.out)];exact o4,by omega⟩,⟨by rw[q _ _ Y a2.out];exact d,by omega⟩,by rw[q _ _ Q ax.out];exact B,by rw[q _ _ Q ax.out];exact U,by omega⟩
   have bj:Hid (L.length<=E.cap):=by
    rcases hO.ways with ⟨-,e2,-⟩ | ⟨g,a6,-,-,e3,-⟩
    ·exact absurd e2 x
    ·exact e3
   clear h f hB hk c j N hX hO P K ar;go_enter func11,ntmps11
   go_upto_region 1 with fail
   rw[HW.out]
   go_upto_region 48 with fail
   go_quiet ((go_at_call 12;exact Rc (af.out _)))
   go_upto_region 50 with fail
   obtain⟨W2,az⟩:∃W2,Hid (W.drewN nq=W2):=⟨_,rfl⟩
   rw[az.out];have ap:Hid (ab [] W W2):=by show ab _ _ _;rw[<-az.out];exact(ab.refl [] _).drewN nq
   clear o0 o1 o2 o3 o4 o5 S d Y B U Q;obtain⟨⟨o2,o4,S⟩,⟨d,Y⟩,B,U,Q⟩:=y.out W2 (ap.out.mono (by simp))
   go_quiet ((go_at_call 12;exact Rc (aS.out _)))
   go_upto_region 51 with fail
   obtain⟨G,al⟩:∃G,Hid (W2.drewN nq=G):=⟨_,rfl⟩
   rw[al.out];have V:Hid (ab [] W G):=by show ab _ _ _;rw[<-al.out];exact ap.out.drewN nq
   have aT:Hid (cM G b H w T o l):=HM.out.Va V.out;have J:Hid (vE G (some a) L):=by show vE _ _ _;have:=aT.out.m.sep.all (12,k);rw[ag.out]at this;exact this
   clear o2 o4 S d Y B U Q;obtain⟨⟨o2,o4,S⟩,⟨d,Y⟩,B,U,Q⟩:=y.out G (V.out.mono (by simp));have d0:G.cell? ⟨a,i,none⟩=some (.string L[i]):=by rw[aa (J.out.blk a rfl)];simp[cN,ac]
   have df:=am (J.out.blk a rfl) i;have dz:=ae (J.out.blk a rfl);generalize L[i]=be at *
   go_region
   all_goals
    obtain⟨F,X⟩:∃F,Hid ((G.setCell ⟨a,i,none⟩ (.string s)).drew=F):=⟨_,rfl⟩
    rw[X.out];have an:Hid (ab [a] G F):=by show ab _ _ _;rw[<-X.out];exact((ab.refl [a] _).setCell (Q0 (by simp)) _).drew
    have S4:Hid (nI F (fk H (12,k) (Iv (some a) (L.set i s)))):=by
     show nI _ _
     refine aT.out.m.sep.put _ _ (by rw[ag.out];exact an.out) ?_ (fun q hq=>Q0 (by rw[ag.out];exact hq));rw[<-X.out];exact(Iv _ _).ok [] _ _ (J.out.wrote s) (ab.refl [] _).drew (by simp)
    have ad:Hid (fk H (12,k) (Iv (some a) (L.set i s)) (13,k)=ce E (aB L)):=by show _=_;rw[aq _ _ (bn (by decide))];exact a4.out
    have I:Hid (aw F E (aB L)):=by show aw _ _ _;have:=S4.out.all (13,k);rw[ad.out]at this;exact this
    clear d0 df dz o2 o4 S d Y B U Q;obtain⟨⟨o2,o4,S⟩,⟨d,Y⟩,B,U,Q⟩:=y.out F ((V.out.mono (by simp)).trans an.out);have d0:F.cell? ⟨p,i,none⟩=some (.string L[i]):=I.out.cell v.out i _ (by simp[aB,cN,ac]);have df:=Cx I.out v.out i;have dz:p<F.heap.size:=I.out.lt (by unfold Hd.blk;rw[v.out];rfl);generalize L[i]=bd at *
    go_upto_region 52 with fail
    go_region
    all_goals
     obtain⟨W5,Z⟩:∃W5,Hid ((F.setCell ⟨p,i,none⟩ (.string s)).drew=W5):=⟨_,rfl⟩
     rw[Z.out];have a3:Hid (ab [p] F W5):=by show ab _ _ _;rw[<-Z.out];exact((ab.refl [p] _).setCell (Q0 (by simp)) _).drew
     have S5:Hid (nI W5 (fk (fk H (12,k) (Iv (some a) (L.set i s))) (13,k) (ce E (aB (L.set i s))))):=by
      show nI _ _
      have a1:E.blk.toList=[p]:=by unfold Hd.blk;rw[v.out];rfl
      refine S4.out.put _ _ (by rw[ad.out];show ab E.blk.toList _ _;rw[a1];exact a3.out) ?_ (fun q hq=>Q0 (by rw[ad.out];exact hq));rw[<-Z.out];exact(ce _ _).ok [] _ _ (Ml I.out v.out s) (ab.refl [] _).drew (by simp)
     go_wp2;go_ret;exact⟨rfl,HM.out.wrote a7.out Ru S5.out⟩
theorem Pu(j:List Tx)(A C D:Int)(s t:ByteArray)(g:World)(h:cM g b H w T j l)(hV:w.V.length≠0)(Z:qA A)(hN:l<=1073741824) :
  Calls prog 9 #[.pointer (some ⟨b,0,none⟩),.agg #[.int .i64 12,.int .i64 A,.int .i64 C,.int .i64 D,.string s,.string t]] g fun e L=>qL b H l e L:=by
 obtain⟨W,O⟩:∃W,Hid (g.alloc (.cells #[.int .i64 12,.int .i64 A,.int .i64 C,.int .i64 D,.string s,.string t] 28)=W):=⟨_,rfl⟩
 obtain⟨G,F,ac,n⟩:=h.m.boxed 12 A C D s t W O.out;have HT:Hid (cM W b H w T j l):=h.Va n;obtain⟨v,r,Q,P,S,Y,z⟩:=cQ F;have HL:=hI (lp b l H w 12 A C D s t W G (by omega));have HS:Hid (gx W b g.heap.size H w l 12 A C D s t):=⟨G,F⟩;have ad:=h.m.len.1;have p:Hid (∀u,Calls prog 12 #[.int .i64 A,.int .i64 w.V.length] u fun e L=>e=.returned (.int .i64 (eG A w.V.length:Nat))/\L=u):=fun u=>eQ A w.V.length u Z ⟨by omega,by omega⟩
 have k:=fY A w.V.length (by omega);obtain⟨i,Hi⟩:∃i,Hid (eG A w.V.length=i):=⟨_,rfl⟩
 rw[Hi.out]at p k;have ag:((w.V.length:Int)==0)=false:=Rg.2 (by omega);have af:(i:Int)<(w.V.length:Int):=by omega
 clear h G F n;go_enter func9,ntmps9
 go_upto_region 1 with fail
 rw[O.out]
 go_upto_region 2 with (go_at_call 11;refine QT HL.out ?_;rintro e y ⟨rfl,E⟩)
 have c:Hid (gx y b g.heap.size H w l 12 A C D s t):=HS.out.Va E;have K:Hid (cM y b H w T j l):=HT.out.Va E;clear v r Q P S Y z E;obtain⟨v,r,-⟩:=cQ c.out.o;have z:=ae c.out.o;have I:y.cell? ⟨b,0,none⟩=some (.slice w.hx.ao w.V.length w.hx.cap):=by rw[aa c.out.m.blk];rfl
 have X:=ae c.out.m.blk
 go_upto_region 4 with fail
 go_quiet ((go_at_call 12;exact Rc (p.out _)))
 go_upto_region 5 with fail
 obtain⟨f,d⟩:∃f,Hid (y.drewN nq=f):=⟨_,rfl⟩
 rw[d.out];have a:Hid (gx f b g.heap.size H w l 12 A C D s t):=c.out.Va (by rw[<-d.out];exact(ab.refl [] _).drewN nq);have B:Hid (cM f b H w T j l):=K.out.Va (by rw[<-d.out];exact(ab.refl [] _).drewN nq);clear v r z I X;obtain⟨v,r,Q,P,S,Y,z⟩:=cQ a.out.o;obtain⟨x,m,fs,hd,lo,hi,N,M,st,g1,g2,q,⟨R,z1,d1⟩,U,z2,d2⟩:=a.out.m.ver k;have I:f.cell? ⟨b,0,none⟩=some (.slice w.hx.ao w.V.length w.hx.cap):=by rw[aa a.out.m.blk];rfl
 have c1:f.cell? ⟨b,1,none⟩=some (.slice w.hm.ao w.V.length w.hm.cap):=by rw[aa a.out.m.blk];rfl
 rw[R]at I;rw[U]at c1;have X:=ae a.out.m.blk;have J:=hI (wi b l H w T j i x m fs hd lo hi N M st s f B.out hN q);clear q R U;go_wp2_with (go_at_call 18;refine QT J.out ?_;rintro e w3 ⟨rfl,q1⟩);go_ret;exact⟨rfl,q1⟩
theorem Pv(Q:List Tx)(A C:Int)(s t:ByteArray)(v:World)(h:cM v b H w T Q l)(hV:w.V.length≠0)(hA:qA A)(hC:qA C)(hN:l<=1073741824) :
  Calls prog 9 #[.pointer (some ⟨b,0,none⟩),.agg #[.int .i64 19,.int .i64 A,.int .i64 C,.int .i64 12,.string s,.string t]] v fun e r=>qL b H l e r:=by
 obtain⟨W,HW⟩:∃W,Hid (v.alloc (.cells #[.int .i64 19,.int .i64 A,.int .i64 C,.int .i64 12,.string s,.string t] 28)=W):=⟨_,rfl⟩
 obtain⟨hM,hB,a0,P⟩:=h.m.boxed 19 A C 12 s t W HW.out;have HT:Hid (cM W b H w T Q l):=h.Va P;obtain⟨z,D,X,U,o4,Z,B⟩:=cQ hB;have HL:=hI (lp b l H w 19 A C 12 s t W hM (by omega));have HS:Hid (gx W b v.heap.size H w l 19 A C 12 s t):=⟨hM,hB⟩;have a3:=h.m.len.1;have S:Hid (∀a,Calls prog 12 #[.int .i64 A,.int .i64 w.V.length] a fun e r=>e=.returned (.int .i64 (eG A w.V.length:Nat))/\r=a):=fun a=>eQ A w.V.length a hA ⟨by omega,by omega⟩
 have O:=fY A w.V.length (by omega);obtain⟨i,Hi⟩:∃i,Hid (eG A w.V.length=i):=⟨_,rfl⟩
 rw[Hi.out]at S O;have aT:((w.V.length:Int)==0)=false:=Rg.2 (by omega);have aS:(i:Int)<(w.V.length:Int):=by omega
 clear h hM hB P;go_enter func9,ntmps9
 go_upto_region 1 with fail
 rw[HW.out]
 go_upto_region 2 with (go_at_call 11;refine QT HL.out ?_;rintro e Y ⟨rfl,k1⟩)
 have p:Hid (gx Y b v.heap.size H w l 19 A C 12 s t):=HS.out.Va k1;have al:Hid (cM Y b H w T Q l):=HT.out.Va k1;clear z D X U o4 Z B k1;obtain⟨z,D,-⟩:=cQ p.out.o;have B:=ae p.out.o;have c0:Y.cell? ⟨b,0,none⟩=some (.slice w.hx.ao w.V.length w.hx.cap):=by rw[aa p.out.m.blk];rfl
 have bz:=ae p.out.m.blk
 go_upto_region 4 with fail
 go_quiet ((go_at_call 12;exact Rc (S.out _)))
 go_upto_region 5 with fail
 obtain⟨u,y⟩:∃u,Hid (Y.drewN nq=u):=⟨_,rfl⟩
 rw[y.out];have j:Hid (gx u b v.heap.size H w l 19 A C 12 s t):=p.out.Va (by rw[<-y.out];exact(ab.refl [] _).drewN nq);have E:Hid (cM u b H w T Q l):=al.out.Va (by rw[<-y.out];exact(ab.refl [] _).drewN nq);clear z D B c0 bz;obtain⟨z,D,X,U,o4,Z,B⟩:=cQ j.out.o;obtain⟨x,m,fs,hd,lo,hi,K,J,st,g1,g2,n,⟨e1,z1,d1⟩,G,z2,d2⟩:=j.out.m.ver O;have c0:u.cell? ⟨b,0,none⟩=some (.slice w.hx.ao w.V.length w.hx.cap):=by rw[aa j.out.m.blk];rfl
 have c1:u.cell? ⟨b,1,none⟩=some (.slice w.hm.ao w.V.length w.hm.cap):=by rw[aa j.out.m.blk];rfl
 rw[e1]at c0;rw[G]at c1;have bz:=ae j.out.m.blk;have ac:=hI (KY m fs hd K J st u n.d n.st n.le n.ok);have ai:Hid (∀c a,ab [] u a->Calls prog 18 #[.pointer (some ⟨b,0,none⟩),.pointer (some ⟨x,0,none⟩),.pointer (some ⟨m,0,none⟩),.string c] a fun e r=>qL b H l e r):=fun c a k=>wi b l H w T Q i x m fs hd lo hi K J st c a (E.out.Va k) hN (n.Va k)
 clear n e1 G
 go_upto_region 34 with (go_at_call 22;refine QT ac.out ?_;rintro e w3 ⟨L,h3,rfl,N,l3⟩)
 have I:=hI N.kept;have af:Hid (gx w3 b v.heap.size H w l 19 A C 12 s t):=j.out.Va N.kept;have ag:Hid (cm w3 h3.ao 6 jJ L):=aw.srcG (f:=jJ) N.own (fun _=>rfl)
 have ax:Hid (L.length<=h3.cap):=by
  rcases N.own.ways with ⟨-,G,-⟩ | ⟨g,a2,-,-,e3,-⟩
  ·have G:L.length=0:=G
   show L.length<=_;omega
  ·exact e3
 clear z D X U o4 Z B c0 c1 bz z1 d1 z2 d2 N;obtain⟨z,D,X,U,o4,Z,B⟩:=cQ af.out.o;obtain⟨an,az⟩:=h3
 by_cases hL:L.length=0
 ·rw[hL]
  go_wp2;go_ret;exact⟨rfl,_,_,_,_,(E.out.Va I.out).more,rfl⟩
 ·have a1:((L.length:Int)==0)=false:=Rg.2 (by omega)
  have R:Hid (∀a,Calls prog 12 #[.int .i64 C,.int .i64 L.length] a fun e r=>e=.returned (.int .i64 (eG C L.length:Nat))/\r=a):=fun a=>eQ C L.length a hC ⟨by omega,by omega⟩
  have F:=fY C L.length (by omega);obtain⟨k,Hk⟩:∃k,Hid (eG C L.length=k):=⟨_,rfl⟩
  rw[Hk.out]at R F;have ap:(k:Int)<(L.length:Int):=by omega
  obtain⟨g0,eg,ar,hc⟩:=ag.out k _ (QO F);replace eg:an=some ⟨g0,0,none⟩:=eg;subst eg;have r0:=hc 0 _ rfl;rw[Tf]at r0;clear hc;generalize L[k].label=c at *;have ad:Hid (∀a,ab [] w3 a->Calls prog 23 #[.pointer (some ⟨b,0,none⟩),.pointer (some ⟨x,0,none⟩),.pointer (some ⟨m,0,none⟩),.string c,.string s,.int .i64 12] a fun e r=>qL b H l e r):=fun a k=>Na b x m c s a _ (ai.out c a (I.out.trans k))
  go_upto_region 37 with (go_at_call 12;refine QT (R.out _) ?_;rintro q w4 ⟨rfl,M⟩;rw[M];clear M)
  go_region_with (go_at_call 23;refine(ad.out _ (by exact(ab.refl [] _).drew)).mono ?_;rintro e w9 ⟨rfl,q9⟩)
  all_goals
   go_wp2;go_ret;exact⟨rfl,q9⟩
theorem JO(y:List Tx)(o:pA)(f:World)(h:cM f b H w T y l)(n:l<=1073741824)(F:M0 o) :
  Calls prog 9 #[.pointer (some ⟨b,0,none⟩),.agg #[.int .i64 o.k,.int .i64 o.a,.int .i64 o.c,.int .i64 o.d,.string o.s,.string o.t]] f fun e v=>qL b H l e v:=by
 obtain⟨k,A,C,D,s,t⟩:=o;obtain⟨p,x,G,B,r,J⟩:=F;simp only at *;have j:=h.m;have i:∀{c:Calls prog 9 #[.pointer (some ⟨b,0,none⟩),.agg #[.int .i64 k,.int .i64 A,.int .i64 C,.int .i64 D,.string s,.string t]] f (fun e v=>iB b H w l true e v)},Calls prog 9 #[.pointer (some ⟨b,0,none⟩),.agg #[.int .i64 k,.int .i64 A,.int .i64 C,.int .i64 D,.string s,.string t]] f (fun e v=>qL b H l e v):=fun {c}=>c.mono (fun e v q=>h.up q)
 have z:k=1∨k=2∨k=3∨k=4∨k=5∨k=6∨k=7∨k=15∨k=16∨k=17∨k=18∨(k=8∨k=9∨k=10∨k=12∨(k=19/\D=12)):=by omega
 rcases z with rfl | rfl | rfl | rfl | rfl | rfl | rfl | rfl | rfl | rfl | rfl | I
 ·exact i (c:=iy b l H w _ A C D s t f j (fun W g=>O9 b l H w A C D s t W g n))
 ·exact i (c:=iy b l H w _ A C D s t f j (fun W g=>Pa b l H w A C D s t W g n B r))
 ·exact i (c:=iy b l H w _ A C D s t f j (fun W g=>Pb b l H w A C D s t W g))
 ·exact i (c:=iy b l H w _ A C D s t f j (fun W g=>Pc b l H w A C D s t W g n))
 ·exact i (c:=iy b l H w _ A C D s t f j (fun W g=>Pd b l H w A C D s t W g n))
 ·exact i (c:=iy b l H w _ A C D s t f j (fun W g=>Pe b l H w A C D s t W g n p x B r))
 ·exact i (c:=iy b l H w _ A C D s t f j (fun W g=>Pf b l H w A C D s t W g p x G))
 ·exact i (c:=iy b l H w _ A C D s t f j (fun W g=>NG b l H w A C D s t W g))
 ·exact i (c:=iy b l H w _ A C D s t f j (fun W g=>NH b l H w A C D s t W g))
 ·exact i (c:=iy b l H w _ A C D s t f j (fun W g=>NI b l H w A C D s t W g h.q))
 ·exact JN b 18 A C D s t f _ (fun W E=>NJ b l H w T y A C D s t W (h.Va E) n p x)
 by_cases u:w.V.length=0
 ·exact i (c:=JR b l H w k A C D s t f j (by omega) u)
 ·rcases I with rfl | rfl | rfl | rfl | ⟨rfl,rfl⟩
  ·exact i (c:=Qi b l H w A C D s t f j u p x n)
  ·exact i (c:=Qj b l H w A C D s t f j u p n B r)
  ·exact i (c:=Pt b l H w A C D s t f j u p n)
  ·exact Pu b l H w T y A C D s t f h u p n
  ·exact Pv b l H w T y A C s t f h u p x n
def Qb(w0:World)(h:Hd)(L:List pA):It where
 B:=List.range w0.heap.size++h.blk.toList
 P w:=ab [] w0 w/\aw w h (ja L)
 lt w a q hq:=by
  rcases Rq.1 hq with e | e
  ·exact QW (Q9.1 e) a.1.size
  ·exact a.2.lt (aN e)
 ok S w w' a k hb:=by
  refine⟨⟨k.os.trans a.1.os,k.tape.trans a.1.tape,k.output.trans a.1.output,Q1 a.1.size k.size,fun q hq _=>?_⟩,a.2.Vf (fun q hq=>k.block q (a.2.lt hq) (hb q (Sd _ (by rw[hq];simp))))⟩;rw[k.block q (QW hq a.1.size) (hb q (RM _ (Q9.2 hq)))];exact a.1.block q hq (by simp)
def QJ:It where
 B:=[]
 P _:=True
 lt _ _ q hq:=by cases hq
 ok _ _ _ _ _ _:=trivial
def PD:Mc:=⟨⟨none,0⟩,⟨none,0⟩,⟨none,0⟩,⟨none,0⟩,⟨none,0⟩,[],[],[],0,0,0,0,⟨#[]⟩,0,0,⟨#[]⟩,0,0,.slice none 0 0,.slice none 0 0⟩
theorem LF{f:World}{L:List pA}(p:ab [] n d)(t:aw d x (ja L))(k:ab [] d f)(B:f.heap[d.heap.size]?=some (.cells PD.cells.toArray 42 (0,0))):∃I,cM f d.heap.size I PD ⟨none,0⟩ [] 0/\I (10,0)=Qb n x L:=by
 have A:nI d (fk (fun _=>QJ) (10,0) (Qb n x L)):=by
  refine⟨fun q=>?_,fun q C a b h o=>?_⟩
  ·by_cases e:q=(10,0)
   ·subst e;rw[bJ];exact⟨p,t⟩
   ·rw[aq _ _ e];exact trivial
  ·by_cases e:q=(10,0)
   ·subst e;rw[aq _ _ (Ne.symm a)]at o;cases o
   ·rw[aq _ _ e]at h;cases h
 have z:=A.put (0,0) (rA d.heap.size 42 PD.cells) (k.mono (by simp)) B (fun q a=>QU (by rw[Q8.1 a];exact QQ _));have r:=z.put (1,0) (ce ⟨none,0⟩ (lA 46 [])) (ab.refl _ _) (QY _ _ _ _) (fun q a=>by cases a);have y:=r.put (2,0) (ce ⟨none,0⟩ (lA 47 [])) (ab.refl _ _) (QY _ _ _ _) (fun q a=>by cases a);have s:=y.put (3,0) (ce ⟨none,0⟩ (cr [])) (ab.refl _ _) (QY _ _ _ _) (fun q a=>by cases a);have v:=s.put (4,0) (ce ⟨none,0⟩ (ig [])) (ab.refl _ _) (QY _ _ _ _) (fun q a=>by cases a);have u:=v.put (5,0) (ce ⟨none,0⟩ (ig [])) (ab.refl _ _) (QY _ _ _ _) (fun q a=>by cases a);have w:=u.put (11,0) (ce ⟨none,0⟩ (mb [])) (ab.refl _ _) (QY _ _ _ _) (fun q a=>by cases a);refine⟨_,⟨⟨w,?_,?_,?_,?_,?_,?_,(fun i g m l c=>by cases c),(fun i g m l c=>by cases c),(fun j=>⟨by show(0:Nat)<=_;omega,by show(0:Nat)<=_;omega⟩),⟨QQ _,QQ _,QQ _⟩,⟨⟨by decide,by decide⟩,⟨by decide,by decide⟩,by decide,by decide⟩⟩,rfl,⟨rfl,bJ _ _ _,(fun i g m l c=>by cases c),QQ _⟩⟩,?_⟩
 all_goals (simp only[fk];rfl)
theorem Hg:(Instr.build 42 #[]).run prog L=.ok (.agg PD.cells.toArray) L :=
 run_build L 42 _ _ (by kernel_rfl)
theorem MN(a:List pA)(w:World)(J:ab [] L w)(O:aw w T (ja a))(hL:a.length<=1073741824)(q:∀i,i<a.length->M0 (lS a i)) :
  Calls prog 8 #[.slice T.ao a.length T.cap] w fun e w'=>e=.returned (.int .i64 (-1))/\ab [] L w':=by
 obtain⟨l,b⟩:=T;obtain⟨W,x⟩:∃W,Hid (w.alloc (.cells PD.cells.toArray 42)=W):=⟨_,rfl⟩
 obtain⟨I0,n,r⟩:=LF J O (show ab [] w W by rw[<-x.out];exact(ab.refl [] _).alloc _) (by rw[<-x.out];exact QR _ _);have E:Hid (∃I M d j,cM W w.heap.size I M d j 0/\I (10,0)=Qb L ⟨l,b⟩ a):=⟨_,_,_,_,n,r⟩;have B:=hI q;have bw:=Hg;have K:Hid (PD.cells.toArray=#[.slice none 0 0,.slice none 0 0,.slice none 0 0,.slice none 0 0,.slice none 0 0,.int .i64 0,.int .i64 0,.int .i64 0,.int .i64 0,.string ⟨#[]⟩,.int .i64 0,.int .i64 0,.string ⟨#[]⟩,.int .i64 0,.int .i64 0,.slice none 0 0,.slice none 0 0]):=rfl;rw[K.out]at x;simp only[K.out]at bw;clear n r q O J;go_enter func8,ntmps8
 go_upto_region 2 with fail
 rw[x.out];go_wp2
 go_loopg [4] a.length (fun g i wr=>∃k:Nat,k<=a.length/\g=a.length-k/\i=.int .i64 k/\Hid (∃I M d j,cM wr w.heap.size I M d j k/\I (10,0)=Qb L ⟨l,b⟩ a))
 case atStart=>exact⟨0,by omega,rfl,rfl,E⟩
 case round =>
  obtain⟨k,hk,hg,rfl,G⟩:=hrel;obtain⟨I,M,d,j,y,hI⟩:=G.out;have HI:=hI hI;have p:=y.m.sep.all (10,0);rw[hI]at p
  by_cases s:k<a.length
  ·have ac:(k:Int)<(a.length:Int):=by omega
   obtain⟨N,z,S,c⟩:=(aw.srcG (f:=Kh) p.2 (fun _=>rfl)) k _ (lT a k s);have Z:=c 0 _ rfl;have c1:=c 1 _ rfl;have c2:=c 2 _ rfl;have c3:=c 3 _ rfl;have c4:=c 4 _ rfl;have c5:=c 5 _ rfl;have C:=hI (JO w.heap.size k I M d j (lS a k) wr y (by omega) (B.out k s));generalize lS a k=o at *;rw[Tf]at Z;replace z:l=some ⟨N,0,none⟩:=z;subst z;clear y hI p c G
   go_upto_region 6 with (go_at_call 9;refine QT C.out ?_;rintro e Q ⟨rfl,R,P,u,t,h,v⟩)
   have X:=hI (II w.heap.size (k+1) R P u t Q h (by omega));have D:Hid (∃I M d j,cM Q w.heap.size I M d j (k+1)/\I (10,0)=Qb L ⟨some ⟨N,0,none⟩,b⟩ a):=⟨R,P,u,t,h,v.trans HI.out⟩;clear h v;go_wp2_with (go_at_call 10;refine QT X.out ?_;rintro e w2 ⟨rfl,k2⟩)
   go_roundg (a.length-(k+1))
   case measure=>omega
   case rel =>
    obtain⟨I2,V,A,F,Y,H⟩:=D.out;exact⟨k+1,by omega,rfl,by go_num,I2,V,A,F,Y.Va k2,H⟩
  ·have U:¬(k:Int)<(a.length:Int):=by omega
   have HK:=hI p.1;clear y hI p G;go_wp2;go_ret;exact⟨rfl,HK.out⟩
theorem I6{L:List pA}{o:pA}{p:pA->Prop}(h:∀i,i<L.length->p (lS L i))(b:p o):∀i,i<(L++[o]).length->p (lS (L++[o]) i):=by
 intro i a;rw[QZ]at a;replace a:i<L.length+1:=a;unfold lS;rw[QP]
 by_cases e:i<L.length
 ·have:=h i e
  unfold lS at this;rw[QP]at this;rw[Q6 e];exact this
 ·rw[Q4 (by omega),show i-L.length=0 by omega];exact b
def AS(K:List Int)(k:Int)(q:Nat):Bool:=((decide (1<=k)&&decide (k<=10))||(decide (15<=k)&&decide (k<=18)))||(K.take q).any (fun x=>k==x)
theorem wt(h:i<1∨(10<i/\i<15)∨18<i):AS M i 0=false:=by
 unfold AS;rw[Tp,List.any_nil,Sy];simp
 omega
theorem Ca(h:(1<=i/\i<=10)∨(15<=i/\i<=18))(q:Nat):AS M i q=true:=by
 unfold AS;have:((decide (1<=i)&&decide (i<=10))||(decide (15<=i)&&decide (i<=18)))=true:=by simp;omega
 rw[this];rfl
theorem Lp(K:List Int)(k:Int)(q:Nat)(h:q<K.length):AS K k (q+1)=(AS K k q||(k==K[q])):=by
 unfold AS;rw[Tc,QO h,UV,<-TE];simp
theorem Ny(h:AS M i f=true):((1<=i/\i<=10)∨(15<=i/\i<=18))∨i∈M:=by
 unfold AS at h;rw[Rz]at h
 rcases h with h | h
 ·left;simp at h;omega
 ·right
  obtain⟨x,a,b⟩:=RB.1 h;rw[TQ b];exact Ta a
theorem Lw(h:n.heap[f]?=some (.cells (M.map (Value.int .i64)).toArray 3 (0,0)))(q:Nat)(a:q<M.length):n.cell? ⟨f,q,none⟩=some (.int .i64 M[q]):=by
 rw[aa h];simp[a]
theorem Jf(f:List pA)(K:List Int)(kb:Nat)(w:World)(hl:f.length<=140737488351232)(hi:mw w D f)(W:∀o∈f,AW o)(Q:w.heap[kb]?=some (.cells (K.map (Value.int .i64)).toArray 3 (0,0)))(a4:K.length<=100)(hK:∀o∈f,o.k∈K->o.k=12∨(o.k=19/\o.d=12)) :
  Calls prog 5 #[.slice D f.length l,.slice (some ⟨kb,0,none⟩) K.length K.length] w fun e w'=>e=.returned (.bool true)/\ab [] w w':=by
 have al:=hI (Ff D l f w hl hi W);have HI:Hid (mw w D f):=hi;have HO:=hI W;have H:=hI Q;have ax:=hI hK;obtain⟨iX,ai,R,E,F⟩:=Rd Ls;clear hi W Q hK;go_enter func5,ntmps5
 go_upto_region 2 with (go_at_call 7;refine QT al.out ?_;rintro e w1 ⟨⟨r,rfl,hr⟩,k1⟩)
 have T:=hI k1;have HR:=hI hr;clear k1 hr
 cases r
 ·go_wp2
  go_ret;exact⟨rfl,T.out⟩
 ·obtain⟨a6,I⟩:=HR.out rfl
  have Z:=hI I;have az:Hid (gw w w1 ⟨none,0⟩ (ja [])):=⟨QY _ _ _ _,(by intro k hk;cases hk),T.out⟩;clear I HR;go_wp2
  go_loopg [6,7] f.length (fun g lv iv wr=>∃(k:Nat) (z:Hd) (L:List pA),k<=f.length/\g=f.length-k/\lv=.slice z.ao L.length z.cap/\iv=.int .i64 k/\L.length<=k/\Hid (∀i,i<L.length->M0 (lS L i))/\Hid (gw w wr z (ja L)))
  case atStart=>exact⟨0,⟨none,0⟩,[],by omega,rfl,rfl,rfl,by simp,(fun i h=>by cases h),az⟩
  case round =>
   obtain⟨k,z,L,hk,hg,rfl,rfl,aS,v,t⟩:=hrel
   by_cases y:k<f.length
   ·have a0:(k:Int)<(f.length:Int):=by omega
    obtain⟨b,a2,rfl,hb,u⟩:=(mw.Va HI.out t.out.kept) k _ (lT f k y);have p:=R2 (lT f k y);have G:=HO.out (lS f k) p;have S:=ax.out (lS f k) p;have c0:=u 0 _ rfl;have c1:=u 1 _ rfl;have c2:=u 2 _ rfl;have c3:=u 3 _ rfl;have c4:=u 4 _ rfl;have c5:=u 5 _ rfl;rw[Tf]at c0;have N:=Z.out k y;have A:=hI G;have M:=hI N;have ad:=hI S;have a1:=ae (t.out.kept.get H.out (by simp));have ag:Hid (∀q (Y:q<K.length),wr.cell? ⟨kb,q,none⟩=some (.int .i64 K[q])):=fun q Y=>Lw (t.out.kept.get H.out (by simp)) q Y
    generalize lS f k=o at *;clear u G N S p;have af:=t.out.own;have ar:Hid ((ja L).n<=4294967296):=by show L.length<=_;omega
    have O:Hid ((ja L).n=L.length):=rfl
    have P:Hid (AS K o.k K.length=true->M0 o):=fun q=>⟨A.out.a,A.out.c,A.out.d,M.out.1,M.out.2,by
     rcases Ny q with q | q
     ·omega
     ·have:=ad.out q;omega⟩
    have B:(o.k<1/\Hid (AS K o.k 0=false))∨((10<o.k/\o.k<15)/\Hid (AS K o.k 0=false))∨(18<o.k/\Hid (AS K o.k 0=false))∨((1<=o.k/\o.k<=10)/\Hid (AS K o.k 0=true))∨((15<=o.k/\o.k<=18)/\Hid (AS K o.k 0=true)):=by
     by_cases z1:o.k<1
     ·exact Q0 ⟨z1,wt (Q0 z1)⟩
     ·by_cases z2:o.k<=10
      ·exact QU (QU (QU (Q0 ⟨⟨by omega,z2⟩,Ca (Q0 ⟨by omega,z2⟩) 0⟩)))
      ·by_cases z3:o.k<15
       ·exact QU (Q0 ⟨⟨by omega,z3⟩,wt (QU (Q0 ⟨by omega,z3⟩))⟩)
       ·by_cases z4:o.k<=18
        ·exact QU (QU (QU (QU ⟨⟨by omega,z4⟩,Ca (QU ⟨by omega,z4⟩) 0⟩)))
        ·exact QU (QU (Q0 ⟨by omega,wt (QU (QU (by omega)))⟩))
    rcases B with ⟨U,m⟩ | ⟨⟨U,h2⟩,m⟩ | ⟨U,m⟩ | ⟨⟨U,h2⟩,m⟩ | ⟨⟨U,h2⟩,m⟩
    all_goals
     go_wp2
     go_loopg [9,10] K.length (fun g a j w2=>∃q:Nat,q<=K.length/\g=K.length-q/\a=.bool (AS K o.k q)/\j=.int .i64 q/\wr=w2)
     case atStart=>exact⟨0,by omega,rfl,congrArg Value.bool (by rw[m.out] <;> simp <;> omega),rfl,rfl⟩
     case round =>
      obtain⟨q,Y,aT,rfl,rfl,rfl⟩:=hrel
      by_cases C:q<K.length
      ·have a5:(q:Int)<(K.length:Int):=by omega
       have cq:=ag.out q C;have s:=hI (Lp K o.k q C);generalize K[q]=kq at *
       cases V:AS K o.k q
       ·rw[V,So]at s
        go_wp2
        go_roundg (K.length-(q+1))
        case measure=>omega
        case rel=>exact⟨q+1,by omega,rfl,congrArg Value.bool s.out.symm,by go_num,rfl⟩
       ·rw[V,Tr]at s
        go_wp2
        go_roundg (K.length-(q+1))
        case measure=>omega
        case rel=>exact⟨q+1,by omega,rfl,congrArg Value.bool s.out.symm,by go_num,rfl⟩
      ·have ac:q=K.length:=by omega
       subst ac;have a3:¬(K.length:Int)<(K.length:Int):=by omega
       cases V:AS K o.k K.length
       ·go_wp2
        go_roundg (f.length-(k+1))
        case measure=>omega
        case rel=>exact⟨k+1,z,L,by omega,rfl,rfl,by go_num,by omega,v,t⟩
       ·have an:=hI (P.out V)
        go_wp2_with (at_builtin;refine cZ wr rfl (.tmp 57) (.tmp 62) 22 rfl iX (.agg #[.int .i64 0,.int .i64 0,.int .i64 0,.int .i64 0,.string ⟨#[]⟩,.string ⟨#[]⟩]) 64 z (ja L) (Kh o) underlying22 ai R E F rfl (show 0<6 by omega) (by rw[O.out];simp[Act.eval]) af ar.out (by omega) (by simp[Act.eval]) rfl (Ao o) ?_;intro h5 w5 x J;rw[ja,gM]at x;have X:=hI (t.out.grew J x);clear x J)
        go_roundg (f.length-(k+1))
        case measure=>omega
        case rel=>exact⟨k+1,h5,L++[o],by omega,rfl,by rw[O.out,QZ];rfl,by go_num,by rw[QZ];show _+1<=_;omega,I6 v.out an.out,X⟩
   ·have a7:¬(k:Int)<(f.length:Int):=by omega
    have ap:=hI (MN w z L wr t.out.kept t.out.own (by omega) v.out);go_wp2_with (go_at_call 8;refine QT ap.out ?_;rintro e w5 ⟨rfl,k5⟩);go_ret;exact⟨rfl,k5⟩
theorem nj{P:Program}{f:Array Oper}{d:List Oper}{o:Oper}{a:Act}{Q:Exit->Act->World->Prop}(J:o.guard=none)(s x:Operand)(t:TypeId)(w:o.op=Op.call { callee:=Callee.builtin Builtin.append,args:=#[s,x],argTypes:=#[t,t] })(i:TypeInfo)(z:Value)(c:Nat)(h:Hd)(r:dN)(b:List Value)(D:P.underlying t=some (.slice r.e))(F:P.info? r.e=some i)(G:i.zero=some z)(T:i.size=r.size)(C:i.bytes=c)(E:z.cells.size=r.size)(S:0<r.size)(O:a.eval s=.slice h.ao r.n h.cap)(k:aw L h r)(U:r.n+1<=140737488355328)(N:(r.n+1)*c<=140737488355328)(R:a.eval x=.slice (some ⟨L.heap.size,0,none⟩) 1 1)(V:b.length=r.size)(q:∀u∈b,u.oneCell'=true)(I:∀m g,aw g m ⟨r.e,r.size,r.n+1,r.xs++b⟩->bt L g h m->wpList P f Q d (a.put o.dst (.slice m.ao (r.n+1) m.cap)) g) :
  wpList P f Q (o :: d) a (L.alloc (.cells b.toArray r.e)):=by
 have y:ab [] L (L.alloc (.cells b.toArray r.e)):=(ab.refl [] _).alloc _;have A:(L.alloc (.cells b.toArray r.e)).heap[L.heap.size]?=some (.cells b.toArray r.e (0,0)):=QR _ _;obtain⟨p,g,l,B,H⟩:=pD (P:=P) (L.alloc (.cells b.toArray r.e)) t o.type i z c h r D F G T C E S (k.Va y) (some ⟨L.heap.size,0,none⟩) 1 1 b (by omega) (fun e=>by cases e) (fun W e j u M=>by cases e;rw[bL,aa A];simpa using M) q (by unfold maxLen;omega) N;refine wpList_plain J fun K v=>?_
 unfold Oper.wp;simp[execOp,w,resolve,invoke,builtin,O,R,l,Result.andThen];exact v _ _ (I p g B ((bt.Va y).trans H))
def pi(d:Int)(o:pA):pA:=if o.k=19 then { o with d:=d } else o
theorem LO(d:Int)(f:List pA)(w:World)(hl:f.length*64<=140737488351232)(hi:mw w D f) :
  Calls prog 6 #[.slice D f.length l,.int .i64 d] w fun e w'=>∃j,e=.returned (.slice j.ao f.length j.cap)/\gw w w' j (ja (f.map (pi d))):=by
 have HI:Hid (mw w D f):=hi;obtain⟨iX,J,u,r,v⟩:=Rd Ls;have ac:Hid (gw w w ⟨none,0⟩ (ja [])):=⟨QY _ _ _ _,(by intro k hk;cases hk),ab.refl _ _⟩;clear hi;go_enter func6,ntmps6;go_wp2
 go_loopg [5,6] f.length (fun g lv iv wr=>∃(k:Nat) (j:Hd) (L:List pA),k<=f.length/\g=f.length-k/\lv=.slice j.ao L.length j.cap/\iv=.int .i64 k/\L.length=k/\Hid (L=(f.take k).map (pi d))/\Hid (gw w wr j (ja L)))
 case atStart=>exact⟨0,⟨none,0⟩,[],by omega,rfl,rfl,rfl,rfl,rfl,ac⟩
 case round =>
  obtain⟨k,j,L,hk,hg,rfl,rfl,A,S,N⟩:=hrel
  by_cases K:k<f.length
  ·have ag:(k:Int)<(f.length:Int):=by omega
   obtain⟨b,ai,rfl,hb,y⟩:=(mw.Va HI.out N.out.kept) k _ (lT f k K)
   have q:Hid (L++[pi d (lS f k)]=(f.take (k+1)).map (pi d)):=by
    show _=_
    rw[Tc,lT f k K,Rx,<-S.out];rfl
   have c0:=y 0 _ rfl;have c1:=y 1 _ rfl;have c2:=y 2 _ rfl;have c3:=y 3 _ rfl;have c4:=y 4 _ rfl;have c5:=y 5 _ rfl;rw[Tf]at c0;generalize lS f k=o at *;clear y;have E:(ja L).n=L.length:=rfl;have H:Hid ((ja L).n=L.length):=E;have M:Hid ((ja L).n+1<=140737488355328):=by show(ja L).n+1<=_;rw[E];omega
   have G:Hid (((ja L).n+1)*64<=140737488355328):=by show((ja L).n+1)*64<=_;rw[E];omega
   obtain⟨X,O⟩:∃X,Hid (wr.alloc (.cells #[.int .i64 o.k,.int .i64 o.a,.int .i64 o.c,.int .i64 o.d,.string o.s,.string o.t] 28)=X):=⟨_,rfl⟩
   have I:Hid (ab [] wr X):=by show ab _ _ _;rw[<-O.out];exact(ab.refl [] _).alloc _
   have p:Hid (X.heap[wr.heap.size]?=some (.cells #[.int .i64 o.k,.int .i64 o.a,.int .i64 o.c,.int .i64 o.d,.string o.s,.string o.t] 28 (0,0))):=by show _=_;rw[<-O.out];exact QR _ _
   cases C:(o.k==19)
   ·have x:Hid (pi d o=o):=by show _=_;unfold pi;rw[QS (fun e=>by rw[e]at C;cases C)]
    rw[x.out]at q;obtain⟨R,b1,T,P,V,W,z⟩:=cQ p.out;have h:=hI (N.out.Va I.out);have F:=h.out.own
    go_upto_region 6 with fail
    rw[O.out];go_wp2_with (at_builtin;refine nj X rfl (.tmp 23) (.tmp 25) 22 rfl iX (.agg #[.int .i64 0,.int .i64 0,.int .i64 0,.int .i64 0,.string ⟨#[]⟩,.string ⟨#[]⟩]) 64 j (ja L) (Kh o) underlying22 J u r v rfl (show 0<6 by omega) (by rw[H.out];simp[Act.eval]) F M.out G.out (by simp[Act.eval]) rfl (Ao o) ?_;intro Q w5 i m;rw[ja,gM]at i;have B:=hI (h.out.grew m i);clear i m)
    go_roundg (f.length-(k+1))
    case measure=>omega
    case rel=>exact⟨k+1,Q,L++[o],by omega,rfl,by rw[QZ,A];rfl,by go_num,by rw[QZ];show _+1=_;omega,q,B⟩
   ·have x:Hid (pi d o={ o with d:=d }):=by show _=_;unfold pi;rw[QV (TQ C)]
    rw[x.out]at q;obtain⟨Y,HY⟩:∃Y,Hid (X.setCell ⟨wr.heap.size,3,none⟩ (.int .i64 d)=Y):=⟨_,rfl⟩
    have Z:Hid (ab [] wr Y):=by show ab _ _ _;rw[<-HY.out];exact I.out.setCell (QU (QQ _)) _
    have U:Hid (Y.heap[wr.heap.size]?=some (.cells #[.int .i64 o.k,.int .i64 o.a,.int .i64 o.c,.int .i64 d,.string o.s,.string o.t] 28 (0,0))):=by show _=_;rw[<-HY.out,ah p.out 3 _];rfl
    obtain⟨R,b1,T,P,V,W,z⟩:=cQ p.out;have bf:=am p.out 3;have h:=hI (N.out.Va Z.out);have F:=h.out.own
    go_upto_region 6 with fail
    rw[O.out]
    go_upto_region 8 with fail
    rw[HY.out];clear R b1 T P V W z bf;obtain⟨R,b1,T,P,V,W,z⟩:=cQ U.out;go_wp2_with (at_builtin;refine nj Y rfl (.tmp 23) (.tmp 25) 22 rfl iX (.agg #[.int .i64 0,.int .i64 0,.int .i64 0,.int .i64 0,.string ⟨#[]⟩,.string ⟨#[]⟩]) 64 j (ja L) (Kh { o with d:=d }) underlying22 J u r v rfl (show 0<6 by omega) (by rw[H.out];simp[Act.eval]) F M.out G.out (by simp[Act.eval]) rfl (Ao _) ?_;intro Q w5 i m;rw[ja,gM]at i;have B:=hI (h.out.grew m i);clear i m)
    go_roundg (f.length-(k+1))
    case measure=>omega
    case rel=>exact⟨k+1,Q,L++[(⟨o.k,o.a,o.c,d,o.s,o.t⟩:pA)],by omega,rfl,by rw[QZ,A];rfl,by go_num,by rw[QZ];show _+1=_;omega,q,B⟩
  ·have e:k=f.length:=by omega
   subst e;have ad:¬(f.length:Int)<(f.length:Int):=by omega
   rw[RI]at S;have af:Hid (L.length=f.length):=A;go_wp2;go_ret;exact⟨j,rfl,by rw[<-S.out];exact N.out⟩
theorem aw.opsIn{l:List pA}(o:aw n x (ja l)):mw n x.ao l:=fun i b d=>by
 obtain⟨g,e,h,a⟩:=(aw.srcG (f:=Kh) o (fun _=>rfl)) i b d;exact⟨g,0,e,h,fun j u c=>by rw[SG];exact a j u c⟩
theorem LN(b:qA i){o:pA}(h:AW o):AW (pi i o):=by
 unfold pi
 split
 ·exact⟨h.k,h.a,h.c,b,h.s,h.t⟩
 ·exact h
theorem Ef(b:List pA)(w:World)(s:b.length*64<=140737488351232)(n:mw w D b)(p:∀o∈b,AW o) :
  Calls prog 4 #[.slice D b.length l] w fun e m=>e=.returned (.bool true)/\ab [] w m:=by
 have g:=hI (LO D l 12 b w s n);have t:=hI p;clear n p;go_enter func4,ntmps4
 go_upto_region 2 with (go_at_call 6;refine QT g.out ?_;rintro e d ⟨c,rfl,f⟩)
 have j:=hI f.kept
 have i:Hid (Calls prog 5 #[.slice c.ao b.length c.cap,.slice (some ⟨d.heap.size,0,none⟩) 2 2] (d.alloc (.cells #[.int .i64 12,.int .i64 19] 3)) fun e m=>e=.returned (.bool true)/\ab [] (d.alloc (.cells #[.int .i64 12,.int .i64 19] 3)) m):=by
  have:=Jf c.ao c.cap (b.map (pi 12)) [12,19] d.heap.size (d.alloc (.cells #[.int .i64 12,.int .i64 19] 3)) (by rw[Rh];omega) (f.own.opsIn.Va ((ab.refl [] _).alloc _)) (fun o h=>by
   obtain⟨q,r,rfl⟩:=Sh.1 h;exact LN ⟨by decide,by decide⟩ (t.out q r)) (QR _ _) (by decide) (fun o h a=>by
   obtain⟨q,r,rfl⟩:=Sh.1 h;simp only[Ri,RN,SO]at a
   rcases a with a | a
   ·exact Q0 a
   ·refine QU ⟨a,?_⟩
    unfold pi at a ⊢
    by_cases e:q.k=19
    ·rw[QV e]
    ·rw[QS e]at a;exact absurd a e)
  rw[Rh]at this;exact this
 clear f;obtain⟨v,x⟩:=c;go_wp2_with (go_at_call 5;refine QT i.out ?_;rintro e y ⟨rfl,u⟩);go_ret;exact⟨rfl,(j.out.alloc _).trans u⟩
section
open Go.ChangeShapes Go.WideShapes Go.ChangeAt Go.RowKit
theorem own:ownKnob prog.godebug=none:=by kernel_rfl
theorem NF:laidOutB prog=true:=by kernel_rfl
theorem OO:prog.bytesOf 28=64:=by kernel_rfl
theorem KP:prog.cellsOf 28=6:=by kernel_rfl
theorem zI:prog.cellsOf 3=1:=by kernel_rfl
theorem F0:prog.cellsOf 9=1:=by kernel_rfl
theorem uO:prog.underlying 28=some (.struct (prog.fieldsOf 28)):=by kernel_rfl
theorem Nm:(prog.fieldsOf 28).toList.map (fun f=>(f.type,f.offset))=[(3,0),(3,1),(3,2),(3,3),(9,4),(9,5)]:=by kernel_rfl
theorem tR(h:[(3,0),(3,1),(3,2),(3,3),(9,4),(9,5)][g]?=some (b,l)):∃f,(prog.fieldsOf 28)[g]?=some f/\f.type=b/\f.offset=l:=by
 rw[<-Nm,List.getElem?_map,Array.getElem?_toList]at h
 cases e:(prog.fieldsOf 28)[g]? with
 | none=>rw[e]at h;cases h
 | some f=>rw[e]at h;simp at h;exact⟨f,rfl,h.1,h.2⟩
theorem Qg:(prog.fieldsOf 28).size=6:=by kernel_rfl
theorem FD(P:Program)(e:TypeId){L:List (DataW N)}{d:DataW N}(b:d∈L)(g:f∈DataW.weights P e d):f∈DataW.weightsAll P e L:=by
 induction L with
 | nil=>cases b
 | cons a r c =>
  rw[DataW.weightsAll,List.mem_append]
  rcases List.mem_cons.1 b with rfl | h
  ·exact Or.inl g
  ·exact Or.inr (c h)
theorem FW:(⟨g,b,none⟩:Addr).add l=⟨g,b+l,none⟩:=by
 simp only[Addr.add]
 split
 ·next h=>subst h;rfl
 ·rfl
theorem NQ{u:TypeId×Value->N}{p:List Value}{x:DataW N×List MemPlace}(h:DataW.trod u prog n 0 (fun _=>true) true f 28 p=some x) :
  ∃o:pA,p=Kh o/\(qA o.k/\qA o.a/\qA o.c/\qA o.d)/\o.s.data.toList.length∈DataW.weights prog 28 x.1/\o.t.data.toList.length∈DataW.weights prog 28 x.1:=by
 obtain⟨xs,m,-,rfl,g,e,b⟩:=DataW.trod_struct uO h;rw[KP]at g;rw[Qg]at e
 match p,g,xs,e with
 | [v0,v1,v2,v3,v4,v5],_,[y0,y1,y2,y3,y4,y5],_ =>
  obtain⟨O,e0,t0,q0⟩:=tR 0 _ _ rfl;obtain⟨f1,V,t1,L⟩:=tR 1 _ _ rfl;obtain⟨f2,W,P,J⟩:=tR 2 _ _ rfl;obtain⟨f3,e3,K,q3⟩:=tR 3 _ _ rfl;obtain⟨U,Y,R,M⟩:=tR 4 _ _ rfl;obtain⟨f5,T,t5,q5⟩:=tR 5 _ _ rfl;have D:=b 0 O e0;have z:=b 1 f1 V;have I:=b 2 f2 W;have y:=b 3 f3 e3;have A:=b 4 U Y;have B:=b 5 f5 T;rw[t0,q0,zI]at D;rw[t1,L,zI]at z;rw[P,J,zI]at I;rw[K,q3,zI]at y;rw[R,M,F0]at A;rw[t5,q5,F0]at B;obtain⟨n0,E,i,w0⟩:=DataW.trod_int underlying3 D;obtain⟨n1,G,q,Z⟩:=DataW.trod_int underlying3 z;obtain⟨X,H,v,w2⟩:=DataW.trod_int underlying3 I;obtain⟨n3,F,j,w3⟩:=DataW.trod_int underlying3 y;obtain⟨Q,w,r,-⟩:=DataW.trod_string underlying9 A;obtain⟨S,C,l,-⟩:=DataW.trod_string underlying9 B;simp at E G H F w C i q v j r l;refine⟨⟨n0,n1,X,n3,Q,S⟩,?_,⟨bounds_i64 w0,bounds_i64 Z,bounds_i64 w2,bounds_i64 w3⟩,?_,?_⟩
  ·rw[E,G,H,F,w,C];rfl
  ·rw[i,q,v,j,r,l]
   simp[DataW.weights,DataW.weightsEach]
  ·rw[i,q,v,j,r,l]
   simp[DataW.weights,DataW.weightsEach]
theorem Pm{G:TypeId×Value->N}{L:DataW N}{p0:List MemPlace}{M:List TypeId}{P:List (DataW N)}(h0:DataW.Trod G prog n 0 (fun _=>true) true 22 (.slice z0 f S) L p0)(z:(DataW.weightsEach prog M P).all (·<=reachBytes)=true)(T:M[0]?=some 22)(O:P[0]?=some L) :
  ∃l:List pA,l.length=f/\f*64<=140737488351232/\(∀o∈l,AW o)/\mw n z0 l:=by
 obtain⟨Q,hf⟩:=h0
 rcases Go.Deep.open_slice underlying22 hf with ⟨d,_⟩ | ⟨a,ac,ag,m,ai,D,Pl,d,-,ad,Z,hm,R,A⟩
 ·simp[Value.cells]at d
  obtain⟨rfl,rfl,rfl⟩:=d;exact⟨[],rfl,by omega,(fun o v=>by cases v),fun i o c=>by cases c⟩
 ·simp[Value.cells]at d
  obtain⟨rfl,rfl,rfl⟩:=d;simp only[if_true]at hm;have af:f<=m:=by omega
  simp only[Prod.mk.injEq]at R;obtain⟨rfl,-⟩:=R;have t:=sized_slice z (j:=0) T O underlying22;rw[OO]at t;simp only[List.length_map,List.length_range,reachBytes]at t
  have g:∀i,i<f->∃o:pA,AW o/\∀(j:Nat) u,(Kh o)[j]?=some u->n.cell? ((a.add (i*6)).add j)=some u:=fun i c=>by
   obtain⟨cs,E,Y⟩:=A i (by omega);rw[KP]at E;obtain⟨-,hl,C⟩:=World.cells?_some E;obtain⟨o,v,⟨r0,W,r2,r3⟩,V,X⟩:=NQ Y
   have y:∀q,q∈DataW.weights prog 28 (D i)->q<=140737488351232:=fun q hq=>by
    have K:q∈DataW.weights prog 22 (.slice ((List.range f).map D) ((List.range (m-f)).map fun j=>D (f+j)):DataW N):=by
     simp only[DataW.weights,underlying22];exact List.mem_cons_of_mem _ (List.mem_append_left _ (FD prog _ (List.mem_map.2 ⟨i,List.mem_range.2 c,rfl⟩) hq))
    have:=List.all_eq_true.1 z _ (DataW.weights_mem_each (j:=0) T O _ K);have r:q<=reachBytes:=by simpa using this
    simpa only [reachBytes] using r
   refine⟨o,⟨r0,W,r2,r3,y _ V,y _ X⟩,fun j u F=>?_⟩;have J:j<6:=(List.getElem?_eq_some_iff.1 F).1;rw[C j J,v];exact F
  have s:Nonempty pA:=⟨⟨0,0,0,0,⟨#[]⟩,⟨#[]⟩⟩⟩
  have H:∃B:Nat->pA,∀i,i<f->AW (B i)/\∀(j:Nat) u,(Kh (B i))[j]?=some u->n.cell? ((a.add (i*6)).add j)=some u:=by
   classical
   refine⟨fun i=>if c:i<f then Classical.choose (g i c) else Classical.choice s,fun i c=>?_⟩;simp only[dif_pos c];exact Classical.choose_spec (g i c)
  obtain⟨B,k⟩:=H;refine⟨(List.range f).map B,by simp,by omega,fun o v=>?_,fun i o c=>?_⟩
  ·obtain⟨i,E,rfl⟩:=List.mem_map.1 v
   exact(k i (List.mem_range.1 E)).1
  ·rw[List.getElem?_map]at c
   have x:i<f:=by
    rcases Nat.lt_or_ge i f with h | h
    ·exact h
    ·rw[List.getElem?_eq_none (by simp;exact h)]at c;cases c
   rw[List.getElem?_range x]at c
   cases c
   have C:=(k i x).2;obtain⟨b,I,w⟩:=a;have e:=C 0 _ rfl;have p:w=none:=by simpa [Addr.add] using World.cell?_spot ((k 0 (by omega)).2 0 _ rfl)
   subst p;refine⟨b,I,rfl,?_,fun j u F=>?_⟩
   ·rw[FW,FW]at e
    unfold World.cell? at e
    split at e
    ·next U=>exact ae U
    ·cases e
   ·have:=C j u F
    rw[FW,FW]at this;exact this
end
end Go.Proofs.YtpddjjabfbfifaaGreat
