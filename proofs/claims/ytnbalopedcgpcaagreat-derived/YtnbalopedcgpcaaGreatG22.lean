import Derived.Deep.RegionHeld3
import Derived.Laws.OwnMore
import Derived.Test.YtnbalopedcgpcaaGreatG21
namespace Go.Proofs.YtnbalopedcgpcaaGreat
open Go.RowKit Tryz
open Value renaming slice->Xz
open Obj renaming cells->XE
open Ending renaming returned->XH
open Option renaming none->XJ,some->XK
open Bool renaming true->XL,false->XM
open Go renaming World->XP,Value->XQ
set_option maxHeartbeats 0
variable{T D:List ByteArray}{f N:ByteArray}{H:ByteArray->Prop}{g:St}{y:List St}{k i:Nat}{w:Db}{x m:Hd}{S n M:XP}{L:fe}{o:Db->Prop}{z4:Option Nat}{z5:Fs}{s z6 z7:Int}(v:ByteArray)(z0:List ByteArray)(b:ByteArray)(l:Nat)(I:UInt8)
theorem ze(h:aM T f=XL):aM (T++D) f=XL:=by
 unfold aM at h ⊢;rw[SB,h];rfl
theorem zc:aM (z0++[b]) b=XL:=by
 unfold aM;rw[SB];simp
theorem uZ(e:(f.toList==N.toList)=XL)(h:aM T f=XL):aM T N=XL:=by
 have a:f.toList=N.toList:=by simpa using e
 unfold aM at h ⊢;rw[<-a];exact h
structure v9(P:ByteArray->Prop)(L C:List ByteArray)(s:St):Prop where
 kind:s.kind=1∨(2<=s.kind/\s.kind<=5)
 syms:∀x∈s.Um,P x
 lab:(2<=s.kind/\s.kind<=5)->P s.label/\dF s.label=XL/\aM L s.label=XL
 code:(2<=s.kind/\s.kind<=5)->∃c r,s.Um=c :: r/\aM C c=XL
 two:s.kind=2->s.Um.length=2
theorem v9.mono(h:v9 H T D g)(b a:List ByteArray)(i:∀x,aM T x=XL->aM b x=XL)(f:∀x,aM D x=XL->aM a x=XL):v9 H b a g :=
 ⟨h.kind,h.syms,fun k=>⟨(h.lab k).1,(h.lab k).2.1,i _ (h.lab k).2.2⟩,fun k=>by obtain⟨c,r,d,e⟩:=h.code k;exact⟨c,r,d,f _ e⟩,h.two⟩
def Kp(l:List St):Prop:=∀(i j:Nat) s t,i<j->l[i]?=XK s->l[j]?=XK t->s.kind≠1->t.kind≠1->(s.label.toList==t.label.toList)=XM
structure Nm(P:ByteArray->Prop)(d:Db):Prop where
 lab:∀x∈d.Uu,P x
 con:∀x∈d.Uo,P x
 var:∀x∈d.Up,P x
 act:∀x∈d.Uv,P x
 typ:∀x∈d.Uy,P x
 sym:∀x∈d.Um,P x
 UD:∀s∈d.UD,v9 P d.Uu d.Uo s
 kind:0<=d.kind/\d.kind<=8
 here:(2<=d.kind/\d.kind<=6)->P d.label/\dF d.label=XL/\aM d.Uu d.label=XL/\∀s∈d.UD,s.kind≠1->(s.label.toList==d.label.toList)=XM
 head:(2<=d.kind/\d.kind<=5)->∀c r,d.Um=c :: r->aM d.Uo c=XL
 two:d.kind=2->d.Um.length<=2
 nne:(d.kind=0∨d.kind=6)->d.Um=[]
 diff:Kp d.UD
 prf:d.kind≠5->d.Uq=XM
theorem fI(l:List St)(b i:Nat):(cH l b)[i]?=(l[i]?).map (fun s=>if b<=i/\i<l.length then dE l.length s else s):=by
 unfold cH dK;rw[RO]
theorem nD(s:St):(dE l s).kind=s.kind/\(dE l s).label=s.label/\(dE l s).Um=s.Um:=by
 unfold dE;split <;> exact⟨rfl,rfl,rfl⟩
theorem lJ(h:(cH y k)[i]?=XK g):∃a,y[i]?=XK a/\g.kind=a.kind/\g.label=a.label/\g.Um=a.Um:=by
 rw[fI]at h;cases b:y[i]? with
 | none=>rw[b]at h;cases h
 | some a =>
  rw[b]at h;simp only[Option.map_some,Option.some.injEq]at h;refine⟨a,rfl,?_⟩;subst h;split
  ·exact nD _ _
  ·exact⟨rfl,rfl,rfl⟩
theorem EK(h:∀s∈y,v9 H T D s)(b:Nat):∀s∈cH y b,v9 H T D s:=by
 intro s g;obtain⟨i,f⟩:=Ss g;obtain⟨j,d,a,e,c⟩:=lJ f;have k:=h j (Qp d);refine⟨?_,?_,?_,?_,?_⟩
 ·rw[a];exact k.kind
 ·rw[c];exact k.syms
 ·rw[a,e];exact k.lab
 ·rw[a,c];exact k.code
 ·rw[a,c];exact k.two
theorem Bm(h:Kp y)(b:Nat):Kp (cH y b):=by
 intro i j s t a l m n o;obtain⟨p,c,d,e,r⟩:=lJ l;obtain⟨q,f,g,k,u⟩:=lJ m;rw[e,k];exact h i j p q a c f (by rw[<-d];exact n) (by rw[<-g];exact o)
theorem Id(h:Kp y)(u:St)(l:u.kind≠1->∀s∈y,s.kind≠1->(s.label.toList==u.label.toList)=XM):Kp (y++[u]):=by
 intro i j s t b d a f g;have c:j<(y++[u]).length:=(Qc.1 a).1;simp only[List.length_append,List.length_singleton]at c;rw[PR (by omega)]at d;by_cases k:j<y.length
 ·rw[PR k]at a;exact h i j s t b d a f g
 ·have e:j=y.length:=by omega
  subst e;simp at a;subst a;exact l g s (Qp d) f
theorem Et(l v:List ByteArray)(c:∀x∈v,H x)(d:∀x∈l,H x):∀x∈bS v l,H x:=by
 unfold bS
 induction l generalizing v with
 | nil=>exact c
 | cons a l e =>
  simp only[List.foldl_cons];refine e _ ?_ (fun x b=>d x (Qv _ b));split
  ·exact c
  ·intro x b;rcases Qo.1 b with b | b
   ·exact c x b
   ·rw[Qn.1 b];exact d a (by simp)
theorem jq(h:∀x∈T,H x)(n:Nat):∀x∈T.take n,H x:=fun x a=>h x (Sb a)
theorem nO(h:∀x∈T,H x)(b:H f):∀x∈T++[f],H x:=fun x a=>by
 rcases Qo.1 a with a | a
 ·exact h x a
 ·rw[Qn.1 a];exact b
theorem vo(h:∀x∈T,H x)(a:∀x∈D,H x):∀x∈T++D,H x:=fun x b=>(Qo.1 b).elim (h x) (a x)
theorem Nm.label(h:Nm H w)(x:ByteArray)(m:dz x=XM->H x)(j:w.kind=0):Nm H (bj w x).2:=by
 unfold bj;split
 ·exact h
 ·next k =>
  split
  ·exact h
  ·next l =>
   split
   ·exact h
   ·next f =>
    have i:=m (by simpa using k);have c:aM w.Uu x=XM:=by
     unfold cm at f;cases e:aM w.Uu x
     ·rfl
     ·rw[e]at f;simp at f
    refine⟨nO h.lab i,h.con,h.var,h.act,h.typ,h.sym,fun s d=>(h.UD s d).mono _ _ (fun y g=>ze g) (fun y g=>g),by simp,?_,?_,?_,?_,h.diff,fun _=>h.prf (by omega)⟩
    ·intro _;refine⟨i,by simpa using l,zc _ _,?_⟩;intro s d a;cases e:(s.label.toList==x.toList)
     ·rfl
     ·have b:=h.UD s d;have:=uZ e ((b.lab (b.kind.resolve_left a)).2.2);rw[c]at this;cases this
    ·intro a;simp at a
    ·intro a;simp at a
    ·intro _;exact h.nne (P0 j)
theorem Nm.first(h:Nm H w)(x:ByteArray)(j:dz x=XM->H x)(d:w.kind=0):Nm H (aA w x).2:=by
 have b:=h.nne (P0 d);unfold aA;split
 ·exact⟨h.lab,h.con,h.var,h.act,h.typ,h.sym,h.UD,h.kind,h.here,h.head,h.two,h.nne,h.diff,h.prf⟩
 ·split
  ·split
   ·exact h
   ·unfold dS;split
    ·exact⟨h.lab,h.con,h.var,jq h.act _,jq h.typ _,h.sym,h.UD,h.kind,h.here,h.head,h.two,h.nne,h.diff,h.prf⟩
    ·refine⟨h.lab,h.con,h.var,jq h.act _,jq h.typ _,h.sym,EK h.UD _,h.kind,?_,h.head,h.two,h.nne,Bm h.diff _,h.prf⟩;intro a;have g:2<=w.kind/\w.kind<=6:=a;omega
  ·have c:∀k:Int,0<=k/\k<=8->k=7∨k=8∨k=1->Nm H { w with kind:=k }:=by
    intro k a i;refine⟨h.lab,h.con,h.var,h.act,h.typ,h.sym,h.UD,a,?_,?_,?_,?_,h.diff,fun _=>h.prf (by omega)⟩
    ·intro (e:2<=k/\k<=6);omega
    ·intro (e:2<=k/\k<=5);omega
    ·intro (e:k=2);omega
    ·intro _;exact b
   split
   ·split
    ·exact h
    ·exact c 7 (by omega) (by omega)
   ·split
    ·exact c 8 (by omega) (by omega)
    ·split
     ·exact c 1 (by omega) (by omega)
     ·split
      ·exact h
      ·exact h.label x j d
theorem Nm.keyword(h:Nm H w)(x:ByteArray)(f:w.kind=6):Nm H (aN w x).2:=by
 have b:=h.nne (P7 f);have d:∀k:Int,2<=k/\k<=5->Nm H { w with kind:=k }:=by
  intro k j;refine⟨h.lab,h.con,h.var,h.act,h.typ,h.sym,h.UD,⟨by show 0<=k;omega,by show k<=8;omega⟩,?_,?_,?_,?_,h.diff,fun _=>h.prf (by omega)⟩
  ·intro _;exact h.here (by omega)
  ·intro _ c r g;have a:w.Um=c :: r:=g;rw[b]at a;cases a
  ·intro _;show w.Um.length<=2;rw[b];simp
  ·intro (i:k=0∨k=6);omega
 unfold aN;split
 ·exact d 2 (by omega)
 ·split
  ·exact d 3 (by omega)
  ·split
   ·exact d 4 (by omega)
   ·split
    ·exact d 5 (by omega)
    ·exact h
theorem Nm.done{d:Db}(i:∀x∈d.Uu,H x)(e:∀x∈d.Uo,H x)(m:∀x∈d.Up,H x)(c:∀x∈d.Uv,H x)(l:∀x∈d.Uy,H x)(j:∀s∈d.UD,v9 H d.Uu d.Uo s)(f:Kp d.UD)(k:Int)(g:k=0)(b:ByteArray)(o:List (ByteArray×Pl)) :
  Nm H { d with kind:=k,label:=b,Um:=[],Uq:=XM,Ux:=o }:=by
 subst g;exact⟨i,e,m,c,l,fun x n=>by simp at n,j,by simp,fun h=>by simp at h,fun h=>by simp at h,fun h=>by simp at h,fun _=>rfl,f,fun _=>rfl⟩
theorem E1(h:1<z0.length):z0.getD 1 ⟨#[]⟩∈z0:=by
 rw[PK,PJ h];exact PT h
theorem Nm.fin(h:Nm H w)(p:Pl)(A:w.kind≠0)(D:w.kind≠6):Nm H (iU w p).2:=by
 have E:=h.kind;unfold iU;split
 ·exact h
 ·next q =>
  split
  ·exact h
  ·unfold bK;split
   ·exact Nm.done (d:={ w with Uo:=w.Uo++w.Um }) h.lab (vo h.con h.sym) h.var h.act h.typ (fun s a=>(h.UD s a).mono _ _ (fun y l=>l) (fun y l=>ze l)) h.diff 0 rfl _ _
   ·split
    ·exact Nm.done (d:=dx w w.Um.length) h.lab h.con (Et _ _ h.var (jq h.sym _)) (vo h.act h.sym) h.typ h.UD h.diff 0 rfl _ _
    ·next n o =>
     have j:w.kind=1∨(2<=w.kind/\w.kind<=5):=by
      have x:w.kind≠7:=(by simpa using n);have z:w.kind≠8:=(by simpa using o);omega
     have d:dX w<=w.Um.length:=(by omega);have g:v9 H w.Uu w.Uo ⟨w.kind,w.label,w.Um,w.Ux,p,0⟩:=by
      refine⟨j,h.sym,?_,?_,?_⟩
      ·intro (f:2<=w.kind/\w.kind<=5);have k:=h.here (by omega);exact⟨k.1,k.2.1,k.2.2.1⟩
      ·intro (f:2<=w.kind/\w.kind<=5);have B:1<=dX w:=by unfold dX;split <;> omega
       cases i:w.Um with
       | nil=>rw[i]at d;simp at d;omega
       | cons c r=>exact⟨c,r,rfl,h.head f c r i⟩
      ·intro (f:w.kind=2);have C:dX w=2:=(by unfold dX;rw[PZ (P7 (by rw[f];rfl))]);have:=h.two f;show w.Um.length=2;omega
     have e:∀s∈w.UD++[⟨w.kind,w.label,w.Um,w.Ux,p,0⟩],v9 H w.Uu w.Uo s:=by
      intro s a;rcases Qo.1 a with a | a
      ·exact h.UD s a
      ·rw[Qn.1 a];exact g
     have b:Kp (w.UD++[⟨w.kind,w.label,w.Um,w.Ux,p,0⟩]):=by
      refine Id h.diff _ ?_;intro (f:w.kind≠1) s a hs1;exact(h.here (by omega)).2.2.2 s a hs1
     unfold dh ov;split
     ·next t=>exact Nm.done (d:={ w with Uy:=w.Uy++[w.Um.getD 1 ⟨#[]⟩],UD:=w.UD++[⟨w.kind,w.label,w.Um,w.Ux,p,0⟩] }) h.lab h.con h.var h.act (nO h.typ (h.sym _ (E1 _ t.2))) e b 0 rfl _ _
     ·exact Nm.done (d:={ w with UD:=w.UD++[⟨w.kind,w.label,w.Um,w.Ux,p,0⟩] }) h.lab h.con h.var h.act h.typ e b 0 rfl _ _
theorem Nm.take(h:Nm H w)(x:ByteArray)(p:Pl)(l:dz x=XM->H x):Nm H (aK w x p).2:=by
 unfold aK;split
 ·next g=>exact h.first x l (by simpa using g)
 ·next g =>
  split
  ·next j=>exact h.keyword x (by simpa using j)
  ·next j =>
   have i:w.kind≠0:=(by simpa using g);have k:w.kind≠6:=(by simpa using j);split
   ·exact h.fin p i k
   ·split
    ·unfold bO;split
     ·exact h
     ·next o _=>exact⟨h.lab,h.con,h.var,h.act,h.typ,h.sym,h.UD,h.kind,h.here,h.head,h.two,h.nne,h.diff,fun d=>absurd (show w.kind=5 by simpa using o.2.1) d⟩
    ·split
     ·exact h
     ·next s =>
      split
      ·exact⟨h.lab,h.con,h.var,h.act,h.typ,h.sym,h.UD,h.kind,h.here,h.head,h.two,h.nne,h.diff,h.prf⟩
      ·split
       ·next q =>
        have a:aC w x=0:=(by simpa using q);refine⟨h.lab,h.con,h.var,h.act,h.typ,nO h.sym (l (by simpa using s)),h.UD,h.kind,h.here,?_,?_,?_,h.diff,h.prf⟩
        ·intro (d:2<=w.kind/\w.kind<=5) c r (b:w.Um++[x]=c :: r);cases f:w.Um with
         | nil =>
          rw[f]at b;simp at b;obtain⟨rfl,-⟩:=b;unfold aC at a;rw[PV (by simp;omega),PV (by simp;omega),PV (by simp;omega),PZ (by rw[f];rfl)]at a;unfold dD at a;cases e:aM w.Uo x
          ·rw[e]at a;simp at a
          ·rfl
         | cons n u =>
          rw[f]at b;simp at b;rw[<-b.1];exact h.head d n u f
        ·intro (d:w.kind=2)
         show(w.Um++[x]).length<=2
         rw[Qa];by_cases m:w.Um.length=0
         ·rw[m];simp
         ·unfold aC at a;rw[PV (by simp;omega),PV (by simp;omega),PV (by simp;omega),PV m,PZ (by simp;omega)]at a;unfold cZ at a;by_cases t:1<w.Um.length
          ·rw[PZ t]at a;simp at a
          ·simp;omega
        ·intro (d:w.kind=0∨w.kind=6);omega
       ·exact h
theorem Nm.empty:Nm H bB:=by
 refine⟨?_,?_,?_,?_,?_,?_,?_,?_,?_,?_,?_,fun _=>rfl,?_,fun _=>rfl⟩ <;> simp[bB,Kp]
theorem qn(c:∀k,k<=b.size->aF (an b k).1=XL->dz (an b k).1.text=XM->H (an b k).1.text)(f:Nat):∀k d,k<=b.size->Nm H d->Nm H (cV v b f k d).2:=by
 induction f with
 | zero=>intro k d _ h;exact h
 | succ f i =>
  intro k d a h;have g:=dG b k a;rw[cV];split
  ·next e =>
   split
   ·exact i _ _ g.2.1 (h.take _ _ (c k a e))
   ·exact h.take _ _ (c k a e)
  ·split
   ·split <;> exact h
   ·exact h
def Wd(x:ByteArray):Prop:=0<x.size/\∀i,i<x.size->dQ (ar x i)=XL/\ar x i≠36
theorem xL(f:Nat):∀k i,k<=i->i<jt b f k->dQ (ar b i)=XL:=by
 induction f with
 | zero=>intro k i c a;simp[jt]at a;omega
 | succ f g =>
  intro k i c a;rw[jt]at a;split at a
  ·next d =>
   by_cases e:i=k
   ·subst e;exact d.2.2
   ·exact g (k+1) i (by omega) a
  ·omega
theorem CH(j:l<=b.size)(h:aF (aU b l).1=XL):0<(aU b l).1.text.size/\∀i,i<(aU b l).1.text.size->dQ (ar (aU b l).1.text i)=XL:=by
 unfold aU at h ⊢;simp only at h ⊢;have f:=jH b l j;have k:=gM b (skip b l) f.2;split
 ·next c=>rw[PZ c]at h;simp[aF]at h
 ·next c =>
  rw[PV c]at h;split
  ·next e=>rw[PZ e]at h;simp[aF]at h
  ·next e =>
   have a:(b.extract (skip b l) (bn b (skip b l))).size=bn b (skip b l)-skip b l:=by
    rw[Rj];omega
   simp only;rw[a];refine⟨by omega,?_⟩;intro i g;have d:ar (b.extract (skip b l) (bn b (skip b l))) i=ar b (skip b l+i):=by
    rw[aY _ i (by rw[a];exact g),aY b (skip b l+i) (by omega),Rz]
   rw[d];exact xL b (b.size-skip b l) (skip b l) _ (by omega) (show skip b l+i<bn b (skip b l) by omega)
theorem Fy(k:Nat)(d:k<=b.size)(h:aF (an b k).1=XL):∃j,j<=b.size/\an b k=aU b j:=by
 unfold an at h ⊢;generalize b.size-k+1=f at h ⊢
 induction f generalizing k with
 | zero=>simp[cU,aF]at h
 | succ f g =>
  have i:=eR b k d;have e:=eF b (aU b k).2 i.2.1;rw[cU]at h ⊢;split at h
  ·next a =>
   rw[PZ a];split at h
   ·next c=>rw[PZ c];exact g _ e.2 h
   ·next c=>exact absurd h c
  ·next a=>rw[PV a];exact⟨k,d,rfl⟩
theorem pg(k:l<=b.size)(h:aF (an b l).1=XL)(a:dz (an b l).1.text=XM):Wd (an b l).1.text:=by
 obtain⟨j,g,e⟩:=Fy b l k h;rw[e]at h a ⊢;have f:=CH b j g h;refine⟨f.1,fun i d=>⟨f.2 i d,?_⟩⟩;intro c;unfold dz at a;rw[Rv]at a;exact a i (Qe.2 d) (by simp[c])
theorem Cr:Nm Wd (aJ b).2:=qn _ b (fun k c h a=>pg b k c h a) _ 0 _ (Qx _) Nm.empty
structure fZ(w w':XP)(h h':Hd):Prop where
 kept:aa h.blk.toList w w'
 blk:h'.blk=h.blk∨∃g,h'.blk=XK g/\w.heap.size<=g
theorem pd(a:k∈x.blk.toList):x.blk=XK k:=by
 cases e:x.blk with
 | none=>rw[e]at a;simp at a
 | some y=>rw[e]at a;simp at a;rw[a]
theorem fZ.Ur(k:aa [] S n):fZ S n x x:=⟨k.mono (by simp),P0 rfl⟩
theorem fZ.trans{w1:XP}{f:Hd}(a:fZ S w1 x m)(b:fZ w1 n m f):fZ S n x f:=by
 refine⟨⟨b.kept.os.trans a.kept.os,b.kept.tape.trans a.kept.tape,b.kept.output.trans a.kept.output,Qk a.kept.size b.kept.size,fun k i j=>?_⟩,?_⟩
 ·rw[b.kept.block k (PY i a.kept.size) (fun l=>?_),a.kept.block k i j];have e:=pd l;rcases a.blk with c | ⟨g,c,d⟩
  ·exact j (by rw[<-c,e];simp)
  ·rw[c]at e;cases e;omega
 ·rcases b.blk with e | ⟨g,e,d⟩
  ·rcases a.blk with c | ⟨g,c,d⟩
   ·exact P0 (e.trans c)
   ·exact P7 ⟨g,e.trans c,d⟩
  ·exact P7 ⟨g,e,Qk a.kept.size d⟩
theorem fZ.made(a:S.grownBy n x.blk)(b:x.blk=XK k∨S.heap.size<=k):fZ S n x ⟨XK ⟨k,0,XJ⟩,i⟩ :=
 ⟨⟨a.os,a.tape,a.output,a.size,fun f c d=>a.block f c (fun e=>d (by rw[<-e];simp))⟩,by
  rcases b with e | e
  ·exact P0 e.symm
  ·exact P7 ⟨k,rfl,e⟩⟩
theorem aE.Ur(o:aE S x L)(k:aa [] S n):aE n x L:=o.Uw (fun q a=>k.block q (o.lt a) (by simp))
structure Dj(w wr:XP)(h:Hd)(r:fe):Prop where
 own:aE wr h r
 far:∀k,h.blk=XK k->w.heap.size<=k
 kept:aa [] w wr
theorem Dj.Ur(a:Dj S n x L)(k:aa [] n M):Dj S M x L:=⟨a.own.Ur k,a.far,a.kept.trans k⟩
theorem Dj.UB{d:fe}(a:Dj S n x L)(g:fZ n M x m)(o:aE M m d):Dj S M m d:=by
 refine⟨o,fun k b=>?_,⟨g.kept.os.trans a.kept.os,g.kept.tape.trans a.kept.tape,g.kept.output.trans a.kept.output,Qk a.kept.size g.kept.size,fun k b _=>?_⟩⟩
 ·rcases g.blk with e | ⟨q,e,c⟩
  ·exact a.far k (by rw[<-e];exact b)
  ·rw[e]at b;cases b;exact Qk a.kept.size c
 ·rw[g.kept.block k (PY b a.kept.size) (fun c=>by have:=a.far _ (pd c);omega),a.kept.block k b (by simp)]
theorem Dj.base(a:Dj n M x L)(k:aa [] S n):Dj S M x L:=⟨a.own,fun q b=>Qk k.size (a.far q b),k.trans a.kept⟩
theorem iy{P:Program}(w:XP){l:Array Oper}{d:List Oper}{o:Oper}{a:Act}{Q:Exit->Act->XP->Prop}(M:o.guard=XJ)(s x:Operand)(t:TypeId)(v:o.op=Op.call { callee:=Callee.builtin Builtin.append,args:=#[s,x],argTypes:=#[t,t] })(i:TypeInfo)(z:XQ)(c:Nat)(h:Hd)(r:fe)(b:List XQ)(D:P.underlying t=XK (.slice r.e))(E:P.info? r.e=XK i)(F:i.zero=XK z)(G:i.size=r.size)(H:i.bytes=c)(I:z.cells.size=r.size)(J:0<r.size)(R:a.eval s=Xz h.ao r.n h.cap)(k:aE w h r)(U:r.n<=1000000)(L:c<=1000)(S:a.eval x=Xz (XK ⟨w.heap.size,0,XJ⟩) 1 1)(V:b.length=r.size)(p:∀u∈b,u.oneCell'=XL)(K:∀m A,aE A m ⟨r.e,r.size,r.n+1,r.xs++b⟩->fZ w A h m->wpList P l Q d (a.put o.dst (Xz m.ao (r.n+1) m.cap)) A) :
  wpList P l Q (o :: d) a (w.alloc (XE b.toArray r.e)):=by
 have B:aa [] w (w.alloc (XE b.toArray r.e)):=(aa.refl [] _).alloc _;have O:(w.alloc (XE b.toArray r.e)).heap[w.heap.size]?=XK (XE b.toArray r.e):=PM _ _;refine aD _ M s x t v i z c h r D E F G H I J R (k.Ur B) ⟨w.heap.size,0,XJ⟩ 1 1 b S (by omega) ?_ p Qf (by unfold maxLen;omega) (Qk (Q3 (show r.n+1<=1000001 by omega) L) (by omega)) ?_
 ·intro j u N;rw[ba,ab O];simpa using N
 ·intro C f T y g q;exact K ⟨XK ⟨C,0,XJ⟩,f⟩ T y ((fZ.Ur B).trans (fZ.made g q))
def O8(bo:Option Nat):Option Addr:=bo.map (fun b=>⟨b,0,XJ⟩)
structure yd(w:XP)(bo:Option Nat)(L:List ByteArray):Prop where
 nil:bo=XJ ↔ L=[]
 blk:∀b,bo=XK b->w.heap[b]?=XK (XE (strs L).toArray 9)
structure Pu(π:Pl->Pl):Prop where
 XJ:π db=db
 col:∀p c,π { p with col:=c }={ π p with col:=c }
 same:∀p,(π p).col=p.col
def lC(d:Db):Prop:=d.kind=0->d.Ux=[]
theorem qS(h:lC w)(x:ByteArray)(p:Pl):lC (aK w x p).2:=by
 have b:∀d:Db,d.Ux=w.Ux->(d.kind=0->w.kind=0)->lC d:=fun d f g c=>by rw[f];exact h (g c)
 unfold aK;split
 ·next c =>
  have a:w.kind=0:=by simpa using c
  unfold aA;split
  ·exact b _ rfl (fun _=>a)
  ·split
   ·split
    ·exact h
    ·unfold dS;split <;> exact b _ rfl (fun _=>a)
   ·split
    ·split
     ·exact h
     ·exact b _ rfl (fun _=>a)
    ·split
     ·exact b _ rfl (fun _=>a)
     ·split
      ·exact b _ rfl (fun _=>a)
      ·split
       ·exact h
       ·unfold bj
        repeat' split
        all_goals first | exact h | exact b _ rfl (fun _=>a)
 ·next a =>
  split
  ·unfold aN
   repeat' split
   all_goals first | exact h | exact fun c=>by simp at c
  ·split
   ·unfold iU;split
    ·exact h
    ·split
     ·exact h
     ·exact fun _=>rfl
   ·split
    ·unfold bO;split
     ·exact h
     ·exact b _ rfl (fun c=>c)
    ·split
     ·exact h
     ·split
      ·intro c;have e:w.kind=0:=c;rw[e]at a;simp at a
      ·split
       ·exact b _ rfl (fun c=>c)
       ·exact h
theorem xd:lC bB:=fun _=>rfl
theorem zH(f:Nat):∀k d,lC d->lC (cV v b f k d).2:=by
 induction f with
 | zero=>intro k d h;exact h
 | succ f a =>
  intro k d h;rw[cV];split
  ·split
   ·exact a _ _ (qS h _ _)
   ·exact qS h _ _
  ·split
   ·split <;> exact h
   ·exact h
theorem dV.left(h:dV f):de (aJ f).2=XM/\(aJ f).2.Ux=[]/\lC (aJ f).2:=by
 have b:lC (aJ f).2:=zH ⟨#[109]⟩ f _ 0 bB xd;have a:de (aJ f).2=XM:=(pA (nW f ⟨#[]⟩) ⟨#[109]⟩ 0 bB (Qx _) h.ok).1;refine⟨a,b ?_,b⟩;unfold de at a;simp only[Bool.or_eq_false_iff]at a;simpa using a.1
structure Px(T c V:ByteArray)(a':Nat):Prop where
 size:V.size=a'+c.size
 same:∀i,i<c.size->ar V (a'+i)=ar c i
theorem so(h:(f.toList==N.toList)=XL):f=N:=by
 have a:f.toList=N.toList:=by simpa using h
 apply Sy;apply Su.1;rw[<-QF,<-QF];exact a
theorem Wd.noDollar(h:Wd f):dz f=XM:=by
 unfold dz;rw[Rv];intro i a;have:=(h.2 i (Qe.1 a)).2;simp[this]
theorem Wd.notKey(h:Wd f)(c:UInt8):(f.toList == [36,c])=XM:=by
 cases e:(f.toList == [36,c])
 ·rfl
 ·obtain⟨b,a,-⟩:=GE f c e;exact absurd a (h.2 0 h.1).2
theorem Dd(k z:Nat)(g:k<=z)(o:z<=b.size)(d:∀i,k<=i->i<z->dQ (ar b i)=XL)(c:z=b.size∨cc (ar b z)=XL):bn b k=z:=by
 obtain⟨n,rfl⟩:∃n,z=k+n:=⟨z-k,by omega⟩
 clear g
 induction n generalizing k with
 | zero=>exact il b _ (fun h=>by
   rcases c with e | e
   ·have:=h.1;omega
   ·rw[QT]at e;rw[e]at h;simp at h)
 | succ n j =>
  have a:=d k (PQ _) (by omega);have f:cc (ar b k)=XM:=by
   unfold dQ at a;unfold cc;simp only[Bool.and_eq_true,decide_eq_true_eq]at a;simp;omega
  rw[rS b k (by omega) f a];have:=j (k+1) (by omega) (fun i l m=>d i (by omega) (by omega)) (by rw[show k+1+n=k+(n+1) by omega];exact c);rw[this];omega
theorem LC(z:Nat)(d:l<z)(o:z<=b.size)(j:∀i,l<=i->i<z->dQ (ar b i)=XL)(a:z=b.size∨cc (ar b z)=XL)(m:((b.extract l z).toList == [36,40])=XM) :
  an b l=(⟨b.extract l z,0,XM,l⟩,z):=by
 have f:=j l (PQ _) d;have k:cc (ar b l)=XM:=by
  unfold dQ at f;unfold cc;simp only[Bool.and_eq_true,decide_eq_true_eq]at f;simp;omega
 have n:skip b l=l:=iL b l (fun h=>by rw[k]at h;simp at h);have c:=Dd b l z (by omega) o j a
 have g:aU b l=(⟨b.extract l z,0,XM,l⟩,z):=vH b l l z n.symm (by rw[c];exact il b z (fun h=>by
   rcases a with e | e
   ·have:=h.1;omega
   ·rw[e]at h;simp at h)) (fun h=>by
   rcases a with e | e
   ·have:=h.1;omega
   ·rw[e]at h;simp at h) d
 rw[fL b l (P7 (by rw[g];exact m)),g]
theorem vy(c:l<b.size)(a:cc (ar b l)=XL):an b l=an b (l+1):=by
 refine nQ b l (l+1) (by omega) (by omega) ?_;unfold aU;rw[kO b l c a]
theorem Fd:aF ⟨b,0,XM,l⟩=XL:=by simp[aF]
theorem LW(a:dV v):aJ (v++⟨#[10]⟩++b)=df ⟨#[109]⟩ (v++⟨#[10]⟩++b) (v.size+1) (aJ v).2/\de (aJ v).2=XM:=by
 have h:=pA (nW v b) ⟨#[109]⟩ 0 bB (Qx _) a.ok;exact⟨h.2,h.1⟩
theorem sA(f:l+b.size<=v.size)(d:∀i,i<b.size->ar v (l+i)=ar b i):v.extract l (l+b.size)=b:=by
 apply Sm
 ·simp only[ByteArray.size_extract];omega
 ·intro i e c;rw[Rz];have a:=d i c;rw[aY _ _ (by omega),aY _ _ c]at a;exact UInt8.toNat_inj.1 (by omega)
theorem FE(h:de w=XM):w.kind=0/\w.blocks=[]:=by
 simp only[de,Bool.or_eq_false_iff,bne_eq_false_iff_eq,decide_eq_false_iff_not]at h;exact⟨h.1,Ql (by omega)⟩
structure Oj(x:ByteArray):Prop where
 pos:0<x.size
 pl:∀i,i<x.size->dQ (ar x i)=XL
 com:(x.toList == [36,40])=XM
def cq:List (UInt8×ByteArray)->ByteArray
 | []=>⟨#[]⟩
 | (b,x) :: r=>⟨#[b]⟩++x++cq r
def ru:List (ByteArray×Pl)->Db->Option Db
 | [],d=>XK d
 | (x,p) :: r,d=>if((aK d x p).1==0)=XL then ru r (aK d x p).2 else XJ
def i9(n U:ByteArray):Nat->List (UInt8×ByteArray)->List (ByteArray×Pl)
 | _,[]=>[]
 | k,(_,x) :: r=>(x,fq n U (k+1)) :: i9 n U (k+1+x.size) r
theorem Af(a b:List (ByteArray×Pl))(d:Db):ru (a++b) d=(ru a d).bind (ru b):=by
 induction a generalizing d with
 | nil=>rfl
 | cons y a c =>
  obtain⟨x,p⟩:=y;simp only[List.cons_append,ru];split
  ·exact c _
  ·rfl
theorem uv(L:List (UInt8×ByteArray))(k:Nat):(i9 v b k L).map (·.1)=L.map (·.2):=by
 induction L generalizing k with
 | nil=>rfl
 | cons y L a=>obtain⟨c,x⟩:=y;simp[i9,a]
theorem nil_append:b++⟨#[]⟩=b:=by
 apply Sy;rw[QS];simp
theorem FW(L:List (UInt8×ByteArray))(q:∀y∈L,cc (y.1.toNat:Int)=XL/\Oj y.2):∀(A:ByteArray) (d g:Db),ru (i9 b (A++cq L) A.size L) d=XK g->de g=XM->df b (A++cq L) A.size d=((0,0),g):=by
 induction L with
 | nil =>
  intro A d g l s;have e:d=g:=by simpa [i9,ru] using l
  subst e;have I:A++cq []=A:=nil_append A;rw[I];have k:an A A.size=aU A A.size:=fL A A.size (P0 (by rw[pD A A.size (PQ _) (PQ _)];simp[aF]));rw[pD A A.size (PQ _) (PQ _)]at k;exact pz b A A.size d (by rw[k];simp[aF]) (by rw[k]) s
 | cons y L K =>
  obtain⟨a,x⟩:=y;intro A d g l s;obtain⟨C,o⟩:=q (a,x) (by simp);simp only at C o;have p:(⟨#[a]⟩:ByteArray).size=1:=rfl;have j:A++cq ((a,x) :: L)=(A++⟨#[a]⟩++x)++cq L:=by
   simp only[cq,ByteArray.append_assoc]
  have c:(A++⟨#[a]⟩++x).size=A.size+1+x.size:=by rw[Qd,Qd,p]
  have u:(A++cq ((a,x) :: L)).size=A.size+1+x.size+(cq L).size:=by rw[j,Qd,c]
  have D:ar (A++cq ((a,x) :: L)) A.size=(a.toNat:Int):=by
   rw[j,aW _ _ _ (by rw[c];omega),aW _ _ _ (by rw[Qd,p];omega)];have:=bi A ⟨#[a]⟩ 0 (by rw[p];omega);rw[QT]at this;rw[this];rfl
  have B:∀i,i<x.size->ar (A++cq ((a,x) :: L)) (A.size+1+i)=ar x i:=by
   intro i H;rw[j,aW _ _ _ (by rw[c];omega)];have:=bi (A++⟨#[a]⟩) x i H;rw[Qd,p]at this;exact this
  have E:A.size+1+x.size=(A++cq ((a,x) :: L)).size∨cc (ar (A++cq ((a,x) :: L)) (A.size+1+x.size))=XL:=by
   cases L with
   | nil=>left;rw[u];rfl
   | cons M z =>
    obtain⟨m,w⟩:=M
    right
    have r:=(q (m,w) (by simp)).1;have F:ar (A++cq ((a,x) :: (m,w) :: z)) (A.size+1+x.size)=(m.toNat:Int):=by
     rw[j];have:=bi (A++⟨#[a]⟩++x) (cq ((m,w) :: z)) 0 (by simp only[cq,ByteArray.size_append];have:(⟨#[m]⟩:ByteArray).size=1:=rfl;omega);rw[QT,c]at this;rw[this];simp only[cq];rw[Ry,aW _ _ 0 (by show 0<1;omega)];rfl
    rw[F];exact r
  have n:=sA (A++cq ((a,x) :: L)) x (A.size+1) (by omega) B;have k:=LC (A++cq ((a,x) :: L)) (A.size+1) (A.size+1+x.size) (by have:=o.pos;omega) (by omega)
   (fun i N O=>by rw[show i=A.size+1+(i-(A.size+1)) by omega,B _ (by omega)];exact o.pl _ (by omega)) E (by rw[n];exact o.com)
  rw[n]at k;have f:=vy (A++cq ((a,x) :: L)) A.size (by omega) (by rw[D];exact C);rw[k]at f;simp only[i9,ru]at l;split at l
  ·next G =>
   have v:aF (an (A++cq ((a,x) :: L)) A.size).1=XL:=(by rw[f];exact Fd _ _);rw[rN b _ A.size d (by omega) v (by rw[f];exact G),f];simp only;have t:ru (i9 b ((A++⟨#[a]⟩++x)++cq L) (A++⟨#[a]⟩++x).size L) (aK d x (fq b (A++cq ((a,x) :: L)) (A.size+1))).2=XK g:=by
    rw[<-j,c];exact l
   have:=K (fun y J=>q y (Qv _ J)) (A++⟨#[a]⟩++x) _ g t s;rw[<-j,c]at this;exact this
  ·cases l
theorem FX(k:dV b)(a:UInt8)(x:ByteArray)(L:List (UInt8×ByteArray))(l:a=10)(j:∀y∈(a,x) :: L,cc (y.1.toNat:Int)=XL/\Oj y.2)(c:Db)(o:ru (i9 ⟨#[109]⟩ (b++cq ((a,x) :: L)) b.size ((a,x) :: L)) (aJ b).2=XK c)(n:de c=XM):aJ (b++cq ((a,x) :: L))=((0,0),c):=by
 subst l;have m:=FW ⟨#[109]⟩ ((10,x) :: L) j b (aJ b).2 c o n;have e:b++cq ((10,x) :: L)=b++⟨#[10]⟩++(x++cq L):=by simp only[cq,ByteArray.append_assoc]
 have i:=(LW b (x++cq L) k).1;rw[<-e]at i;rw[i];have d:ar (b++cq ((10,x) :: L)) b.size=10:=by rw[e];exact(nW b _).lf
 have f:b.size<(b++cq ((10,x) :: L)).size:=by rw[e];exact(nW b _).lt
 have g:=vy (b++cq ((10,x) :: L)) b.size f (by rw[d];rfl);rw[<-nZ ⟨#[109]⟩ _ b.size (b.size+1) (aJ b).2 (by omega) (by omega) g];exact m
def bz(ws:List ByteArray)(d:Db)(R:Db->Prop):Prop:=∀l:List (ByteArray×Pl),l.map (·.1)=ws->∃d',ru l d=XK d'/\R d'
theorem bz.nil(h:o w):bz [] w o:=by
 intro l a;have:l=[]:=List.map_eq_nil_iff.1 a;subst this;exact⟨w,rfl,h⟩
theorem bz.mono{b:Db->Prop}(h:bz T w o)(f:∀a,o a->b a):bz T w b:=by
 intro l e;obtain⟨a,c,d⟩:=h l e;exact⟨a,c,f a d⟩
theorem bz.append{a:List ByteArray}{R:Db->Prop}(h:bz a w R)(i:∀b,R b->bz T b o):bz (a++T) w o:=by
 intro l c;have e:l=l.take a.length++l.drop a.length:=(RC _ _).symm;have f:(l.take a.length).map (·.1)=a:=by rw[Sx,c];simp
 have g:(l.drop a.length).map (·.1)=T:=by rw[List.map_drop,c];simp
 obtain⟨b,j,k⟩:=h _ f;obtain⟨d,m,n⟩:=i b k _ g;refine⟨d,?_,n⟩;rw[e,Af,j];exact m
theorem bz.one(h:∀p,(aK w f p).1=0/\o (aK w f p).2):bz [f] w o:=by
 intro l a
 match l,a with
 | [(y,p)],a =>
  have:y=f:=by simpa using a
  subst this;refine⟨_,?_,(h p).2⟩;simp only[ru,(h p).1];rfl
theorem bz.cons{R:Db->Prop}(h:∀p,(aK w f p).1=0/\R (aK w f p).2)(c:∀b,R b->bz T b o):bz (f :: T) w o:=bz.append (a:=[f]) (bz.one h) c
def kw(c:UInt8):ByteArray:=⟨#[36,c]⟩
theorem gE:(kw I).toList=[36,I]:=by unfold kw;rw[QF]
theorem Ny(h:33<=I.toNat/\I.toNat<=126)(a:I≠40):Oj (kw I):=by
 refine⟨by show 0<2;omega,?_,?_⟩
 ·intro i b;have a:i<2:=b
  match i,a with
  | 0,_=>rfl
  | 1,_ =>
   have:ar (kw I) 1=(I.toNat:Int):=rfl;rw[this];unfold dQ;simp;omega
 ·rw[gE];simp[a]
theorem Wd.wrd(h:Wd f):Oj f:=⟨h.1,fun i a=>(h.2 i a).1,h.notKey 40⟩
structure lB(d:Db):Prop where
 kind:d.kind=0
 syms:d.Um=[]
 prf:d.Uq=XM
 pr:d.Ux=[]
theorem NQ(h:lB w)(b:w.blocks=[])(p:Pl):aK w (kw 99) p=(0,{ w with kind:=7 }):=by
 unfold aK;rw[PZ (by rw[h.kind];rfl)];unfold aA;rw[gE];simp[b]
theorem NS(h:lB w)(p:Pl):aK w (kw 118) p=(0,{ w with kind:=8 }):=by
 unfold aK;rw[PZ (by rw[h.kind];rfl)];unfold aA;rw[gE];simp
theorem NR(h:lB w)(p:Pl):aK w (kw 100) p=(0,{ w with kind:=1 }):=by
 unfold aK;rw[PZ (by rw[h.kind];rfl)];unfold aA;rw[gE];simp
theorem GA(h:lB w)(p:Pl):aK w (kw 123) p=(0,{ w with blocks:=w.blocks++[(w.Uv.length,w.Uy.length)],rbl:=w.rbl++[w.UD.length] }):=by
 unfold aK;rw[PZ (by rw[h.kind];rfl)];unfold aA;rw[gE];simp
theorem CS(h:lB w)(q:Nat×Nat)(a:w.blocks.getLast?=XK q)(p:Pl):aK w (kw 125) p=(0,dS w q):=by
 unfold aK;rw[PZ (by rw[h.kind];rfl)];unfold aA;rw[gE,a];simp
theorem ua(h:lB w)(x:ByteArray)(a:Wd x)(b:dF x=XL)(c:cm w x=XM)(p:Pl):aK w x p=(0,{ w with Uu:=w.Uu++[x],label:=x,kind:=6 }):=by
 unfold aK;rw[PZ (by rw[h.kind];rfl)];unfold aA;simp only[a.notKey,Bool.false_eq_true,if_false,or_self];unfold bj;simp[a.noDollar,b,c]
theorem Mr{d:Db}(h:d.kind=6)(c:UInt8)(k:Int)(b:(c=102/\k=2)∨(c=101/\k=3)∨(c=97/\k=4))(p:Pl):aK d (kw c) p=(0,{ d with kind:=k }):=by
 unfold aK;rw[PV (by rw[h];decide),PZ (by rw[h];rfl)];unfold aN;rw[gE];rcases b with ⟨rfl,rfl⟩ | ⟨rfl,rfl⟩ | ⟨rfl,rfl⟩ <;> simp
theorem Aw{d:Db}(b:d.kind≠0)(c:d.kind≠6)(f:d.Uq=XM)(x:ByteArray)(a:Wd x)(e:aC d x=0)(p:Pl):aK d x p=(0,{ d with Um:=d.Um++[x] }):=by
 unfold aK;rw[PV (by simpa using b),PV (by simpa using c),PV (by rw[a.notKey];simp),PV (by rintro ⟨h,-⟩;rw[a.notKey]at h;cases h),PV (by rw[a.noDollar];simp),PV (by rw[f];simp),PZ (by rw[e];rfl)]
theorem tZ{d:Db}(b:d.kind≠0)(e:d.kind≠6)(c:d.kind≠5)(f:dX d<=d.Um.length)(p:Pl):aK d (kw 46) p=(0,{ bK d p with kind:=0,label:=⟨#[]⟩,Um:=[],Uq:=XM,Ux:=[] }):=by
 unfold aK;rw[PV (by simpa using b),PV (by simpa using e),PZ (by rw[gE];rfl)];unfold iU;rw[PV (by omega),PV (by rintro ⟨h,-⟩;exact c (by simpa using h))]
theorem tO(c:List ByteArray):∀(d:Db),d.kind≠0->d.kind≠6->d.Uq=XM->(∀y∈c,Wd y)->(∀(b:List ByteArray) y a,c=b++y :: a->aC { d with Um:=d.Um++b } y=0) ->
  bz c d (fun g=>g={ d with Um:=d.Um++c }):=by
 induction c with
 | nil=>intro d _ _ _ _ _;exact bz.nil (by simp)
 | cons y c r =>
  intro d j k m n l;have e:=l [] y c rfl;simp only[List.append_nil]at e;refine bz.cons (R:=fun i=>i={ d with Um:=d.Um++[y] }) (fun p=>by rw[Aw j k m y (n y (by simp)) e p];exact⟨rfl,rfl⟩) ?_;rintro i rfl;refine(r { d with Um:=d.Um++[y] } j k m (fun z q=>n z (Qv _ q)) ?_).mono ?_
  ·intro b z a o;have:=l (y :: b) z a (by rw[o];rfl);simpa using this
  ·rintro g rfl;simp
theorem OO(h:lB w)(l:w.blocks=[])(x:ByteArray)(n:Wd x)(m:cm w x=XM):bz [kw 99,x,kw 46] w (fun j=>j={ w with Uo:=w.Uo++[x],label:=⟨#[]⟩ }):=by
 refine bz.cons (R:=fun b=>b={ w with kind:=7 }) (fun p=>by rw[NQ h l];exact⟨rfl,rfl⟩) ?_;rintro b rfl;refine bz.cons (R:=fun b=>b={ w with kind:=7,Um:=[x] }) (fun p=>?_) ?_
 ·rw[Aw (d:={ w with kind:=7 }) (show(7:Int)≠0 by decide) (show(7:Int)≠6 by decide) h.prf x n ?_ p]
  ·exact⟨rfl,by simp[h.syms]⟩
  ·unfold aC;rw[PZ (by rfl),PV];rintro (d | d)
   ·have c:aM w.Um x=XL:=d;rw[h.syms]at c;simp[aM]at c
   ·exact Bool.noConfusion (m.symm.trans d)
 ·rintro b rfl;refine bz.one (fun p=>?_);rw[tZ (d:={ w with kind:=7,Um:=[x] }) (show(7:Int)≠0 by decide) (show(7:Int)≠6 by decide) (show(7:Int)≠5 by decide) (by simp[dX]) p];refine⟨rfl,?_⟩;have e:=h.kind;have f:=h.syms;have g:=h.prf;have i:=h.pr;obtain⟨v,s,D,q,C,r,A,z,k,u,B,t,y⟩:=w;simp only at e f g i;subst e f g i;simp[bK]
theorem JK(h:lB w)(a:ByteArray)(I:Wd a)(F:dF a=XL)(G:cm w a=XM)(c:UInt8)(k:Int)(z:(c=102/\k=2)∨(c=101/\k=3)∨(c=97/\k=4))(j:List ByteArray)(H:∀y∈j,Wd y)(A:1<=j.length)(x:k=2->j.length=2)(C:∀(f:List ByteArray) y i,j=f++y :: i->aC { w with kind:=k,Um:=f } y=0) :
  bz (a :: kw c :: (j++[kw 46])) w (fun s=>∃p,s={ w with Uu:=w.Uu++[a],Uy:=if k=2 then w.Uy++[j.getD 1 ⟨#[]⟩] else w.Uy,UD:=w.UD++[⟨k,a,j,[],p,0⟩],label:=⟨#[]⟩ }):=by
 have E:k=2∨k=3∨k=4:=by rcases z with ⟨_,h⟩ | ⟨_,h⟩ | ⟨_,h⟩ <;> omega
 refine bz.cons (R:=fun l=>l={ w with Uu:=w.Uu++[a],label:=a,kind:=6 }) (fun p=>by rw[ua h a I F G];exact⟨rfl,rfl⟩) ?_;rintro l rfl;refine bz.cons (R:=fun l=>l={ w with Uu:=w.Uu++[a],label:=a,kind:=k }) (fun p=>by rw[Mr (d:={ w with Uu:=w.Uu++[a],label:=a,kind:=6 }) rfl c k z];exact⟨rfl,rfl⟩) ?_;rintro l rfl;refine bz.append (R:=fun l=>l={ w with Uu:=w.Uu++[a],label:=a,kind:=k,Um:=j }) ?_ ?_
 ·refine(tO j { w with Uu:=w.Uu++[a],label:=a,kind:=k } (by show k≠0;omega) (by show k≠6;omega) h.prf H ?_).mono ?_
  ·intro f y i D;have B:=C f y i D;have e:aC { w with Uu:=w.Uu++[a],label:=a,kind:=k,Um:=w.Um++f } y=aC { w with kind:=k,Um:=f } y:=by
    rw[h.syms];unfold aC;have q:(k==7)=XM:=by rw[Qi];omega
    have r:(k==8)=XM:=(by rw[Qi];omega);have n:(k==1)=XM:=(by rw[Qi];omega);simp only[q,r,n,Bool.false_eq_true,if_false,List.nil_append];rfl
   rw[e];exact B
  ·rintro s rfl;simp[h.syms]
 ·rintro l rfl;refine bz.one (fun p=>?_);rw[tZ (d:={ w with Uu:=w.Uu++[a],label:=a,kind:=k,Um:=j }) (by show k≠0;omega) (by show k≠6;omega) (by show k≠5;omega) ?_ p]
  ·refine⟨rfl,p,?_⟩;have e:=h.kind;have t:=h.syms;have u:=h.prf;have v:=h.pr;obtain⟨P,L,W,J,V,K,T,S,N,O,U,M,Q⟩:=w;simp only at e t u v;subst e t u v;have q:(k==7)=XM:=(by rw[Qi];omega);have r:(k==8)=XM:=(by rw[Qi];omega);by_cases d:k=2
   ·have g:=x d;subst d;simp[bK,dh,ov,g]
   ·have o:(k==2)=XM:=(by rw[Qi];exact d);simp[bK,dh,ov,q,r,o,d]
  ·unfold dX;by_cases d:k=2
   ·have g:=x d;simp[d,g]
   ·have o:(k==2)=XM:=(by rw[Qi];exact d);have n:(k==1)=XM:=(by rw[Qi];omega);simp[n,o];omega
theorem JI(h:lB w)(c:UInt8)(k:Int)(A:(c=118/\k=8)∨(c=100/\k=1))(f:List ByteArray)(F:∀y∈f,Wd y)(B:1<=f.length)(D:k=1->2<=f.length)(j:f.Pairwise (fun a b=>(a.toList==b.toList)=XM))(E:∀y∈f,if k=8 then di w y=XM else aM w.Uv y=XL) :
  bz (kw c :: (f++[kw 46])) w (fun s=>∃p,s={ (if k=8 then dx { w with Um:=f } f.length else { w with UD:=w.UD++[⟨1,w.label,f,[],p,0⟩] }) with kind:=0,label:=⟨#[]⟩,Um:=[],Uq:=XM,Ux:=[] }):=by
 have l:k=8∨k=1:=by rcases A with ⟨_,h⟩ | ⟨_,h⟩ <;> omega
 refine bz.cons (R:=fun n=>n={ w with kind:=k }) (fun p=>?_) ?_
 ·rcases A with ⟨rfl,rfl⟩ | ⟨rfl,rfl⟩
  ·rw[NS h];exact⟨rfl,rfl⟩
  ·rw[NR h];exact⟨rfl,rfl⟩
 rintro n rfl;refine bz.append (R:=fun n=>n={ w with kind:=k,Um:=f }) ?_ ?_
 ·refine(tO f { w with kind:=k } (by show k≠0;omega) (by show k≠6;omega) h.prf F ?_).mono ?_
  ·intro m y C x;have G:y∈f:=(by rw[x];simp);have i:=E y G;have q:aM m y=XM:=by
    unfold aM;rw[Rv];intro z H;rw[x]at j;have:=(List.pairwise_append.1 j).2.2 z H y (by simp);simp[this]
   rw[h.syms];unfold aC;rcases l with rfl | rfl
   ·rw[PZ rfl]at i;rw[PV (show ¬((8:Int)==7)=XL by decide),PZ (by rfl),PV];rintro (o | o)
    ·have g:aM m y=XL:=(by simpa using o);rw[q]at g;cases g
    ·exact Bool.noConfusion (i.symm.trans o)
   ·rw[PV (by decide)]at i;rw[PV (show ¬((1:Int)==7)=XL by decide),PV (show ¬((1:Int)==8)=XL by decide),PZ (by rfl)];unfold fH;rw[PV (by show ¬aM w.Uv y=XM;rw[i];simp),PV];intro o;have g:aM m y=XL:=by simpa using o
    rw[q]at g;cases g
  ·rintro s rfl;simp[h.syms]
 ·rintro n rfl;refine bz.one (fun p=>?_);rw[tZ (d:={ w with kind:=k,Um:=f }) (by show k≠0;omega) (by show k≠6;omega) (by show k≠5;omega) ?_ p]
  ·refine⟨rfl,p,?_⟩;have e:=h.kind;have t:=h.syms;have u:=h.prf;have v:=h.pr;obtain⟨P,L,W,J,V,K,T,S,N,O,U,M,Q⟩:=w;simp only at e t u v;subst e t u v;rcases l with rfl | rfl
   ·simp[bK,dx]
   ·simp[bK,dh,ov]
  ·unfold dX;rcases l with rfl | rfl
   ·simp;omega
   ·have:=D rfl;simp;omega
theorem JJ(h:lB w):bz [kw 123] w (fun b=>b={ w with blocks:=w.blocks++[(w.Uv.length,w.Uy.length)],rbl:=w.rbl++[w.UD.length] }) :=
 bz.one (fun p=>by rw[GA h];exact⟨rfl,rfl⟩)
theorem Gl(h:lB w)(q:Nat×Nat)(b:w.blocks.getLast?=XK q):bz [kw 125] w (fun a=>a=dS w q) :=
 bz.one (fun p=>by rw[CS h q b];exact⟨rfl,rfl⟩)
structure Pq(s:ByteArray)(k z1 z2 z3:Nat)(nm:List UInt8):Prop where
 w1:aF (an s k).1=XL
 t1:((an s k).1.text.toList == [36,91])=XL
 e1:(an s k).2=z1
 w2:aF (an s z1).1=XL
 t2:(an s z1).1.text.toList=nm
 e2:(an s z1).2=z2
 w3:aF (an s z2).1=XL
 t3:((an s z2).1.text.toList == [36,93])=XL
 e3:(an s z2).2=z3
def rX(b x:Nat)(T:ByteArray)(o:Option Nat)(fs':Fs)(r ln cl:Int)(l:List St)(w:XP)(e:Ending)(w':XP):Prop :=
 ∃o',e=XH (if(r==0)=XL then eG (eV o' (f9 l).length) 0 ⟨#[]⟩ 0 0 0 else eG (Xz XJ 0 0) r ⟨#[109]⟩ ln cl 6)/\((r==0)=XL->dq w' o' (f9 l))/\(∀g,o'=XK g->w.heap.size<=g)/\aR w' b x T o/\br w' x fs'/\aa [x] w w'
theorem Hx(a:(s==0)=XM)(d:aR n k i f z4)(b:br n i z5)(c:aa [i] S n) :
  rX k i f z4 z5 s z6 z7 y S (XH (eG (Xz XJ 0 0) s ⟨#[109]⟩ z6 z7 6)) n:=by
 refine⟨XJ,?_,fun h=>?_,fun g h=>(by cases h),d,b,c⟩
 ·rw[PV (by rw[a];simp)]
 ·rw[a]at h;cases h
theorem EF{ob:Option Nat}{a:XQ}(l:(s==0)=XL)(m:eV ob (f9 y).length=a)(d:dq n ob (f9 y))(j:∀g,ob=XK g->S.heap.size<=g)(e:aR n k i f z4)(b:br n i z5)(c:aa [i] S n) :
  rX k i f z4 z5 s z6 z7 y S (XH (eG a 0 ⟨#[]⟩ 0 0 0)) n:=by
 refine⟨ob,?_,fun _=>d,j,e,b,c⟩;rw[PZ l,m]

end Go.Proofs.YtnbalopedcgpcaaGreat
