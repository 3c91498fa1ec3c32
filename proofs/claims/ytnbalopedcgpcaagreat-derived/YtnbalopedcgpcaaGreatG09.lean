import Derived.Test.YtnbalopedcgpcaaGreatG08
namespace Go.Proofs.YtnbalopedcgpcaaGreat
open Go.RowKit Tryz
open Value renaming int->Xx,string->Xy,slice->Xz,agg->XB,bool->XC
open Obj renaming cells->XE
open IntKind renaming i64->XF
open Ending renaming returned->XH
open World renaming cell?->XI
open Option renaming none->XJ,some->XK
open Bool renaming true->XL,false->XM
open Go.RowKit renaming Hid->XN
open Go renaming Calls->XO,World->XP,Value->XQ
set_option maxHeartbeats 0
variable{y:Db}{k:Nat}{b T:ByteArray}{u:List St}{o p:XP}{t:Option Nat}(i w:ByteArray)(s D:Nat)(x:Db)(M:Nat)(a:List ByteArray)(m:XP)(n:Fs)(I:List St)(f:Nat)(l:ByteArray)(g:Pl)(z0 c:Option Nat)
structure jw(d:Db)(m:Nat):Prop where
  Uu:d.Uu.length<=m
  Uo:d.Uo.length+d.Um.length<=m
  Up:d.Up.length+d.Um.length<=m
  Uv:d.Uv.length+d.Um.length<=m
  Uy:d.Uy.length+d.Um.length<=m
  blocks:d.blocks.length<=m
  UD:d.UD.length<=m
  Ux:d.Ux.length<=m
  inner:∀p,p∈d.blocks->p.1<=m/\p.2<=m
  same:d.rbl.length=d.blocks.length
  recs:∀x,x∈d.rbl->x<=d.UD.length
theorem jw.small{N:Nat}(h:jw y k)(b:k<=N):eu y N/\xY y N :=
  ⟨⟨by have:=h.Uu;omega,by have:=h.Uo;omega,by have:=h.Up;omega,by have:=h.Uv;omega,by have:=h.Uy;omega,by have:=h.blocks;omega,by have:=h.UD;omega,by have:=h.blocks;have:=h.same;omega,by have:=h.Uo;omega,by have:=h.Ux;omega⟩,
   ⟨fun p a=>by have:=h.inner p a;omega,h.same,h.recs⟩⟩
theorem jw.mono{m':Nat}(h:jw y k)(b:k<=m'):jw y m' :=
  ⟨by have:=h.Uu;omega,by have:=h.Uo;omega,by have:=h.Up;omega,by have:=h.Uv;omega,by have:=h.Uy;omega,by have:=h.blocks;omega,by have:=h.UD;omega,by have:=h.Ux;omega,fun p a=>by have:=h.inner p a;omega,h.same,h.recs⟩
theorem jw.empty:jw bB 0:=by
  refine⟨?_,?_,?_,?_,?_,?_,?_,?_,?_,?_,?_⟩ <;> simp[bB]
theorem jw.plain(h:jw y k)(c:Int)(l:ByteArray)(b:Bool):jw { y with kind:=c,label:=l,Uq:=b } k:=⟨h.Uu,h.Uo,h.Up,h.Uv,h.Uy,h.blocks,h.UD,h.Ux,h.inner,h.same,h.recs⟩
theorem nE:(cH I f).length=I.length:=gO I f I.length
theorem jw.declare(h:jw y k)(p:Pl):jw { bK y p with kind:=0,label:=⟨#[]⟩,Um:=[],Uq:=XM,Ux:=[] } (k+1):=by
  have d:=h.Uo;have e:=h.Up;have f:=h.Uv;have g:=h.Uy;have a:=h.mono (Sa k);unfold bK;split
  · exact⟨a.Uu,by simp;omega,by simp;omega,by simp;omega,by simp;omega,a.blocks,a.UD,by simp,a.inner,a.same,a.recs⟩
  · split
    · have:=AA y.Up (y.Um.take y.Um.length)
      simp only[List.take_length]at this;exact⟨a.Uu,by simp[dx];omega,by simp[dx];omega,by simp[dx];omega,by simp[dx];omega,a.blocks,a.UD,by simp,a.inner,a.same,a.recs⟩
    · unfold dh ov
      have:=h.UD;split
      · next i=>exact⟨a.Uu,by simp;omega,by simp;omega,by simp;omega,by simp;omega,a.blocks,by simp;omega,by simp,a.inner,a.same,fun x b=>by have:=h.recs x b;simp;omega⟩
      · exact⟨a.Uu,by simp;omega,by simp;omega,by simp;omega,by simp;omega,a.blocks,by simp;omega,by simp,a.inner,a.same,fun x b=>by have:=h.recs x b;simp;omega⟩
theorem jw.take(h:jw y k)(x:ByteArray)(o:Pl):jw (aK y x o).2 (k+1):=by
  have a:=h.mono (Sa k);have b:=fun r=>a.plain r y.label y.Uq;have s:=h.Uu;have t:=h.Uo;have u:=h.Up;have v:=h.Uv;have w:=h.Uy;have z:=h.blocks;have l:jw (bj y x).2 (k+1):=by
    unfold bj;split
    · exact a
    · split
      · exact a
      · split
        · exact a
        · exact⟨by simp;omega,a.Uo,a.Up,a.Uv,a.Uy,a.blocks,a.UD,a.Ux,a.inner,a.same,a.recs⟩
  have j:jw (aN y x).2 (k+1):=by
    unfold aN;split
    · exact b 2
    · split
      · exact b 3
      · split
        · exact b 4
        · split
          · exact b 5
          · exact a
  have i:jw (aA y x).2 (k+1):=by
    unfold aA;split
    · refine⟨a.Uu,a.Uo,a.Up,a.Uv,a.Uy,by simp;omega,a.UD,a.Ux,?_,by simp[h.same],?_⟩
      · intro p c
        simp only[List.mem_append,List.mem_singleton]at c;rcases c with c | rfl
        · exact a.inner p c
        · simp only;omega
      · intro f d
        simp only[List.mem_append,List.mem_singleton]at d;rcases d with d | rfl
        · exact h.recs f d
        · exact PQ _
    · split
      · split
        · exact a
        · next p c =>
          unfold dS;have n:y.rbl≠[]:=by
            intro e;have:=h.same;rw[e,nM c]at this;simp at this
          obtain⟨f,d⟩:∃f,y.rbl.getLast?=XK f:=⟨_,Td n⟩
          rw[d];refine⟨a.Uu,a.Uo,a.Up,?_,?_,?_,?_,a.Ux,?_,?_,?_⟩
          · simp only[cL,List.length_take];omega
          · simp only[cL,List.length_take];omega
          · simp only[cL,List.length_dropLast];omega
          · show(cH y.UD f).length<=_;rw[nE];exact a.UD
          · intro q m
            simp only[cL]at m;exact a.inner q (Tf _ m)
          · simp only[cL,List.length_dropLast,h.same]
          · intro q m
            show q<=(cH y.UD f).length;rw[nE];exact h.recs q (Tf _ m)
      · split
        · split
          · exact a
          · exact b 7
        · split
          · exact b 8
          · split
            · exact b 1
            · split
              · exact a
              · exact l
  have g:jw (iU y o).2 (k+1):=by
    unfold iU;split
    · exact a
    · split
      · exact a
      · exact h.declare o
  unfold aK;split
  · exact i
  · split
    · exact j
    · split
      · exact g
      · split
        · unfold bO
          split
          · exact a
          · exact a.plain y.kind y.label XL
        · split
          · exact a
          · split
            · exact⟨a.Uu,a.Uo,a.Up,a.Uv,a.Uy,a.blocks,a.UD,by have:=h.Ux;simp;omega,a.inner,a.same,a.recs⟩
            · split
              · exact⟨a.Uu,by simp;omega,by simp;omega,by simp;omega,by simp;omega,a.blocks,a.UD,a.Ux,a.inner,a.same,a.recs⟩
              · exact a
def Kv(fs:Fs)(bg:List Bool)(j:Nat):Nat:=if bg.getD j XL=XL then 0 else(PH fs j).size+2
def dn(fs:Fs)(bg:List Bool):Nat:=Kv fs bg 0+Kv fs bg 1+Kv fs bg 2+Kv fs bg 3
theorem te(f:List Bool)(j:Nat)(g:f.length=4)(e:f.getD j XL=XM):dn n (f.set j XL)+(PH n j).size+2=dn n f:=by
  match f,g with
  | [a,b,c,d],_ =>
    match j with
    | 0=>simp at e;subst e;simp[dn,Kv];omega
    | 1=>simp at e;subst e;simp[dn,Kv];omega
    | 2=>simp at e;subst e;simp[dn,Kv];omega
    | 3=>simp at e;subst e;simp[dn,Kv];omega
    | j+4=>simp at e
def OY(fs:Fs)(bg:List Bool)(m:Nat)(r:Ks):Prop :=
  r.2.1.length=4/\dn fs r.2.1<=dn fs bg/\∃m',jw r.2.2 m'/\m'+dn fs r.2.1<=m+dn fs bg
theorem Aq(p:∀j a d m,a.length=4->jw d m->OY n a m (cA n f j a d))(x k:Nat)(a:List Bool)(d:Db)(m:Nat)(r:k<=(PH n x).size)(o:a.length=4)(i:jw d m)(s:aF (an (PH n x) k).1=XL) :
    OY n a (m+1) (fa n f x k a d).1/\k<(fa n f x k a d).2/\(fa n f x k a d).2<=(PH n x).size:=by
  have e:=dG (PH n x) k r;have c:=e.2.2 s;unfold fa gW;split
  · unfold lu
    split
    · exact⟨⟨o,PQ _,m,i,by simp only;omega⟩,c,e.2.1⟩
    · next j z b =>
      have g:=p j a d m o i;refine⟨⟨g.1,g.2.1,?_⟩,?_⟩
      · obtain⟨u,v,y⟩:=g.2.2;exact⟨u,v,by simp only;omega⟩
      · unfold BI at b
        have t:=dG (PH n x) (an (PH n x) k).2 e.2.1;have w:=dG (PH n x) (an (PH n x) (an (PH n x) k).2).2 t.2.1
        repeat' split at b
        all_goals first | (cases b;done) | skip
        injection b with b
        injection b with q l
        subst l;omega
  · exact⟨⟨o,PQ _,m+1,i.take _ _,by simp only;omega⟩,c,e.2.1⟩
theorem Iy(f:Nat):(∀x k a d m,k<=(PH n x).size->a.length=4->jw d m->(bh n f x k a d).2.1.length=4/\dn n (bh n f x k a d).2.1<=dn n a/\∃c,jw (bh n f x k a d).2.2 c/\c+dn n (bh n f x k a d).2.1<=m+((PH n x).size-k)+dn n a) /\
    (∀j a d m,a.length=4->jw d m->OY n a m (cA n f j a d)):=by
  have b:∀f,(∀x k a d m,k<=(PH n x).size->a.length=4->jw d m->(bh n f x k a d).2.1.length=4/\dn n (bh n f x k a d).2.1<=dn n a/\∃c,jw (bh n f x k a d).2.2 c/\c+dn n (bh n f x k a d).2.1<=m+((PH n x).size-k)+dn n a) ->
      (∀j a d m,a.length=4->jw d m->OY n a m (cA n f j a d)):=by
    intro f h j a d m e g;unfold cA;split
    · exact⟨e,PQ _,m,g,PQ _⟩
    · next w =>
      have o:a.getD j XL=XM:=(by simpa using w);have F:=te n a j e o;have:=h j 0 (a.set j XL) d m (Qx _) (by simpa using e) g;refine⟨this.1,by omega,?_⟩;obtain⟨c,z,G⟩:=this.2.2;exact⟨c,z,by omega⟩
  induction f with
  | zero =>
    have p:∀x k a d m,k<=(PH n x).size->a.length=4->jw d m->(bh n 0 x k a d).2.1.length=4/\dn n (bh n 0 x k a d).2.1<=dn n a/\∃c,jw (bh n 0 x k a d).2.2 c/\c+dn n (bh n 0 x k a d).2.1<=m+((PH n x).size-k)+dn n a:=by
      intro x k a d m r e g;exact⟨e,PQ _,m,g,by simp only[bh];omega⟩
    exact⟨p,b 0 p⟩
  | succ f s =>
    have q:∀x k a d m,k<=(PH n x).size->a.length=4->jw d m->(bh n (f+1) x k a d).2.1.length=4/\dn n (bh n (f+1) x k a d).2.1<=dn n a/\∃c,jw (bh n (f+1) x k a d).2.2 c/\c+dn n (bh n (f+1) x k a d).2.1<=m+((PH n x).size-k)+dn n a:=by
      intro x k a d m r e g;cases l:aF (an (PH n x) k).1 with
      | true =>
        have E:=Aq n f s.2 x k a d m r e g l;obtain⟨⟨u,C,t,v,J⟩,K,D⟩:=E;cases i:((fa n f x k a d).1.1.1==0) with
        | true =>
          rw[DG n f x k a d l i];obtain⟨A,H,y,B,I⟩:=s.1 x (fa n f x k a d).2 (fa n f x k a d).1.2.1 (fa n f x k a d).1.2.2 t D u v;exact⟨A,by omega,y,B,by omega⟩
        | false =>
          rw[rI n f x k a d l i];exact⟨u,C,t,v,by omega⟩
      | false =>
        by_cases i:(an (PH n x) k).1.fin=XL/\de d=XM
        · rw[wK n f x k a d l i.1 i.2];exact⟨e,PQ _,m,g,by simp only;omega⟩
        · rw[sJ n f x k a d l i];exact⟨e,PQ _,m,g,by simp only;omega⟩
    exact⟨q,b (f+1) q⟩
theorem um(k:Nat)(a:l.size<=1024):(aI l k).1.text.size<=1024:=by
  unfold aI;generalize l.size-k+1=f
  induction f generalizing k with
  | zero=>simp[bT,ByteArray.size]
  | succ f b =>
    rw[bT];split
    · split
      · simp[ByteArray.size]
      · exact b _
    · split
      · simp[ByteArray.size]
      · exact mJ l k a
theorem jr(k:Nat)(a:l.size<=1024):(an l k).1.text.size<=1024:=by
  unfold an;generalize l.size-k+1=f
  induction f generalizing k with
  | zero=>simp[cU,ByteArray.size]
  | succ f b =>
    rw[cU];split
    · split
      · exact b _
      · exact um l _ a
    · exact mJ l k a
structure Kr(T U:ByteArray):Prop where
 lt:T.size<U.size
 same:∀i,i<T.size->ar U i=ar T i
 lf:ar U T.size=10
theorem wk:cc 10=XL:=by decide
theorem JQ(h:Kr b T)(k:Nat)(d:k<=b.size):(skip b k<b.size->skip T k=skip b k)/\(skip b k=b.size->skip T k=skip T (b.size+1)):=by
 have f:=h.lt
 suffices H:∀n k,k<=b.size->b.size-k=n->(skip b k<b.size->skip T k=skip b k)/\(skip b k=b.size->skip T k=skip T (b.size+1)) from H _ k d rfl
 intro n
 induction n with
 | zero =>
  intro k d l;have e:k=b.size:=by omega
  subst e;have g:skip b b.size=b.size:=iL b _ (by omega);refine⟨fun j=>by omega,fun _=>kO T _ f (by rw[h.lf];exact wk)⟩
 | succ n m =>
  intro k d l;have a:k<b.size:=by omega
  cases c:cc (ar b k) with
  | true =>
   rw[kO b k a c,kO T k (by omega) (by rw[h.same k a];exact c)];exact m (k+1) (by omega) (by omega)
  | false =>
   have g:skip b k=k:=iL b k (by simp[c]);have i:skip T k=k:=iL T k (by rw[h.same k a];simp[c]);rw[g,i];exact⟨fun _=>rfl,fun j=>by omega⟩
theorem AL(h:Kr b T)(k:Nat)(f:k<=b.size):bn T k=bn b k:=by
 have g:=h.lt
 suffices H:∀n k,k<=b.size->b.size-k=n->bn T k=bn b k from H _ k f rfl
 intro n
 induction n with
 | zero =>
  intro k f i;have e:k=b.size:=by omega
  subst e;rw[il b _ (by omega),il T _ (by rw[h.lf];simp[wk])]
 | succ n j =>
  intro k f i;have a:k<b.size:=by omega
  by_cases c:cc (ar b k)=XM/\dQ (ar b k)=XL
  ·rw[rS b k a c.1 c.2,rS T k (by omega) (by rw[h.same k a];exact c.1) (by rw[h.same k a];exact c.2)];exact j (k+1) (by omega) (by omega)
  ·rw[il b k (fun d=>c ⟨d.2.1,d.2.2⟩),il T k (fun d=>c (by rw[<-h.same k a];exact⟨d.2.1,d.2.2⟩))]
theorem yO(h:Kr b T)(a z:Nat)(k:z<=b.size):T.extract a z=b.extract a z:=by
 have g:=h.lt;apply Sy;apply Array.ext
 ·simp;omega
 ·intro i j f;have c:a+i<b.size:=by simp at f;omega
  have:=h.same (a+i) c;rw[aY T _ (by omega),aY b _ c]at this;have e:T[a+i].toNat=b[a+i].toNat:=by omega
  have d:T[a+i]=b[a+i]:=UInt8.toNat_inj.1 e;simpa [ByteArray.getElem_eq_getElem_data] using d
theorem Gs(b:f<=w.size):skip w (skip w f)=skip w f:=by
 suffices H:∀n f,f<=w.size->w.size-f=n->skip w (skip w f)=skip w f from H _ f b rfl
 intro n
 induction n with
 | zero =>
  intro f b c;have e:skip w f=f:=iL w f (by omega);rw[e,e]
 | succ n d =>
  intro f b c;by_cases a:f<w.size/\cc (ar w f)=XL
  ·rw[kO w f a.1 a.2];exact d (f+1) (by omega) (by omega)
  ·rw[iL w f a,iL w f a]
theorem pD(h:w.size<=f)(d:f<=w.size):aU w f=(⟨⟨#[]⟩,0,XL,f⟩,f):=by
 have a:=jH w f d;have b:=gM w (skip w f) a.2;have e:skip w f=f:=by omega
 have c:bn w f=f:=by rw[e]at b;omega
 simp only[aU,e,c];rw[PV (by omega),PZ (by omega)]
theorem JG(h:(aU w f).1.fin=XL):(aU w f).1.rule=0:=by
 unfold aU at h ⊢;simp only at h ⊢;split at h
 ·cases h
 ·next a =>
  rw[PV a];split at h
  ·next b=>rw[PZ b]
  ·cases h
theorem oe(k:f<=w.size) :
  (∃z,z<w.size/\bn w (skip w f)=z/\cc (ar w z)=XM/\aU w f=(⟨⟨#[]⟩,1,XM,z⟩,z)) ∨
  (skip w f=w.size/\aU w f=(⟨⟨#[]⟩,0,XL,w.size⟩,w.size)) ∨
  (∃z,skip w f<z/\z<=w.size/\bn w (skip w f)=z/\¬(z<w.size/\cc (ar w z)=XM)/\aU w f=(⟨w.extract (skip w f) z,0,XM,skip w f⟩,z)):=by
 have a:=jH w f k;have b:=gM w (skip w f) a.2;by_cases c:bn w (skip w f)<w.size/\cc (ar w (bn w (skip w f)))=XM
 ·left
  refine⟨bn w (skip w f),c.1,rfl,c.2,?_⟩;simp only[aU];rw[PZ c]
 ·by_cases j:bn w (skip w f)<=skip w f
  ·right;left
   have e:bn w (skip w f)=skip w f:=(by omega);have i:skip w f=w.size:=by
    rcases R1 (skip w f) w.size with g | g
    ·exfalso
     rw[e]at c;have d:cc (ar w (skip w f))=XL:=by
      cases l:cc (ar w (skip w f)) with
      | true=>rfl
      | false=>exact absurd ⟨g,l⟩ c
     have m:=kO w (skip w f) g d;have n:skip w (skip w f)=skip w f:=Gs w f k;have:=jH w (skip w f+1) (by omega);omega
    ·omega
   refine⟨i,?_⟩;simp only[aU];rw[PV c,PZ j,e,i]
  ·right;right
   refine⟨bn w (skip w f),by omega,b.2,rfl,c,?_⟩;simp only[aU];rw[PV c,PV j]
theorem xu(h:Kr b T)(k:Nat)(j:k<=b.size) :
  ((aU b k).1.fin=XM->aU T k=aU b k)/\((aU b k).1.fin=XL->aU T k=aU T (b.size+1)/\aU b k=(⟨⟨#[]⟩,0,XL,b.size⟩,b.size)):=by
 have r:=h.lt;have q:=JQ h k j;have p:=jH b k j;rcases oe b k j with ⟨z,t,n,i,d⟩ | ⟨s,d⟩ | ⟨z,u,o,n,i,d⟩
 ·refine⟨fun _=>?_,fun e=>by rw[d]at e;cases e⟩;have a:=gM b (skip b k) p.2;have f:skip T k=skip b k:=q.1 (by omega);have g:bn T (skip b k)=z:=(AL h _ p.2).trans n;rw[d];simp only[aU,f,g];rw[PZ ⟨by omega,by rw[h.same z t];exact i⟩]
 ·refine⟨fun e=>(by rw[d]at e;cases e),fun _=>⟨?_,d⟩⟩;have f:=q.2 s;simp only[aU,f]
 ·refine⟨fun _=>?_,fun e=>by rw[d]at e;cases e⟩;have f:skip T k=skip b k:=q.1 (by omega);have g:bn T (skip b k)=z:=(AL h _ p.2).trans n;rw[d];simp only[aU,f,g];have m:¬(z<T.size/\cc (ar T z)=XM):=by
   rintro ⟨_,c⟩;rcases R1 z b.size with l | l
   ·rw[h.same z l]at c;exact i ⟨l,c⟩
   ·have:z=b.size:=(by omega);rw[this,h.lf,wk]at c;cases c
  rw[PV m,PV (by omega),yO h _ _ o]
theorem oJ(k:Nat):(aI l k).1.fin=XM:=by
 unfold aI;generalize l.size-k+1=f
 induction f generalizing k with
 | zero=>rfl
 | succ f a =>
  rw[bT];split
  ·split
   ·rfl
   ·exact a _
  ·split
   ·rfl
   ·next h=>simpa using h
theorem qJ(h:Kr b T)(k:Nat)(f:k<=b.size)(d:(aI b k).1.rule≠3):aI T k=aI b k:=by
 have p:=h.lt
 suffices H:∀n k,k<=b.size->b.size-k<=n->(aI b k).1.rule≠3->aI T k=aI b k from H _ k f (PQ _) d
 clear f d k;intro n
 induction n with
 | zero =>
  intro k f q d
  exfalso
  apply d;have e:k=b.size:=by omega
  subst e;have l:aU b b.size=(⟨⟨#[]⟩,0,XL,b.size⟩,b.size):=pD b b.size (PQ _) (PQ _);rw[kx b b.size (by rw[l];rfl) (by rw[l])]
 | succ n r =>
  intro k f q d;have o:=xu h k f;have m:=eR b k f;cases i:(aU b k).1.fin with
  | true =>
   exfalso;apply d
   have e:=(o.2 i).2;rw[kx b k (by rw[e];rfl) i]
  | false =>
   have a:=o.1 i;cases c:aF (aU b k).1 with
   | true =>
    have s:=m.2.2 c;cases g:((aU b k).1.text.toList == [36,41]) with
    | true=>rw[jL b k c g,jL T k (by rw[a];exact c) (by rw[a];exact g),a]
    | false =>
     cases j:ji (aU b k).1.text with
     | true=>rw[kt b k c g j,kt T k (by rw[a];exact c) (by rw[a];exact g) (by rw[a];exact j),a]
     | false =>
      rw[nA b k f c g j]at d ⊢;rw[nA T k (by omega) (by rw[a];exact c) (by rw[a];exact g) (by rw[a];exact j),a];exact r _ m.2.1 (by omega) d
   | false=>rw[lI b k c i,lI T k (by rw[a];exact c) (by rw[a];exact i),a]
theorem nQ(c:M<=w.size)(b:f<=w.size)(h:aU w M=aU w f):an w M=an w f:=by
 obtain⟨a,d⟩:∃a,a=w.size+1:=⟨_,rfl⟩
 rw[<-lX w (a+1) M c (by omega),<-lX w (a+1) f b (by omega),cU,cU,h]
theorem tk(h:Kr b T)(k:Nat)(j:k<=b.size)(g:(an b k).1.rule≠3) :
  ((an b k).1.fin=XM->an T k=an b k)/\((an b k).1.fin=XL->an T k=an T (b.size+1)):=by
 have w:=h.lt
 suffices H:∀n k,k<=b.size->b.size-k<=n->(an b k).1.rule≠3->((an b k).1.fin=XM->an T k=an b k)/\((an b k).1.fin=XL->an T k=an T (b.size+1)) from H _ k j (PQ _) g
 clear j g k;intro n
 induction n with
 | zero =>
  intro k j x g;have e:k=b.size:=by omega
  subst e;have p:aU b b.size=(⟨⟨#[]⟩,0,XL,b.size⟩,b.size):=pD b b.size (PQ _) (PQ _);have l:an b b.size=aU b b.size:=fL b _ (P0 (by rw[p];rfl));rw[l,p];exact⟨fun i=>(by cases i),fun _=>nQ T _ _ (by omega) (by omega) ((xu h b.size (PQ _)).2 (by rw[p])).1⟩
 | succ n y =>
  intro k j x g;have r:=xu h k j;have q:=eR b k j;cases i:(aU b k).1.fin with
  | true =>
   have p:=(r.2 i).2;have l:an b k=aU b k:=fL b _ (P0 (by rw[p];rfl));rw[l];refine⟨fun a=>?_,fun _=>nQ T _ _ (by omega) (by omega) (r.2 i).1⟩;rw[i]at a;cases a
  | false =>
   have d:=r.1 i;by_cases f:aF (aU b k).1=XL/\((aU b k).1.text.toList == [36,40])=XL
   ·have z:=q.2.2 f.1;cases c:aF (aI b (aU b k).2).1 with
    | true =>
     have s:(aI b (aU b k).2).1.rule≠3:=(by rw[nK c];simp);have m:=qJ h (aU b k).2 q.2.1 s;have t:=eF b (aU b k).2 q.2.1;rw[xc b k j f.1 f.2 c]at g ⊢;rw[xc T k (by omega) (by rw[d];exact f.1) (by rw[d];exact f.2) (by rw[d,m];exact c),d,m];exact y _ t.2 (by omega) g
    | false =>
     rw[lY b k f.1 f.2 c]at g ⊢;have m:=qJ h (aU b k).2 q.2.1 g;refine⟨fun _=>?_,fun a=>?_⟩
     ·rw[lY T k (by rw[d];exact f.1) (by rw[d];exact f.2) (by rw[d,m];exact c),d,m]
     ·rw[oJ]at a;cases a
   ·have o:aF (aU b k).1=XM∨((aU b k).1.text.toList == [36,40])=XM:=by
     cases u:aF (aU b k).1 with
     | false=>exact P0 rfl
     | true =>
      cases v:((aU b k).1.text.toList == [36,40]) with
      | false=>exact P7 rfl
      | true=>exact absurd ⟨u,v⟩ f
    rw[fL b k o];refine⟨fun _=>?_,fun a=>?_⟩
    ·rw[fL T k (by rw[d];exact o),d]
    ·rw[i]at a;cases a
theorem Fx(k:Nat)(h:(an l k).1.fin=XL):(an l k).1.rule=0:=by
 unfold an at h ⊢;generalize l.size-k+1=f at h ⊢
 induction f generalizing k with
 | zero=>rfl
 | succ f c =>
  rw[cU]at h ⊢;split at h
  ·next a =>
   rw[PZ a];split at h
   ·next b=>rw[PZ b];exact c _ h
   ·rw[oJ]at h;cases h
  ·next a=>rw[PV a];exact JG l k h
theorem Ae(d:f<=w.size):f<=(aU w f).1.pos/\(aU w f).1.pos<=w.size:=by
 have a:=jH w f d;have b:=gM w (skip w f) a.2;rcases oe w f d with ⟨z,k,e,_,c⟩ | ⟨j,c⟩ | ⟨z,g,i,e,_,c⟩
 ·rw[c];simp only;omega
 ·rw[c];simp only;omega
 ·rw[c];simp only;omega
theorem wm(k:Nat)(a:k<=l.size):k<=(aI l k).1.pos/\(aI l k).1.pos<=l.size:=by
 unfold aI;generalize l.size-k+1=f
 induction f generalizing k with
 | zero=>simp[bT,a]
 | succ f c =>
  have b:=Ae l k a;have d:=eR l k a;rw[bT];split
  ·split
   ·exact b
   ·have:=c (aU l k).2 d.2.1;omega
  ·split
   ·exact b
   ·exact b
theorem vx(k:Nat)(a:k<=l.size):k<=(an l k).1.pos/\(an l k).1.pos<=l.size:=by
 unfold an;generalize l.size-k+1=f
 induction f generalizing k with
 | zero=>simp[cU,a]
 | succ f d =>
  have e:=Ae l k a;have b:=eR l k a;rw[cU];split
  ·have c:=eF l (aU l k).2 b.2.1;have cp:=wm l (aU l k).2 b.2.1;split
   ·have:=d _ c.2;omega
   ·omega
  ·exact e
theorem Fl(j:Nat)(h:f<=j):aL w f<=aL w j:=by
 induction j with
 | zero =>
      have:f=0:=(by omega);subst this;omega
 | succ j a =>
  by_cases e:f=j+1
  ·subst e;omega
  ·have:=a (by omega);rw[aL];split <;> omega
theorem sX(h:Kr b T)(k:Nat)(c:k<=b.size):aL T k=aL b k/\bA T k=bA b k:=by
 induction k with
 | zero=>exact⟨rfl,rfl⟩
 | succ k a =>
  have i:=a (by omega);rw[aL,aL,bA,bA,h.same k (by omega),i.1,i.2];exact⟨rfl,rfl⟩
theorem Wq(k:Nat)(d:Db)(e:k<=l.size)(h:(df w l k d).1.1≠0):k<=(df w l k d).1.2/\(df w l k d).1.2<=l.size:=by
 unfold df at h ⊢;generalize l.size-k+1=f at h ⊢
 induction f generalizing k d with
 | zero=>simp[cV]at h
 | succ f i =>
  have c:=vx l k e;have j:=dG l k e;rw[cV]at h ⊢;split at h
  ·next b =>
   rw[PZ b];split at h
   ·next a =>
    rw[PZ a];have:=i _ _ j.2.1 h;omega
   ·next a=>rw[PV a];exact c
  ·next b =>
   rw[PV b];split at h
   ·next a =>
    rw[PZ a];split at h
    ·simp at h
    ·next g=>rw[PV g];exact c
   ·next a=>rw[PV a];exact c
theorem Jf(h:Kr b T)(n:ByteArray)(p:Nat)(a:p<=b.size):fq n T p=fq n b p:=by
 unfold fq;rw[(sX h p a).1,(sX h p a).2]
theorem nZ(b:s<=w.size)(a:D<=w.size)(h:an w s=an w D):df i w s x=df i w D x:=by
 obtain⟨f,c⟩:∃f,f=w.size+1:=⟨_,rfl⟩
 rw[<-mb i w (f+1) s x b (by omega),<-mb i w (f+1) D x a (by omega),cV,cV,h]
theorem pA(h:Kr b T)(nm:ByteArray)(k:Nat)(d:Db)(g:k<=b.size)(a:(df nm b k d).1.1=0):de (df nm b k d).2=XM/\df nm T k d=df nm T (b.size+1) (df nm b k d).2:=by
 have t:=h.lt
 suffices H:∀n k d,k<=b.size->b.size-k<=n->(df nm b k d).1.1=0->de (df nm b k d).2=XM/\df nm T k d=df nm T (b.size+1) (df nm b k d).2 from H _ k d g (PQ _) a
 clear g a k d;intro n
 induction n with
 | zero =>
  intro k d g u a;have e:k=b.size:=by omega
  subst e;have m:aU b b.size=(⟨⟨#[]⟩,0,XL,b.size⟩,b.size):=pD b b.size (PQ _) (PQ _);have i:an b b.size=aU b b.size:=fL b _ (P0 (by rw[m];rfl));have p:=tk h b.size (PQ _) (by rw[i,m];simp);have c:aF (an b b.size).1=XM:=by rw[i,m];rfl
  have f:(an b b.size).1.fin=XL:=by rw[i,m]
  cases j:de d with
  | true=>rw[qq nm b _ d c f j]at a;simp at a
  | false=>rw[pz nm b _ d c f j];exact⟨j,nZ nm T _ _ d (by omega) (by omega) (p.2 f)⟩
 | succ n v =>
  intro k d g u a;have r:=dG b k g;cases c:aF (an b k).1 with
  | true =>
   have p:=tk h k g (by rw[nK c];simp);have f:(an b k).1.fin=XM:=(by rw[nK c]);have o:=p.1 f;have w:=r.2.2 c;have q:=Jf h nm (an b k).1.pos (vx b k g).2;cases l:((aK d (an b k).1.text (fq nm b (an b k).1.pos)).1==0) with
   | true =>
    rw[rN nm b k d g c l]at a ⊢;rw[rN nm T k d (by omega) (by rw[o];exact c) (by rw[o,q];exact l),o,q];exact v _ _ r.2.1 (by omega) a
   | false =>
    rw[vF nm b k d c l]at a;simp only at a;rw[a]at l;simp at l
  | false =>
   cases f:(an b k).1.fin with
   | true =>
    cases j:de d with
    | true=>rw[qq nm b k d c f j]at a;simp at a
    | false =>
     have s:(an b k).1.rule≠3:=(by rw[Fx b k f];simp);rw[pz nm b k d c f j];exact⟨j,nZ nm T _ _ d (by omega) (by omega) ((tk h k g s).2 f)⟩
   | false =>
    rw[zV nm b k d c f]at a;have:=lR c f;simp only at a;rw[a]at this;simp at this
def qQ(s:ByteArray)(i:Nat):Bool:=(s.extract i (i+2)).toList == [36,91]
def cS(s:ByteArray):Bool:=(List.range s.size).any (fun i=>decide (i+2<=s.size)&&qQ s i)
theorem aW(h:f<i.size):ar (i++w) f=ar i f:=by
 have a:f<(i++w).size:=by rw[Qd];omega
 rw[aY _ _ a,aY _ _ h,Tg h]
theorem bi(h:f<w.size):ar (i++w) (i.size+f)=ar w f:=by
 have a:i.size+f<(i++w).size:=by rw[Qd];omega
 rw[aY _ _ a,aY _ _ h,ByteArray.getElem_append_right (by omega)];simp
theorem rK:(⟨#[10]⟩:ByteArray).size=1:=rfl
theorem nW:Kr w (w++⟨#[10]⟩++l):=by
 have b:(w++⟨#[10]⟩).size=w.size+1:=by rw[Qd,rK]
 refine⟨by rw[Qd,b];omega,fun i a=>?_,?_⟩
 ·rw[aW _ _ _ (by omega),aW _ _ _ a]
 ·rw[aW _ _ _ (by omega)];have:=bi w ⟨#[10]⟩ 0 (by rw[rK];omega);rw[QT]at this;rw[this];decide +kernel
theorem vE(h:f<w.size):ar (i++⟨#[10]⟩++w) (i.size+1+f)=ar w f:=by
 have a:(i++⟨#[10]⟩).size=i.size+1:=by rw[Qd,rK]
 have:=bi (i++⟨#[10]⟩) w f h;rw[a]at this;exact this
theorem yP(h:f+2<=w.size):(w.extract f (f+2)).toList=[w[f],w[f+1]]:=by
 rw[QF];have a:f+2<=w.data.toList.length:=h;have e:(w.extract f (f+2)).data.toList=(w.data.toList.drop f).take 2:=by
  simp[ByteArray.data_extract,Array.toList_extract]
 rw[e,Qr (by omega),Qr (by omega)];simp[ByteArray.getElem_eq_getElem_data]
theorem qc(h:f+2<=w.size):qQ w f=XL ↔ ar w f=36/\ar w (f+1)=91:=by
 unfold qQ;rw[yP w f h,aY w f (by omega),aY w (f+1) (by omega)];simp only[beq_iff_eq,List.cons.injEq,and_true];constructor
 ·rintro ⟨a,b⟩;rw[a,b];exact⟨rfl,rfl⟩
 ·rintro ⟨a,b⟩;exact⟨UInt8.toNat_inj.1 (by show _=36;omega),UInt8.toNat_inj.1 (by show _=91;omega)⟩
theorem j6:cS l=XM ↔ ∀i,i+2<=l.size->¬(ar l i=36/\ar l (i+1)=91):=by
 constructor
 ·intro h i b c;have:cS l=XL:=oz i (by omega) (by simp[b,(qc l i b).2 c]);rw[h]at this;cases this
 ·intro h;refine rZ (fun i b=>?_);by_cases a:i+2<=l.size
  ·cases d:qQ l i with
   | true=>exact absurd ((qc l i a).1 d) (h i a)
   | false=>simp
  ·simp[a]
theorem BE(e:cS w=XM)(f:cS l=XM):cS (w++⟨#[10]⟩++l)=XM:=by
 have p:=nW w l;have m:(w++⟨#[10]⟩++l).size=w.size+1+l.size:=by rw[Qd,Qd,rK]
 rw[j6]at e f ⊢;rintro i k ⟨a,b⟩;rcases R1 (i+1) w.size with g | g
 ·exact e i (by omega) ⟨by rw[<-p.same i (by omega)];exact a,by rw[<-p.same (i+1) g];exact b⟩
 ·rcases R1 i w.size with c | c
  ·have:i+1=w.size:=(by omega);rw[this,p.lf]at b;omega
  ·rcases R1 w.size i with d | d
   ·obtain⟨j,rfl⟩:∃j,i=w.size+1+j:=⟨i-(w.size+1),by omega⟩
    rw[vE w l j (by omega)]at a;rw[show w.size+1+j+1=w.size+1+(j+1) by omega,vE w l (j+1) (by omega)]at b;exact f j (by omega) ⟨a,b⟩
   ·have:i=w.size:=(by omega);rw[this,p.lf]at a;omega
theorem vt(k:Nat)(g:k<=l.size)(h:aF (an l k).1=XL):∃a z,z<=l.size/\(an l k).1.text=l.extract a z:=by
 unfold an at h ⊢;generalize l.size-k+1=f at h ⊢
 induction f generalizing k with
 | zero=>simp[cU,aF]at h
 | succ f j =>
  have m:=eR l k g;have i:=eF l (aU l k).2 m.2.1;rw[cU]at h ⊢;split at h
  ·next c =>
   rw[PZ c];split at h
   ·next d=>rw[PZ d];exact j _ i.2 h
   ·next d=>exact absurd h d
  ·next c =>
   rw[PV c];rcases oe l k g with ⟨z,_,_,_,b⟩ | ⟨_,b⟩ | ⟨z,_,e,_,_,b⟩
   ·rw[b]at h;simp[aF]at h
   ·rw[b]at h;simp[aF]at h
   ·rw[b];exact⟨_,z,e,rfl⟩
theorem tl(h:cS l=XM):GX l:=by
 intro k g m;obtain⟨a,z,f,j⟩:=vt l k g m;rw[j];cases d:((l.extract a z).toList == [36,91]) with
 | false=>rfl
 | true =>
  exfalso
  have i:(l.extract a z).toList=[36,91]:=by simpa using d
  have b:(l.extract a z).toList.length=2:=by rw[i];rfl
  have c:(l.extract a z).size=2:=by rw[QF]at b;exact b
  have e:z=a+2:=by simp at c;omega
  subst e;have:qQ l a=XL:=by unfold qQ;exact d
  exact(j6 l).1 h a f ((qc l a f).1 this)
def aJ(T:ByteArray):(Int×Nat)×Db:=df ⟨#[109]⟩ T 0 bB
structure dV(T:ByteArray):Prop where
 size:T.size<=1024
 ok:(aJ T).1.1=0
 inc:cS T=XM
theorem Bt:dV ⟨#[]⟩:=⟨by decide,by decide +kernel,by decide +kernel⟩
theorem Fv(c:dV w)(a:(aJ (w++⟨#[10]⟩++l)).1.1≠0):aL w w.size+1<=aL (w++⟨#[10]⟩++l) (aJ (w++⟨#[10]⟩++l)).1.2:=by
 have b:=nW w l;have d:=(pA b ⟨#[109]⟩ 0 bB (Qx _) c.ok).2;unfold aJ at a ⊢;rw[d]at a ⊢;have f:w.size+1<=(w++⟨#[10]⟩++l).size:=b.lt;have e:=Wq ⟨#[109]⟩ (w++⟨#[10]⟩++l) (w.size+1) _ f a;have m:=Fl (w++⟨#[10]⟩++l) (w.size+1) _ e.1;have g:aL (w++⟨#[10]⟩++l) (w.size+1)=aL w w.size+1:=by
  rw[aL,b.lf,(sX b w.size (PQ _)).1];simp
 omega
structure PD(T S:ByteArray)(k:Nat):Prop where
 le:k<=T.size
 lt:k<S.size
 same:∀i,i<k->ar S i=ar T i
 bel:ar S k=7
theorem CT:(aK x l g).2.Ux=x.Ux∨(aK x l g).2.Ux=[]∨(aK x l g).2.Ux=x.Ux++[(l,g)]:=by
 unfold aK;split
 ·left
  unfold aA;split
  ·rfl
  ·split
   ·split
    ·rfl
    ·unfold dS;split <;> rfl
   ·split
    ·split <;> rfl
    ·split
     ·rfl
     ·split
      ·rfl
      ·split
       ·rfl
       ·unfold bj
        repeat' split
        all_goals rfl
 ·split
  ·left;unfold aN
   repeat' split
   all_goals rfl
  ·split
   ·unfold iU;split
    ·left;rfl
    ·split
     ·left;rfl
     ·right;left;rfl
   ·split
    ·left;unfold bO;split <;> rfl
    ·split
     ·left;rfl
     ·split
      ·right;right;rfl
      ·split
       ·left;rfl
       ·left;rfl
theorem pJ:(aK x l g).2.UD=x.UD∨(∃y∈x.rbl,(aK x l g).2.UD=cH x.UD y)∨((aK x l g).2.UD=x.UD++[⟨x.kind,x.label,x.Um,x.Ux,g,0⟩]/\0<x.Um.length):=by
 unfold aK;split
 ·unfold aA;split
  ·left;rfl
  ·split
   ·split
    ·left;rfl
    ·unfold dS;split
     ·left;rfl
     ·next y c=>right;left;exact⟨y,List.mem_of_getLast? c,rfl⟩
   ·split
    ·split <;> (left;rfl)
    ·split
     ·left;rfl
     ·split
      ·left;rfl
      ·split
       ·left;rfl
       ·left;unfold bj
        repeat' split
        all_goals rfl
 ·split
  ·left;unfold aN
   repeat' split
   all_goals rfl
  ·split
   ·unfold iU;split
    ·left;rfl
    ·next b =>
     have a:0<x.Um.length:=by
      unfold dX at b;split at b <;> omega
     split
     ·left;rfl
     ·unfold bK;split
      ·left;rfl
      ·split
       ·left;rfl
       ·right;right
        refine⟨?_,a⟩;unfold dh;split <;> rfl
   ·split
    ·left;unfold bO;split <;> rfl
    ·split
     ·left;rfl
     ·split
      ·left;rfl
      ·split
       ·left;rfl
       ·left;rfl
theorem J6:(aK x l g).2.rbl=x.rbl∨(aK x l g).2.rbl=x.rbl.dropLast∨(aK x l g).2.rbl=x.rbl++[x.UD.length]:=by
 unfold aK;split
 ·unfold aA;split
  ·right;right;rfl
  ·split
   ·split
    ·left;rfl
    ·unfold dS;split
     ·left;rfl
     ·right;left;rfl
   ·split
    ·split <;> (left;rfl)
    ·split
     ·left;rfl
     ·split
      ·left;rfl
      ·split
       ·left;rfl
       ·left;unfold bj
        repeat' split
        all_goals rfl
 ·left
  split
  ·unfold aN
   repeat' split
   all_goals rfl
  ·split
   ·unfold iU;split
    ·rfl
    ·split
     ·rfl
     ·unfold bK;split
      ·rfl
      ·split
       ·rfl
       ·unfold dh;split <;> rfl
   ·split
    ·unfold bO;split <;> rfl
    ·split
     ·rfl
     ·split
      ·rfl
      ·split <;> rfl
structure Kq(S:List St)(d:Db):Prop where
 pre:∃m,d.UD=S++m
 rbl:∀y∈d.rbl,S.length<=y
theorem Bn(m:List St)(y:Nat)(h:I.length<=y):∃b,cH (I++m) y=I++b:=by
 refine⟨(cH (I++m) y).drop I.length,?_⟩;have e:(cH (I++m) y).take I.length=I:=by
  apply Q9;intro i;rw[List.getElem?_take];split
  ·next a =>
   unfold cH dK;rw[RO,PR a,PJ a];rw[Rd,PV (by omega)]
  ·rw[QP];omega
 conv=>lhs;rw[<-RC I.length (cH (I++m) y),e]
theorem Kq.take(h:Kq u y)(x:ByteArray)(p:Pl):Kq u (aK y x p).2:=by
 obtain⟨m,c⟩:=h.pre;refine⟨?_,?_⟩
 ·rcases pJ y x p with e | ⟨b,a,e⟩ | ⟨e,_⟩
  ·exact⟨m,by rw[e,c]⟩
  ·rw[e,c];exact Bn u m b (h.rbl b a)
  ·exact⟨m++[_],by rw[e,c,QY]⟩
 ·rcases J6 y x p with e | e | e
  ·rw[e];exact h.rbl
  ·rw[e];intro b a;exact h.rbl b (Tf _ a)
  ·rw[e];intro b a;rcases Qo.1 a with a | a
   ·exact h.rbl b a
   ·rw[Qn.1 a,c,Qa];omega
theorem Ct(f:Nat):∀k d,Kq u d->Kq u (cV w l f k d).2:=by
 induction f with
 | zero=>intro k d h;exact h
 | succ f a =>
  intro k d h;rw[cV];split
  ·split
   ·exact a _ _ (h.take _ _)
   ·exact h.take _ _
  ·split
   ·split <;> exact h
   ·exact h
theorem FR(h:Kq u x):Kq u (df i w D x).2:=Ct i w _ D x h
theorem Cs(f:Nat):∀k d,(∃m,jw d m)->∃m,jw (cV w l f k d).2 m:=by
 induction f with
 | zero=>intro k d h;exact h
 | succ f c =>
  intro k d h;have a:=fun x p=>(show ∃m,jw (aK d x p).2 m from h.elim fun m b=>⟨m+1,b.take x p⟩)
  rw[cV];split
  ·split
   ·exact c _ _ (a _ _)
   ·exact a _ _
  ·split
   ·split <;> exact h
   ·exact h
theorem Kq.begin{d:Db}(h:jw d k)(a:de d=XM):Kq d.UD d:=by
 refine⟨⟨[],by simp⟩,fun y c=>?_⟩;have b:=h.same;have e:d.blocks.length=0:=by
  unfold de at a;simp only[Bool.or_eq_false_iff,decide_eq_false_iff_not]at a;omega
 rw[e]at b;rw[Ql b]at c;cases c
theorem IU(b:dV w):∃m,(aJ (w++⟨#[10]⟩++l)).2.UD=(aJ w).2.UD++m:=by
 have a:=pA (nW w l) ⟨#[109]⟩ 0 bB (Qx _) b.ok;obtain⟨m,c⟩:=Cs ⟨#[109]⟩ w (w.size-0+1) 0 bB ⟨0,jw.empty⟩;have x:=FR ⟨#[109]⟩ (w++⟨#[10]⟩++l) (w.size+1) _ (Kq.begin (d:=(df ⟨#[109]⟩ w 0 bB).2) c a.1);rw[<-a.2]at x;exact x.pre
structure Pn(S T:ByteArray):Prop where
 le:S.size<=T.size
 same:∀i,i<S.size->ar T i=ar S i
theorem GE(c:UInt8)(h:(l.toList == [36,c])=XL):l.size=2/\ar l 0=36/\ar l 1=(c.toNat:Int):=by
 have d:l.toList=[36,c]:=by simpa using h
 have a:l.data.toList=[36,c]:=by rw[<-QF];exact d
 have b:l=⟨#[36,c]⟩:=by
  apply Sy;apply Su.1;exact a
 subst b;exact⟨rfl,rfl,rfl⟩
theorem lG(c:M<=w.size)(b:D+f<M):ar (w.extract D M) f=ar w (D+f):=by
 have a:f<(w.extract D M).size:=by simp;omega
 rw[aY _ _ a,aY w _ (by omega)];congr 2;simp[ByteArray.getElem_eq_getElem_data]
structure Rw where
 label:ByteArray
 Us:Int
 why:Int
 at_:Pl
def ii(r:Rw):List XQ:=[Xy r.label,Xx XF r.Us,Xx XF r.why,Xy r.at_.file,Xx XF r.at_.line,Xx XF r.at_.col]
def ft(l:List Rw):List XQ:=l.flatMap ii
def mf(l:List Rw):fe:=⟨69,6,l.length,ft l⟩
def db:Pl:=⟨⟨#[]⟩,0,0⟩
def lz:Rw:=⟨⟨#[]⟩,0,0,db⟩
theorem Gb(l:List Rw)(s:Rw):(⟨(mf l).e,(mf l).size,(mf l).n+1,(mf l).xs++ii s⟩:fe)=mf (l++[s]):=by simp[mf,ft]
theorem D0(s:Rw):∀u∈ii s,u.oneCell'=XL:=by
 intro u a;simp only[ii,List.mem_cons,List.not_mem_nil,or_false]at a;rcases a with rfl | rfl | rfl | rfl | rfl | rfl <;> rfl
theorem MT:(prog.info? 69).map (fun i=>(i.zero,i.size,i.bytes))=XK (XK (XB #[Xy ⟨#[]⟩,Xx XF 0,Xx XF 0,Xy ⟨#[]⟩,Xx XF 0,Xx XF 0]),6,64):=by kernel_rfl
theorem Ah(l:List Rw):(ft l).length=l.length*6:=by
 induction l with
 | nil=>rfl
 | cons x r a =>
  have e:ft (x :: r)=ii x++ft r:=rfl;rw[e,Qa,a];simp[ii];omega
theorem xw(l:List Rw)(k:Nat)(a:k<l.length)(j:Nat)(d:j<6):(ft l)[k*6+j]?=(ii l[k])[j]?:=by
 induction l generalizing k with
 | nil=>simp at a
 | cons s r c =>
  have e:ft (s :: r)=ii s++ft r:=rfl;rw[e];cases k with
  | zero=>rw[PR (by simp[ii];omega)];simp
  | succ k =>
   rw[Qb (by simp[ii];omega)];have b:(k+1)*6+j-(ii s).length=k*6+j:=by simp[ii];omega
   rw[b,c k (by simpa using a)];rfl
def eE(p:Pl):Prop:=-1000000000<=p.line/\p.line<=1000000000
theorem Ag{b:Array XQ}{t:TypeId}{L:List Rw}(h:o.heap[k]?=XK (XE b t))(g:∀(j:Nat) v,(ft L)[j]?=XK v->b[j]?=XK v)(a:Nat)(e:a<L.length) :
  XI o ⟨k,a*6,XJ⟩=XK (Xy L[a].label)/\XI o ⟨k,a*6+1,XJ⟩=XK (Xx XF L[a].Us)/\XI o ⟨k,a*6+2,XJ⟩=XK (Xx XF L[a].why)/\XI o ⟨k,a*6+3,XJ⟩=XK (Xy L[a].at_.file)/\XI o ⟨k,a*6+4,XJ⟩=XK (Xx XF L[a].at_.line)/\XI o ⟨k,a*6+5,XJ⟩=XK (Xx XF L[a].at_.col):=by
 have c:=fun j (d:j<6) v (f:(ii L[a])[j]?=XK v)=>(ab h (a*6+j)).trans (g _ _ ((xw L a e j d).trans f));exact⟨c 0 (by omega) _ rfl,c 1 (by omega) _ rfl,c 2 (by omega) _ rfl,c 3 (by omega) _ rfl,c 4 (by omega) _ rfl,c 5 (by omega) _ rfl⟩
def eV:Option Nat->Nat->XQ
 | none,_=>.slice XJ 0 0
 | some g,n=>.slice (XK ⟨g,0,XJ⟩) n n
def dq(w:XP):Option Nat->List Rw->Prop
 | none,L=>L=[]
 | some g,L=>0<L.length/\w.heap[g]?=XK (XE (ft L).toArray 69)
theorem dq.kept{L:List Rw}{S:List Nat}(h:dq o t L)(k:aa S o p)(a:∀g,t=XK g->g∉S):dq p t L:=by
 cases t with
 | none=>exact h
 | some g=>exact⟨h.1,k.get h.2 (a g rfl)⟩
theorem dq.Ur{L:List Rw}(h:dq o t L)(k:aa [] o p):dq p t L:=h.kept k (by simp)
theorem dq.lt{L:List Rw}(h:dq o t L)(g:Nat)(e:t=XK g):g<o.heap.size:=by
 subst e;exact ae h.2
structure yb(L:List Rw):Prop where
 len:L.length<=100000
 line:∀r∈L,eE r.at_
theorem Ai(v y a c:Int)(b:XP)(g:-1000000000<=a/\a<=1000000000) :
  XO prog 86 #[XB #[Xy w,Xx XF v,Xx XF y,Xy l,Xx XF a,Xx XF c],XB #[Xy w,Xx XF v,Xx XF y,Xy l,Xx XF a,Xx XF c],Xx XF 0] b fun e d=>e=XH (XC XL)/\aa [] b d:=by
 have i:IntKind.i64.wrap (a+0)=a:=by rw[Re];omega
 cases f:(l.toList == [])
 ·go_enter func86,ntmps86;go_wp2;go_ret;exact⟨rfl,((aa.refl _ _).alloc _).alloc _⟩
 ·go_enter func86,ntmps86;go_wp2;go_ret;exact⟨rfl,((aa.refl _ _).alloc _).alloc _⟩
set_option maxRecDepth 100000
theorem m8(L:List Rw)(w:XP)(a b:Array XQ)(Q R:TypeId)(n:w.heap[s]?=XK (XE a Q))(o:w.heap[D]?=XK (XE b R))(U:∀(j:Nat) v,(ft L)[j]?=XK v->a[j]?=XK v)(V:∀(j:Nat) v,(ft L)[j]?=XK v->b[j]?=XK v)(W:L.length<=100000)(N:∀r∈L,eE r.at_) :
  XO prog 63 #[Xz (XK ⟨s,0,XJ⟩) L.length M,Xz (XK ⟨D,0,XJ⟩) L.length f,Xx XF 0] w fun e T=>e=XH (XC XL)/\aa [] w T:=by
 have J:=ae n;have K:=ae o;go_enter func63,ntmps63;go_wp2
 go_loopg [7,8] L.length (fun g i _ wr=>∃k:Nat,k<=L.length/\g=L.length-k/\i=Xx XF k/\aa [] w wr)
 case atStart=>exact⟨0,by omega,by omega,rfl,aa.refl _ _⟩
 case round =>
  obtain⟨k,Y,X,rfl,d⟩:=hrel;by_cases c:k<L.length
  ·obtain⟨q,t,u,x,y,z⟩:=Ag (d.get n (by simp)) U k c;obtain⟨A,B,C,E,F,G⟩:=Ag (d.get o (by simp)) V k c;have p:=N L[k] (PT c);have Z:=d.size;generalize L[k]=r at *;obtain⟨O,S,wy,⟨I,P,H⟩⟩:=r;simp only[eE]at q t u x y z A B C E F G p;(go_upto_region 6 with fail);go_region_with (go_at_call 86;refine(Ai O I S wy P H _ p).mono ?_;rintro e w2 ⟨rfl,m⟩)
   all_goals
    have l:=d.trans ((aa.refl [] wr).drew.trans m);go_wp2;go_roundg (L.length-(k+1))
    case measure=>omega
    case rel=>exact⟨k+1,by omega,rfl,by go_num,l⟩
  ·go_wp2;go_ret;exact⟨rfl,d⟩
set_option maxRecDepth 512
theorem kL(a b:Option Addr)(c d:Nat)(w:XP) :
  XO prog 63 #[Xz a 0 c,Xz b 0 d,Xx XF 0] w fun e f=>e=XH (XC XL)/\aa [] w f:=by
 go_enter func63,ntmps63;go_wp2;refine Rg 1 ?_;rw[RM];go_wp2;go_ret;exact⟨rfl,aa.refl _ _⟩
theorem pE(L:List Rw)(w:XP)(a:dq w z0 L)(b:dq w c L)(f:yb L) :
  XO prog 63 #[eV z0 L.length,eV c L.length,Xx XF 0] w fun e l=>e=XH (XC XL)/\aa [] w l:=by
 cases z0 with
 | none =>
  have d:L=[]:=a;subst d;cases c with
  | none=>exact kL _ _ _ _ _
  | some g=>exact absurd b.1 (by simp)
 | some i =>
  cases c with
  | none =>
       have d:L=[]:=b;subst d;exact absurd a.1 (by simp)
  | some k=>exact m8 i k _ _ L w _ _ _ _ a.2 b.2 (fun j v h=>by simpa using h) (fun j v h=>by simpa using h) f.len f.line
theorem si(L M:List Rw)(w:XP)(d:dq w z0 L)(q:dq w c (L++M))(l:yb (L++M)) :
  XO prog 56 #[eV z0 L.length,eV c (L++M).length] w fun e B=>e=XH (XC XL)/\aa [] w B:=by
 have a:=l.len;have i:(L++M).length=L.length+M.length:=Qa;cases z0 with
 | none =>
  have k:L=[]:=d;subst k;cases c with
  | none =>
   go_enter func56,ntmps56;unfold eV;go_wp2_with fail;refine(kL _ _ _ _ _).mono ?_;rintro e u ⟨rfl,b⟩;go_wp2;go_ret;exact⟨rfl,b⟩
  | some p =>
   go_enter func56,ntmps56;unfold eV;simp only[List.nil_append]at a ⊢;generalize M.length=n at *;go_wp2_with fail;refine(kL _ _ _ _ _).mono ?_;rintro e u ⟨rfl,b⟩;go_wp2;go_ret;exact⟨rfl,b⟩
 | some z =>
  cases c with
  | none =>
       have k:L++M=[]:=q;have:L.length=0:=(by rw[(List.append_eq_nil_iff.1 k).1];rfl);have:=d.1;omega
  | some p =>
   have o:=fun x y=>m8 z p x y L w _ _ _ _ d.2 q.2 (fun j v h=>by simpa using h) (fun j v g=>by
    have s:=(Qc.1 g).1;unfold ft at g s ⊢;rw[Q1];simp only[List.getElem?_toArray];rw[PR s];exact g) (by omega) (fun r A=>l.line r (RQ _ A))
   have f:XN _:=o;have t:=d.1;clear o l;rw[i]at a ⊢;generalize L.length=n at *;generalize M.length=m at *;go_enter func56,ntmps56;unfold eV;go_wp2_with fail;refine(f.out _ _).mono ?_;rintro e u ⟨rfl,b⟩;go_wp2;go_ret;exact⟨rfl,b⟩
theorem sV(p:w.size<=4294967296) :
  XO prog 55 #[Xy w,Xy ⟨#[36,91]⟩] m fun e l=>e=XH (XC (cS w))/\l=m:=by
 go_enter func55,ntmps55;go_wp2
 go_loopg [5] w.size (fun g i wr=>∃k:Nat,k<=w.size/\g=w.size-k/\i=Xx XF k/\XN (∀i,i<k->i+2<=w.size->qQ w i=XM)/\wr=m)
 case atStart=>exact⟨0,by omega,by omega,rfl,fun i h=>by omega,rfl⟩
 case round =>
  obtain⟨k,o,n,rfl,a,rfl⟩:=hrel;by_cases d:k+2<=w.size
  ·cases f:((w.extract k (k+2)).toList == [36,91])
   ·go_wp2;go_roundg (w.size-(k+1))
    case measure=>omega
    case rel =>
     refine⟨k+1,by omega,rfl,by go_num,?_,rfl⟩;intro i j b;by_cases e:i=k
     ·subst e;exact f
     ·exact a.out i (by omega) b
   ·have c:XN (cS w=XL):=oz k (by omega) (by simp[d,qQ,f]);go_wp2;go_ret;exact⟨aH c.out.symm,rfl⟩
  ·have c:XN (cS w=XM):=rZ (fun i j=>by
    by_cases b:i+2<=w.size
    ·simp[a.out i (by omega) b]
    ·simp[b])
   go_wp2;go_ret;exact⟨aH c.out.symm,rfl⟩
theorem Fn(r:w.size<=1073741824) :
  XO prog 57 #[Xy w] m fun e o=>e=XH (Xx XF (aL w w.size-1))/\o=m:=by
 go_enter func57,ntmps57;go_wp2
 go_loopg [3,4] w.size (fun g n i wr=>∃(k:Nat) (l:Int),k<=w.size/\g=w.size-k/\i=Xx XF k/\n=Xx XF l/\XN (l=aL w k-1)/\0<=l/\l<=k/\wr=m)
 case atStart=>exact⟨0,0,by omega,by omega,rfl,rfl,rfl,by omega,by omega,rfl⟩
 case round =>
  obtain⟨k,l,q,p,rfl,rfl,a,d,j,rfl⟩:=hrel;by_cases c:k<w.size
  ·cases f:((w[k].toNat:Int)==10)
   ·have b:XN (l=aL w (k+1)-1):=(by show l=_;rw[aL,aY w k c,f,a.out];simp);clear a;go_wp2;go_roundg (w.size-(k+1))
    case measure=>omega
    case rel=>exact⟨k+1,l,by omega,rfl,by go_num,rfl,b,d,by omega,rfl⟩
   ·have b:XN (l+1=aL w (k+1)-1):=(by show l+1=_;rw[aL,aY w k c,f,a.out];simp);clear a;go_wp2;go_roundg (w.size-(k+1))
    case measure=>omega
    case rel=>exact⟨k+1,l+1,by omega,rfl,by go_num,rfl,b,by omega,by omega,rfl⟩
  ·have b:XN (l=aL w w.size-1):=(by show l=_;rw[a.out,show k=w.size by omega]);clear a;go_wp2;go_ret;exact⟨ay b.out,rfl⟩
def iD(w:XP)(b off:Nat)(l:List ByteArray):Prop:=b<w.heap.size/\∀i (h:i<l.length),XI w ⟨b,off+i,XJ⟩=XK (Xy l[i])
theorem iD.kept{a:Nat}{l:List ByteArray}{S:List Nat}(h:iD o k a l)(b:aa S o p)(c:k∉S):iD p k a l :=
 ⟨PY h.1 b.size,fun i d=>(Qy (b.block k h.1 c)).trans (h.2 i d)⟩
def m9(l:List ByteArray):Nat->Int
 | 0=>l.length
 | k+1=>m9 l k+(l.getD k ⟨#[]⟩).size
theorem J1(k:Nat):(a.length:Int)<=m9 a k/\∀i,i<k->((a.getD i ⟨#[]⟩).size:Int)<=m9 a k:=by
 induction k with
 | zero=>simp[m9]
 | succ k b =>
  rw[m9];refine⟨by omega,fun i c=>?_⟩;by_cases e:i=k
  ·subst e;omega
  ·have:=b.2 i (by omega);omega
theorem Gt(B:a.length<=140737488351232)(f:∀x,x∈a->x.size<=140737488351232)(l:iD m s D a) :
  XO prog 6 #[Xz (XK ⟨s,D,XJ⟩) a.length M] m fun e t=>(∃r,e=XH (XC r)/\(r=XL->a.length<=1073741824/\∀i,i<a.length->(a.getD i ⟨#[]⟩).size<=1073741824))/\t=m:=by
 by_cases v:1073741824<a.length
 ·go_enter func6,ntmps6;go_wp2;go_ret;exact⟨⟨XM,rfl,by simp⟩,rfl⟩
 ·go_enter func6,ntmps6;go_wp2
  go_loopg [3,4] a.length (fun g q i wr=>∃(k:Nat) (z:Int),k<=a.length/\g=a.length-k/\i=Xx XF k/\q=Xx XF z/\XN (z=m9 a k)/\0<=z/\z<=1073741824/\wr=m)
  case atStart=>exact⟨0,a.length,by omega,by omega,rfl,rfl,rfl,by omega,by omega,rfl⟩
  case round =>
   obtain⟨k,z,A,y,rfl,rfl,c,o,p,rfl⟩:=hrel;by_cases b:k<a.length
   ·have u:=l.2 k b;have j:a.getD k ⟨#[]⟩=a[k]:=(by rw[PK,PJ b];rfl);have C:=f a[k] (PT b);have d:XN (m9 a (k+1)=z+(a[k]).size):=(by show m9 a (k+1)=_;rw[m9,j,c.out]);clear c j;by_cases w:(1073741824:Int)<z+(a[k]).size
    ·go_wp2;go_ret;exact⟨⟨XM,rfl,by simp⟩,rfl⟩
    ·go_wp2;go_roundg (a.length-(k+1))
     case measure=>omega
     case rel=>exact⟨k+1,z+(a[k]).size,by omega,rfl,by go_num,rfl,d.out.symm,by omega,by omega,rfl⟩
   ·have d:XN (z=m9 a a.length):=(by show z=_;rw[c.out,show k=a.length by omega]);clear c;go_wp2;go_ret;refine⟨⟨XL,rfl,fun _=>⟨by omega,fun i n=>?_⟩⟩,rfl⟩;have:=(J1 a a.length).2 i n;rw[<-d.out]at this;omega
end Go.Proofs.YtnbalopedcgpcaaGreat
