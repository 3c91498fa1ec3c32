import Derived.BigQuiet
import Derived.Test.YtnbalopedcgpcaaGreatG14
namespace Go.Proofs.YtnbalopedcgpcaaGreat
open Go.RowKit Tryz
open Value renaming int->Xx,string->Xy,slice->Xz,pointer->XA,agg->XB,bool->XC,tuple->XD
open Obj renaming cells->XE
open IntKind renaming i64->XF
open Ending renaming returned->XH
open World renaming cell?->XI
open Option renaming none->XJ,some->XK
open Bool renaming true->XL,false->XM
open Go.RowKit renaming Hid->XN
open Go renaming Calls->XO,World->XP,Value->XQ
set_option maxHeartbeats 0
variable{g:iR}{T:Nat}{x o:XP}{k:Hd}{v D:List ByteArray}{d:Nat->Hd}(a i:Nat)(L:on)(y:List (ByteArray×Pl))(I:iR)(w:Nat)(b:List St)(S:Nat->Hd)(H:XP)(n:ByteArray)(l:Fs)(f:Nat)(N:Pl)
def jI:List (ByteArray×Pl)->iR->on×iR
 | [],c=>(cy,c)
 | (t,p) :: r,c=>if((js t p c).1.1==0)=XL then jI r (js t p c).2 else js t p c
def Cf(f:on)(ws:List (ByteArray×Pl))(c:iR):on×iR:=if(f.1==0)=XL then jI ws c else(f,c)
theorem NC(a:f<y.length)(h:(L.1==0)=XL):Cf L (y.drop f) I=Cf (js y[f].1 y[f].2 I).1 (y.drop (f+1)) (js y[f].1 y[f].2 I).2:=by
 unfold Cf;rw[PZ h,Qr a];rfl
theorem LH(a:¬f<y.length)(h:(L.1==0)=XL):Cf L (y.drop f) I=(cy,I):=by
 unfold Cf;rw[PZ h,Q4 (by omega)];rfl
theorem DU(h:(L.1==0)=XM):Cf L y I=(L,I):=by
 unfold Cf;rw[PV (by rw[h];simp)]
theorem uO(c:List (ByteArray×Pl))(i:Nat)(a:List Nat):(ci b f N i c a).1.1<=i+c.length/\(ci b f N i c a).2.length<=a.length+c.length:=by
 induction c generalizing i a with
 | nil=>simp[ci]
 | cons x r d =>
  obtain⟨t,p⟩:=x;rw[ci];split
  ·simp
  ·split
   ·simp
   ·split
    ·simp
    ·next n _ _=>have:=d (i+1) (a++[n]);simp at this ⊢;omega
theorem fB.mono{M:Nat}(h:fB g T)(k:T<=M):fB g M:=⟨Qk h.names k,Qk h.Uz k,Qk h.steps k,by have:=h.Ut;omega,h.behind⟩
theorem De(f:Nat):∀(j:Nat) (c:iR) (a:Nat),fB c (a+j)->j<=n.size->fB (eH n N f j c).2 (a+n.size):=by
 induction f with
 | zero=>intro j c a h e;exact h.mono (by omega)
 | succ f i =>
  intro j c a h e;rw[eH];split
  ·next g =>
   have b:=h.letter (ar n j).toNat { N with col:=N.col+j };split
   ·exact i (j+1) _ a (by rw[<-Sj];exact b) (by omega)
   ·exact b.mono (by omega)
  ·exact h.mono (by omega)
theorem vW(h:fB g T):fB (js n N g).2 (T+n.size):=De n N _ 0 g T h (Qx _)
def gU(ws:List (ByteArray×Pl)):Nat:=(ws.map (fun x=>x.1.size)).sum
theorem CI(a:f<y.length):gU (y.drop f)=y[f].1.size+gU (y.drop (f+1)):=by
 have e:=Qr a;simp only[gU];rw[e];rfl
theorem Am(a:List (ByteArray×Pl))(i:Nat):gU (a.drop i)<=gU a:=by
 induction i generalizing a with
 | zero=>simp
 | succ i b =>
  cases a with
  | nil=>simp
  | cons x r=>have:=b r;simp[gU]at this ⊢;omega
structure mV(s:St):Prop where
 size:gU s.Ux<=1000000
 col:∀x∈s.Ux,-1000000000<=x.2.col/\x.2.col<=1000000000
def qK(l:List St)(a:Nat)(s:St):on×iR :=
 Cf (ci l a s.fin 1 (s.Ux.drop 1) (al l a)).1.2 (s.Ux.drop (ci l a s.fin 1 (s.Ux.drop 1) (al l a)).1.1) ⟨(ci l a s.fin 1 (s.Ux.drop 1) (al l a)).2,[],[],0,XM⟩
def oK(fin:Pl)(R:on×iR):List gY×on :=
 if(R.1.1==0)=XL then
  (if R.2.Ut=0 then(if R.2.steps.length=0 then([],(1,fin)) else(R.2.steps,cy)) else([],(4,fin)))
 else([],R.1)
def gZ(l:List St)(a:Nat)(s:St):List gY×on:=oK s.fin (qK l a s)
def ut(hd:Hd):Nat->Hd
 | 0=>hd
 | _+1=>⟨XJ,0⟩
theorem KO{cs:List XQ}{rows:Nat->fe}(o:aE x k (rows 0))(n:∀i,aE (x.alloc (XE cs.toArray T)) ⟨XJ,0⟩ (rows (i+1))):aB (x.alloc (XE cs.toArray T)) x.heap.size T cs rows (ut k):=by
 refine⟨PM _ _,?_,?_,?_⟩
 ·intro i;cases i with
  | zero=>exact o.Uw (fun b d=>((aa.refl [] x).alloc _).block b (o.lt d) (by simp))
  | succ i=>exact n i
 ·intro i j a;cases i with
  | zero =>
   cases j with
   | zero=>exact absurd rfl a
   | succ j =>
    have c:(ut k (j+1)).blk=XJ:=rfl;rw[c,show ut k 0=k from rfl];cases h:k.blk with
    | none=>exact P0 rfl
    | some b=>right;simp
  | succ i=>left;rfl
 ·intro i;cases i with
  | zero=>intro e;have:=o.lt e;omega
  | succ i=>intro e;simp[ut,Hd.blk]at e
theorem LF(h:cD (ut k) T):k.blk=XK T:=by
 obtain⟨i,a⟩:=h;cases i with
 | zero=>exact a
 | succ i=>simp[ut,Hd.blk]at a
def uJ(p:Pl):Prop:=(-1000000000<=p.col/\p.col<=1000000000)/\eE p
structure Gd(d:Db)(m:Nat):Prop where
 bnd:jw d m
 now:gU d.Ux<=m/\∀x∈d.Ux,uJ x.2
 UD:∀s∈d.UD,0<s.Um.length/\s.Um.length<=m/\s.Ux.length<=m/\gU s.Ux<=m/\(∀x∈s.Ux,uJ x.2)/\uJ s.fin
theorem CJ(x:ByteArray×Pl):gU (y++[x])=gU y+x.1.size:=by
 simp[gU]
theorem Ca{l:List St}{s:St}(h:s∈cH l T):∃a∈l,s.Um=a.Um/\s.Ux=a.Ux/\s.fin=a.fin:=by
 unfold cH dK at h;rw[List.mem_mapIdx]at h;obtain⟨i,b,rfl⟩:=h;refine⟨l[i],PT b,?_⟩;split
 ·unfold dE;split <;> exact⟨rfl,rfl,rfl⟩
 ·exact⟨rfl,rfl,rfl⟩
theorem Gd.take{d:Db}(h:Gd d T)(x:ByteArray)(p:Pl)(n:Nat)(A:x.size<=n)(w:1<=n)(m:uJ p):Gd (aK d x p).2 (T+n):=by
 have t:=(h.bnd.take x p).mono (m':=T+n) (by omega);have z:=h.bnd.Ux;have u:=h.bnd.Uo;refine⟨t,?_,?_⟩
 ·rcases CT d x p with e | e | e
  ·rw[e];exact⟨by have:=h.now.1;omega,h.now.2⟩
  ·rw[e];exact⟨by simp[gU],by simp⟩
  ·rw[e];refine⟨by rw[CJ];have:=h.now.1;simp only;omega,fun y g=>?_⟩;rcases Qo.1 g with g | g
   ·exact h.now.2 y g
   ·rw[Qn.1 g];exact m
 ·rcases pJ d x p with e | ⟨y,_,e⟩ | ⟨e,f⟩
  ·rw[e];intro s a;obtain⟨b,j,k,l,c⟩:=h.UD s a;exact⟨b,by omega,by omega,by omega,c⟩
  ·rw[e];intro s a;obtain⟨v,i,o,q,r⟩:=Ca a;obtain⟨b,j,k,l,c⟩:=h.UD v i;rw[o,q,r];exact⟨b,by omega,by omega,by omega,c⟩
  ·rw[e];intro s a;rcases Qo.1 a with a | a
   ·obtain⟨b,j,k,l,c⟩:=h.UD s a;exact⟨b,by omega,by omega,by omega,c⟩
   ·rw[Qn.1 a];exact⟨f,by simp only;omega,by simp only;omega,by have:=h.now.1;simp only;omega,h.now.2,m⟩
theorem Gd.empty:Gd bB 0:=⟨jw.empty,by simp[bB,gU],by simp[bB]⟩
theorem tN(c:f<=n.size):(aU n f).1.text.size<=(aU n f).2-f/\(aU n f).1.pos<=n.size:=by
 have a:=jH n f c;have b:=gM n (skip n f) a.2;unfold aU;simp only;split
 ·exact⟨by simp[ByteArray.size],b.2⟩
 ·split
  ·exact⟨by simp[ByteArray.size],by simp only;omega⟩
  ·refine⟨?_,by simp only;omega⟩;simp only[ByteArray.size_extract];omega
theorem sq(k:Nat)(a:k<=n.size):(aI n k).1.pos<=n.size:=by
 unfold aI;generalize n.size-k+1=f
 induction f generalizing k with
 | zero=>simp[bT,a]
 | succ f c =>
  have b:=(tN n k a).2;have d:=eR n k a;rw[bT];split
  ·split
   ·exact b
   ·exact c (aU n k).2 d.2.1
  ·split
   ·exact b
   ·exact b
theorem Cc(k:Nat)(a:k<=n.size):(aF (an n k).1=XL->(an n k).1.text.size<=(an n k).2-k)/\(an n k).1.pos<=n.size:=by
 unfold an;generalize n.size-k+1=f
 induction f generalizing k with
 | zero=>exact⟨fun h=>by simp[cU,aF]at h,by simp[cU,a]⟩
 | succ f g =>
  have c:=tN n k a;have b:=eR n k a;rw[cU];split
  ·have d:=eF n (aU n k).2 b.2.1;have cp:=sq n (aU n k).2 b.2.1;split
   ·have:=g _ d.2;exact⟨fun h=>by have:=this.1 h;omega,this.2⟩
   ·next e=>exact⟨fun h=>absurd h e,cp⟩
  ·exact⟨fun _=>c.1,c.2⟩
theorem Hv(s:ByteArray)(p:Nat)(c:p<=1024):uJ (fq n s p):=by
 have a:=Hw s p;have b:=rL s p;unfold uJ eE fq;simp only;omega
def Ky(fs:Fs)(bg:List Bool)(m:Nat)(r:Ks):Prop :=
 r.2.1.length=4/\dn fs r.2.1<=dn fs bg/\∃m',Gd r.2.2 m'/\m'+dn fs r.2.1<=m+dn fs bg
theorem EL(a:∀j,j<l.length->(PH l j).size<=1024)(x:Nat):(PH l x).size<=1024:=by
 rcases R1 x l.length with h | h
 ·exact a x h
 ·have:(PH l x).size=0:=by unfold PH;rw[PK,QP h];rfl
  omega
theorem Gw(p:∀j,j<l.length->(PH l j).size<=1024)(f:Nat)(s:∀j a d m,a.length=4->Gd d m->Ky l a m (cA l f j a d))(x k:Nat)(a:List Bool)(d:Db)(m:Nat)(q:k<=(PH l x).size)(o:a.length=4)(i:Gd d m)(r:aF (an (PH l x) k).1=XL) :
  Ky l a (m+((an (PH l x) k).2-k)) (fa l f x k a d).1/\(an (PH l x) k).2<=(fa l f x k a d).2/\(fa l f x k a d).2<=(PH l x).size:=by
 have c:=dG (PH l x) k q;have w:=c.2.2 r;have y:=Cc (PH l x) k q;have e:=EL l p x;unfold fa gW;split
 ·unfold lu;split
  ·exact⟨⟨o,PQ _,m,i,by simp only;omega⟩,PQ _,c.2.1⟩
  ·next j C b =>
   have g:=s j a d m o i;refine⟨⟨g.1,g.2.1,?_⟩,?_⟩
   ·obtain⟨v,z,B⟩:=g.2.2;exact⟨v,z,by simp only;omega⟩
   ·unfold BI at b;have u:=dG (PH l x) (an (PH l x) k).2 c.2.1;have A:=dG (PH l x) (an (PH l x) (an (PH l x) k).2).2 u.2.1
    repeat' split at b
    all_goals first | (cases b;done) | skip
    injection b with b
    injection b with t n
    subst n;omega
 ·refine⟨⟨o,PQ _,m+((an (PH l x) k).2-k),i.take _ _ _ (y.1 r) (by omega) (Hv _ _ _ (by omega)),by simp only;omega⟩,PQ _,c.2.1⟩
theorem DF(q:∀j,j<l.length->(PH l j).size<=1024)(f:Nat):(∀x k a d m,k<=(PH l x).size->a.length=4->Gd d m->(bh l f x k a d).2.1.length=4/\dn l (bh l f x k a d).2.1<=dn l a/\∃c,Gd (bh l f x k a d).2.2 c/\c+dn l (bh l f x k a d).2.1<=m+((PH l x).size-k)+dn l a) /\
  (∀j a d m,a.length=4->Gd d m->Ky l a m (cA l f j a d)):=by
 have b:∀f,(∀x k a d m,k<=(PH l x).size->a.length=4->Gd d m->(bh l f x k a d).2.1.length=4/\dn l (bh l f x k a d).2.1<=dn l a/\∃c,Gd (bh l f x k a d).2.2 c/\c+dn l (bh l f x k a d).2.1<=m+((PH l x).size-k)+dn l a) ->
   (∀j a d m,a.length=4->Gd d m->Ky l a m (cA l f j a d)):=by
  intro f h j a d m e g;unfold cA;split
  ·exact⟨e,PQ _,m,g,PQ _⟩
  ·next y =>
   have o:a.getD j XL=XM:=(by simpa using y);have G:=te l a j e o;have:=h j 0 (a.set j XL) d m (Qx _) (by simpa using e) g;refine⟨this.1,by omega,?_⟩;obtain⟨c,A,I⟩:=this.2.2;exact⟨c,A,by omega⟩
 induction f with
 | zero =>
  have r:∀x k a d m,k<=(PH l x).size->a.length=4->Gd d m->(bh l 0 x k a d).2.1.length=4/\dn l (bh l 0 x k a d).2.1<=dn l a/\∃c,Gd (bh l 0 x k a d).2.2 c/\c+dn l (bh l 0 x k a d).2.1<=m+((PH l x).size-k)+dn l a:=by
   intro x k a d m p e g;exact⟨e,PQ _,m,g,by simp only[bh];omega⟩
  exact⟨r,b 0 r⟩
 | succ f t =>
  have s:∀x k a d m,k<=(PH l x).size->a.length=4->Gd d m->(bh l (f+1) x k a d).2.1.length=4/\dn l (bh l (f+1) x k a d).2.1<=dn l a/\∃c,Gd (bh l (f+1) x k a d).2.2 c/\c+dn l (bh l (f+1) x k a d).2.1<=m+((PH l x).size-k)+dn l a:=by
   intro x k a d m p e g;cases n:aF (an (PH l x) k).1 with
   | true =>
    have H:=dG (PH l x) k p;have F:=Gw l q f t.2 x k a d m p e g n;obtain⟨⟨v,D,u,w,L⟩,M,E⟩:=F;cases i:((fa l f x k a d).1.1.1==0) with
    | true =>
     rw[DG l f x k a d n i];obtain⟨B,J,z,C,K⟩:=t.1 x (fa l f x k a d).2 (fa l f x k a d).1.2.1 (fa l f x k a d).1.2.2 u E v w;exact⟨B,by omega,z,C,by omega⟩
    | false =>
     rw[rI l f x k a d n i];exact⟨v,D,u,w,by omega⟩
   | false =>
    by_cases i:(an (PH l x) k).1.fin=XL/\de d=XM
    ·rw[wK l f x k a d n i.1 i.2];exact⟨e,PQ _,m,g,by simp only;omega⟩
    ·rw[sJ l f x k a d n i];exact⟨e,PQ _,m,g,by simp only;omega⟩
  exact⟨s,b (f+1) s⟩
def MI(l:List St):Prop:=∀s∈l,eE s.fin/\∀x∈s.Ux,eE x.2
structure GV(l:List St):Prop where
 ok:dB l
 prf:∀i (hi:i<l.length),mV l[i]
 lns:MI l
theorem zW(c:∀j,j<l.length->(PH l j).size<=1024)(k:Nat):GV (cQ l k).2.2.UD:=by
 obtain⟨_,_,m,a,o⟩:=(DF l c 5000).2 k AN bB 0 rfl Gd.empty;have g:=rM l c AN;have f:m<=4104:=by omega
 have n:=a.bnd.UD;unfold cQ;refine⟨⟨by omega,fun i b=>?_,fun i b=>?_,fun i b=>?_⟩,fun i b=>⟨?_,?_⟩,?_⟩
 ·exact(a.UD _ (PT b)).1
 ·have:=(a.UD _ (PT b)).2.1;omega
 ·have:=(a.UD _ (PT b)).2.2.1;omega
 ·have:=(a.UD _ (PT b)).2.2.2.1;omega
 ·exact fun x d=>((a.UD _ (PT b)).2.2.2.2.1 x d).1
 ·exact fun s e=>⟨(a.UD s e).2.2.2.2.2.2,fun x d=>((a.UD s e).2.2.2.2.1 x d).2⟩
theorem jP(c:f<4)(d:(PH l f).size<=1024)(a:GX (PH l f)) :
  cQ l f=(uT (bH l f) (PH l f) (df (bH l f) (PH l f) 0 bB).1,AN.set f XL,(df (bH l f) (PH l f) 0 bB).2):=by
 unfold cQ cA;have b:AN.getD f XL=XM:=by
  match f,c with
  | 0,_=>rfl
  | 1,_=>rfl
  | 2,_=>rfl
  | 3,_=>rfl
 rw[PV (by rw[b];simp)];exact Iz l f a 5000 0 _ _ (Qx _) (by omega)
theorem iB(a:n.size<=1024)(b:cS n=XM):GV (aJ n).2.UD:=by
 have h:=zW [(⟨#[109]⟩,n)] (fun j c=>by
  have:j=0:=by simpa using c
  subst this;exact a) 0
 rw[jP [(⟨#[109]⟩,n)] 0 (by omega) a (tl n b)]at h;exact h
def Bv(f:on):Array XQ:=#[Xx XF f.1,Xy f.2.file,Xx XF f.2.line,Xx XF f.2.col]
theorem fR{f:on}(h:x.heap[T]?=XK (XE (Bv f) 196)) :
  XI x ⟨T,0,XJ⟩=XK (Xx XF f.1)/\XI x ⟨T,1,XJ⟩=XK (Xy f.2.file)/\XI x ⟨T,2,XJ⟩=XK (Xx XF f.2.line)/\XI x ⟨T,3,XJ⟩=XK (Xx XF f.2.col):=by
 refine⟨?_,?_,?_,?_⟩ <;> (rw[ab h];rfl)
theorem yx(s:St)(d:b.length<=10000)(e:s.Ux.length<=10000):fB ⟨(ci b f s.fin 1 (s.Ux.drop 1) (al b f)).2,[],[],0,XM⟩ 20000:=by
 have a:=(uO b f s.fin (s.Ux.drop 1) 1 (al b f)).2;have c:(al b f).length<=b.length:=kC b f b.length;simp only[List.length_drop]at a;exact⟨by simp only;omega,by simp,by simp,by simp,by simp⟩
set_option maxRecDepth 100000
theorem nY(hr:cK H a i b S)(ha:w<b.length)(ok:dB b)(ca:mV b[w]) :
  XO prog 144 #[XA (XK ⟨a,i,XJ⟩),Xx XF w] H fun e w'=>∃hd:Hd,
   e=XH (XD #[Xz hd.ao (gZ b w b[w]).1.length hd.cap,fD (gZ b w b[w]).2])/\aE w' hd (eO (gZ b w b[w]).1)/\(∀x,hd.blk=XK x->H.heap.size<=x)/\aa [] H w':=by
 have ct:=hr.lt;have b4:=ok.len;have cg:=ok.prfs w ha;have cx:(al b w).length<=b.length:=kC b w b.length;obtain⟨AO,bm⟩:∃AO,XN ((S (11+2*w)).ao=AO):=⟨_,rfl⟩
 obtain⟨W,hW⟩:∃W,W=H.alloc (XE #[Xx XF 0,Xy ⟨#[]⟩,Xx XF 0,Xx XF 0] 196):=⟨_,rfl⟩
 have K:aa [] H W:=by rw[hW];exact(aa.refl [] _).alloc _
 have BF:W.heap[H.heap.size]?=XK (XE bb 196):=by rw[hW];exact PM _ _
 have HW:XN _:=hW.symm;clear hW;go_enter func144,ntmps144;go_upto_region 1 with fail
 rw[HW.out];go_wp2_with fail;refine(aQ a i w b S _ (hr.Ur K) ha).mono ?_;rintro e s ⟨rfl,U⟩;unfold bW;rw[bm.out];obtain⟨TB,aq⟩:∃TB:Array XQ,TB=#[Xx XF b[w].kind,Xy b[w].label,Xz (S (10+2*w)).ao b[w].Um.length (S (10+2*w)).cap,Xz AO b[w].Ux.length (S (11+2*w)).cap,Xy b[w].fin.file,Xx XF b[w].fin.line,Xx XF b[w].fin.col,Xx XF b[w].til]:=⟨_,rfl⟩
 obtain⟨W2,E⟩:∃W2,W2=s.alloc (XE #[Xx XF b[w].kind,Xy b[w].label,Xz (S (10+2*w)).ao b[w].Um.length (S (10+2*w)).cap,Xz AO b[w].Ux.length (S (11+2*w)).cap,Xy b[w].fin.file,Xx XF b[w].fin.line,Xx XF b[w].fin.col,Xx XF b[w].til] 110):=⟨_,rfl⟩
 have bv:XN _:=E.symm;have K2:aa [] H W2:=by rw[E];exact(K.trans U).alloc _
 have BT:W2.heap[s.heap.size]?=XK (XE TB 110):=by rw[E,aq];exact PM _ _
 have bd:W2.heap[H.heap.size]?=XK (XE bb 196):=by rw[E];exact((aa.refl [] _).alloc _).get (U.get BF (by simp)) (by simp)
 have cz:H.heap.size<s.heap.size:=by have:=ae (U.get BF (by simp));omega
 have cW:=ae BT;have y:XN _:=aq;clear E aq;go_upto_region 2 with fail
 rw[bv.out];clear HW bv U BF K;have a4:=K2.size;have b5:=hr.Ur K2;go_wp2_with fail;refine(h9 a i w b S _ b5 ha ok).mono ?_;rintro e I ⟨q,rfl,b2,b1,F⟩
 have CM:dj (I.alloc (XE #[Xz q.ao (al b w).length q.cap,Xz XJ 0 0,Xz XJ 0 0,Xx XF 0,XC XM] 252)) I.heap.size ⟨al b w,[],[],0,XM⟩ (ut q):=KO (cs:=iz ⟨al b w,[],[],0,XM⟩ (ut q)) (rows:=tH ⟨al b w,[],[],0,XM⟩) b2 (by
  intro j
  match j with
  | 0=>exact Qj _ _ _ _
  | 1=>exact Qj _ _ _ _
  | m+2=>exact Qj _ _ _ _)
 have K4:aa [] H (I.alloc (XE #[Xz q.ao (al b w).length q.cap,Xz XJ 0 0,Xz XJ 0 0,Xx XF 0,XC XM] 252)):=(K2.trans F).alloc _;have ah:(I.alloc (XE #[Xz q.ao (al b w).length q.cap,Xz XJ 0 0,Xz XJ 0 0,Xx XF 0,XC XM] 252)).heap[s.heap.size]?=XK (XE TB 110):=((aa.refl [] _).alloc _).get (F.get BT (by simp)) (by simp);have ag:(I.alloc (XE #[Xz q.ao (al b w).length q.cap,Xz XJ 0 0,Xz XJ 0 0,Xx XF 0,XC XM] 252)).heap[H.heap.size]?=XK (XE bb 196):=((aa.refl [] _).alloc _).get (F.get bd (by simp)) (by simp);have c0:W2.heap.size<=I.heap.size:=F.size;have n:∀x,cD (ut q) x->W2.heap.size<=x:=fun x c=>b1 x (LF c);obtain⟨W4,av⟩:∃W4,W4=I.alloc (XE #[Xz q.ao (al b w).length q.cap,Xz XJ 0 0,Xz XJ 0 0,Xx XF 0,XC XM] 252):=⟨_,rfl⟩
 rw[<-av]at CM K4 ah ag;have bw:XN _:=av.symm;clear av b2 b1 F BT bd;go_upto_region 3 with fail
 rw[bw.out];clear bw;have b9:=yx b w b[w] b4 cg;have b0:=(uO b w b[w].fin (b[w].Ux.drop 1) 1 (al b w)).1;have P:=uB I.heap.size ⟨al b w,[],[],0,XM⟩ (ut q) a i w b S H W4 CM hr K4 ha ok (by simp only;omega) (by omega) (fun x c=>Qk a4 (n x c));have bo:XN (qK b w b[w]=Cf (ci b w b[w].fin 1 (b[w].Ux.drop 1) (al b w)).1.2 (b[w].Ux.drop (ci b w b[w].fin 1 (b[w].Ux.drop 1) (al b w)).1.1) ⟨(ci b w b[w].fin 1 (b[w].Ux.drop 1) (al b w)).2,[],[],0,XM⟩):=rfl;simp only at P;have co:=aB.lt CM;simp only[List.length_drop]at b0;generalize ci b w b[w].fin 1 (b[w].Ux.drop 1) (al b w)=BL at *;obtain⟨⟨nx,bf,bp⟩,ns⟩:=BL;simp only at P bo b9 b0;go_wp2_with fail;refine P.mono ?_;rintro e f ⟨rfl,H5,D5,Y⟩;unfold fD
 have K5:=K4.ofP Y.1 (fun x c=>by
  rcases c with e | e
  ·omega
  ·exact Qk a4 (n x e))
 have n1:¬cD H5 H.heap.size:=Y.fresh _ (by omega) (fun hm=>by have:=n _ hm;omega);have n2:¬cD H5 s.heap.size:=Y.fresh _ (by omega) (fun hm=>by have:=n _ hm;omega);have nb:∀x,cD H5 x->H.heap.size<=x:=fun x c=>by
  rcases Y.2 x c with e | e
  ·exact Qk a4 (n x e)
  ·omega
 have bk:=Y.1.get ah (by rintro (e | e);omega;have:=n _ e;omega);have be:=Y.1.get ag (by rintro (e | e);omega;have:=n _ e;omega);have n3:¬cD H5 f.heap.size:=fun hm=>by have:=aB.inlt D5 hm;omega
 have cF:=Y.1.size;obtain⟨W6,R⟩:∃W6,W6=f.alloc (XE #[Xx XF bf,Xy bp.file,Xx XF bp.line,Xx XF bp.col] 196):=⟨_,rfl⟩
 have k6:aa [] f W6:=by rw[R];exact(aa.refl [] _).alloc _
 have bc:W6.heap[f.heap.size]?=XK (XE (Bv (bf,bp)) 196):=by rw[R];exact PM _ _
 have C6:=dj.Ur D5 k6;have bl:=k6.get bk (by simp);have bg:=k6.get be (by simp);have K6:=K5.trans k6;have bx:XN _:=R.symm;clear R;go_upto_region 4 with fail
 rw[bx.out];clear bx ah ag bk be D5 Y P CM K4 K5 b5 k6;go_wp2
 go_loopg [10] (b[w].Ux.length-nx) (fun gk iv wr=>∃(j:Nat) (l:iR) (u:Nat->Hd) (k:on) (N:Nat),j<=10001/\gk=b[w].Ux.length-j/\iv=Xx XF j/\fB l N/\N+gU (b[w].Ux.drop j)<=1020000/\XN (qK b w b[w]=Cf k (b[w].Ux.drop j) l)/\dj wr I.heap.size l u/\(∀x,cD u x->H.heap.size<=x)/\aa [] H wr /\
  wr.heap[H.heap.size]?=XK (XE bb 196)/\wr.heap[s.heap.size]?=XK (XE TB 110)/\wr.heap[f.heap.size]?=XK (XE (Bv k) 196)/\¬cD u H.heap.size/\¬cD u s.heap.size/\¬cD u f.heap.size)
 case atStart=>exact⟨nx,_,H5,(bf,bp),20000,by omega,by omega,rfl,b9,by have:=Am b[w].Ux nx;have:=ca.size;omega,bo,C6,nb,K6,bg,bl,bc,n1,n2,n3⟩
 case round =>
  obtain⟨j,l,u,k,N,hi,hg,rfl,ad,hN,hR,hC,az,KW,B1,X,B9,n1,n2,n3⟩:=hrel;clear C6 nb K6 bg bl bc;have ch:=hr.Ur KW;have b6:=ae B1;have b7:=ae X;have b8:=ae B9;have z:=ch.UD.prfs w b[w] (PJ ha);obtain⟨f0,f1,f2,f3⟩:=fR B9;have yf:=aw B9;obtain⟨J,L,M,O⟩:=cC B1;have yz:=aw B1;have cv:((j:Int) ≥ 0):=by omega
  obtain⟨a5,a6,a7,a8,a9⟩:=hC.cells;have cu:=aB.lt hC;by_cases G:j<b[w].Ux.length
  ·cases d:(k.1==0)
   ·have t3:XI wr ⟨s.heap.size,3,XJ⟩=XK (Xz AO b[w].Ux.length (S (11+2*w)).cap):=(by rw[ab X,y.out];rfl);have o:XN (gZ b w b[w]=([],k)):=(by show _=_;unfold gZ;rw[hR.out,DU _ _ _ d];simp[oK,d]);have p:(k.1 != 0)=XL:=(by simp[bne,d]);clear hR z;(go_upto_region 13 with fail);go_region
    all_goals go_wp2
    all_goals exact Qg (v:=XD #[Xz XJ 0 0,XB #[Xx XF k.1,Xy k.2.file,Xx XF k.2.line,Xx XF k.2.col]]) (by simp[results,results144,go_sem,J,L,M,O]) rfl ⟨⟨XJ,0⟩,by rw[o.out];rfl,by rw[o.out];exact Qj _ _ _ _,by intro x c;simp[Hd.blk]at c,(ic KW (PQ _) _ _ _ _).drew⟩
   ·obtain⟨gp,ep,cn,cd,d0,d1,d2,d3⟩:=z.word j G;obtain rfl:AO=XK ⟨gp,0,XJ⟩:=bm.out.symm.trans ep;have t3:XI wr ⟨s.heap.size,3,XJ⟩=XK (Xz (XK ⟨gp,0,XJ⟩) b[w].Ux.length (S (11+2*w)).cap):=(by rw[ab X,y.out];rfl);have cw:gp<wr.heap.size:=z.lt (by unfold Hd.blk;rw[ep];rfl);clear ep z;have ac:=ca.col b[w].Ux[j] (PT G);have cj:=CI b[w].Ux j G;have am:XN _:=hR.out.trans (NC k b[w].Ux l j G d);have ap:=vW b[w].Ux[j].1 b[w].Ux[j].2 ad;have TW:=xE I.heap.size l u b[w].Ux[j].1 b[w].Ux[j].2.file b[w].Ux[j].2.line b[w].Ux[j].2.col wr hC N ad (by omega) ac;clear hR;generalize b[w].Ux[j]=wd at *;obtain⟨t,pf,pl,pc⟩:=wd;simp only at d0 d1 d2 d3 am ap TW ac cj;generalize js t ⟨pf,pl,pc⟩ l=Q at *;obtain⟨⟨qf,qp⟩,c2⟩:=Q;simp only at am ap TW;unfold fD at TW;clear J L M O yz a5 a6 a7 a8 a9;go_wp2_with fail;refine TW.mono ?_;rintro e w7 ⟨rfl,H7,D7,Z⟩;have b3:∀x,(x=I.heap.size∨cD u x)->H.heap.size<=x:=by
     rintro x (e | e)
     ·omega
     ·exact az x e
    have K7:=KW.ofP Z.1 b3;have q1:=Z.1.get B1 (by rintro (e | e);omega;exact n1 e);have q2:=Z.1.get X (by rintro (e | e);omega;exact n2 e);have q9:=Z.1.get B9 (by rintro (e | e);omega;exact n3 e);have m1:=Z.fresh H.heap.size b6 n1;have m2:=Z.fresh s.heap.size b7 n2;have m3:=Z.fresh f.heap.size b8 n3;have y9:=aw q9;have m4:∀x,cD H7 x->H.heap.size<=x:=fun x c=>by
     rcases Z.2 x c with e | e
     ·exact az x e
     ·omega
    have kk:=fun a0 a1 a2 a3=>fS (w:=w7) (r:=f.heap.size) a0 a1 a2 a3;have ai:XN _:=kk;have cb:XN (∀a0 a1 a2 a3,((((w7.setCell ⟨f.heap.size,0,XJ⟩ a0).setCell ⟨f.heap.size,1,XJ⟩ a1).setCell ⟨f.heap.size,2,XJ⟩ a2).setCell ⟨f.heap.size,3,XJ⟩ a3).heap[f.heap.size]?=XK (XE #[a0,a1,a2,a3] 196)):=by
     intro a0 a1 a2 a3;rw[af (af (af (af q9 _ _) _ _) _ _)];rfl
    clear kk b3 d0 d1 d2 d3 t3 f0 f1 f2 f3 yf;obtain⟨g0,g1,g2,g3⟩:=fR q9;go_wp2;go_roundg (b[w].Ux.length-(j+1))
    case measure=>omega
    case rel=>exact⟨j+1,c2,H7,(qf,qp),N+t.size,by omega,rfl,by go_num,ap,by omega,am.out,aB.kept D7 (ai.out _ _ _ _) (by simp;omega) (by intro x c;simp;rintro rfl;exact m3 c),m4,ic K7 (by omega) _ _ _ _,(ai.out _ _ _ _).get q1 (by simp;omega),(ai.out _ _ _ _).get q2 (by simp;omega),cb.out _ _ _ _,m1,m2,m3⟩
  ·have t3:XI wr ⟨s.heap.size,3,XJ⟩=XK (Xz AO b[w].Ux.length (S (11+2*w)).cap):=(by rw[ab X,y.out];rfl);cases d:(k.1==0)
   ·have o:XN (gZ b w b[w]=([],k)):=(by show _=_;unfold gZ;rw[hR.out,DU _ _ _ d];simp[oK,d]);have p:(k.1 != 0)=XL:=(by simp[bne,d]);clear hR z;(go_upto_region 13 with fail);go_region
    all_goals go_wp2
    all_goals exact Qg (v:=XD #[Xz XJ 0 0,XB #[Xx XF k.1,Xy k.2.file,Xx XF k.2.line,Xx XF k.2.col]]) (by simp[results,results144,go_sem,J,L,M,O]) rfl ⟨⟨XJ,0⟩,by rw[o.out];rfl,by rw[o.out];exact Qj _ _ _ _,by intro x c;simp[Hd.blk]at c,(ic KW (PQ _) _ _ _ _).drew⟩
   ·have t4:XI wr ⟨s.heap.size,4,XJ⟩=XK (Xy b[w].fin.file):=(by rw[ab X,y.out];rfl);have t5:XI wr ⟨s.heap.size,5,XJ⟩=XK (Xx XF b[w].fin.line):=(by rw[ab X,y.out];rfl);have t6:XI wr ⟨s.heap.size,6,XJ⟩=XK (Xx XF b[w].fin.col):=(by rw[ab X,y.out];rfl);have HE:XN (gZ b w b[w]=oK b[w].fin (cy,l)):=(by show _=_;unfold gZ;rw[hR.out,LH _ _ _ _ G d]);have p:(k.1 != 0)=XM:=(by simp[bne,d]);clear hR z;by_cases T:l.Ut=0
    ·have cf:¬((l.Ut:Int) > 0):=(by omega);by_cases V:l.steps.length=0
     ·have cl:((l.steps.length:Int)==0)=XL:=(by simp[V]);have o:XN (gZ b w b[w]=([],(1,b[w].fin))):=(by show _=_;rw[HE.out];simp[oK,cy,T,V]);obtain⟨D,g⟩:∃D,D=(((wr.setCell ⟨f.heap.size,0,XJ⟩ (Xx XF 1)).setCell ⟨f.heap.size,1,XJ⟩ (Xy b[w].fin.file)).setCell ⟨f.heap.size,2,XJ⟩ (Xx XF b[w].fin.line)).setCell ⟨f.heap.size,3,XJ⟩ (Xx XF b[w].fin.col):=⟨_,rfl⟩
      have k8:aa [f.heap.size] wr D:=(by rw[g];exact fS _ _ _ _);have K8:aa [] H D:=(by rw[g];exact ic KW (by omega) _ _ _ _);have B:D.heap[f.heap.size]?=XK (XE (Bv (1,b[w].fin)) 196):=by
       rw[g,af (af (af (af B9 _ _) _ _) _ _)];rfl
      have A:=k8.get B1 (by simp;omega);have C8:=aB.kept hC k8 (by simp;omega) (by intro x c;simp;rintro rfl;exact n3 c);have C:XN _:=g.symm;clear g k8;(go_upto_region 12 with fail);rw[C.out];clear C f0 f1 f2 f3 yf J L M O yz a5 a6 a7 a8 a9 t3 t4 t5 t6 d p;obtain⟨f0,f1,f2,f3⟩:=fR B;have yf:=aw B;obtain⟨J,L,M,O⟩:=cC A;have yz:=aw A;(go_upto_region 13 with fail);go_region
      all_goals go_wp2
      all_goals exact Qg (v:=XD #[Xz XJ 0 0,XB #[Xx XF 1,Xy b[w].fin.file,Xx XF b[w].fin.line,Xx XF b[w].fin.col]]) (by simp[results,results144,go_sem,J,L,M,O]) rfl ⟨⟨XJ,0⟩,by rw[o.out];rfl,by rw[o.out];exact Qj _ _ _ _,by intro x c;simp[Hd.blk]at c,(ic K8 (PQ _) _ _ _ _).drew⟩
     ·have cl:((l.steps.length:Int)==0)=XM:=Qi.2 (by omega);have o:XN (gZ b w b[w]=(l.steps,cy)):=(by show _=_;rw[HE.out];simp[oK,cy,T,V]);have bs:XN (aE wr (u 2) (eO l.steps)):=aB.own hC 2;have bq:XN (∀x,(u 2).blk=XK x->H.heap.size<=x/\x≠H.heap.size):=fun x c=>⟨az x ⟨2,c⟩,fun e=>n1 ⟨2,e ▸ c⟩⟩
      clear V T;go_wp2;exact Qg (v:=XD #[Xz (u 2).ao l.steps.length (u 2).cap,XB #[Xx XF 0,Xy ⟨#[]⟩,Xx XF 0,Xx XF 0]]) (by simp[results,results144,go_sem,J,L,M,O]) rfl
       ⟨u 2,by rw[o.out];rfl,by rw[o.out];exact bs.out.Uw (fun x c=>(fS (r:=H.heap.size) _ _ _ _).block x (bs.out.lt c) (by simp;exact(bq.out x c).2)),fun x c=>(bq.out x c).1,ic KW (PQ _) _ _ _ _⟩
    ·have cf:(l.Ut:Int) > 0:=(by omega);have o:XN (gZ b w b[w]=([],(4,b[w].fin))):=(by show _=_;rw[HE.out];simp[oK,cy,T]);obtain⟨D,g⟩:∃D,D=(((wr.setCell ⟨f.heap.size,0,XJ⟩ (Xx XF 4)).setCell ⟨f.heap.size,1,XJ⟩ (Xy b[w].fin.file)).setCell ⟨f.heap.size,2,XJ⟩ (Xx XF b[w].fin.line)).setCell ⟨f.heap.size,3,XJ⟩ (Xx XF b[w].fin.col):=⟨_,rfl⟩
     have k8:aa [f.heap.size] wr D:=(by rw[g];exact fS _ _ _ _);have K8:aa [] H D:=(by rw[g];exact ic KW (by omega) _ _ _ _);have B:D.heap[f.heap.size]?=XK (XE (Bv (4,b[w].fin)) 196):=by
      rw[g,af (af (af (af B9 _ _) _ _) _ _)];rfl
     have A:=k8.get B1 (by simp;omega);have C8:=aB.kept hC k8 (by simp;omega) (by intro x c;simp;rintro rfl;exact n3 c);have C:XN _:=g.symm;clear g k8;(go_upto_region 10 with fail);rw[C.out];clear C f0 f1 f2 f3 yf J L M O yz a5 a6 a7 a8 a9 t3 t4 t5 t6 d p;obtain⟨f0,f1,f2,f3⟩:=fR B;have yf:=aw B;obtain⟨J,L,M,O⟩:=cC A;have yz:=aw A;(go_upto_region 13 with fail);go_region
     all_goals go_wp2
     all_goals exact Qg (v:=XD #[Xz XJ 0 0,XB #[Xx XF 4,Xy b[w].fin.file,Xx XF b[w].fin.line,Xx XF b[w].fin.col]]) (by simp[results,results144,go_sem,J,L,M,O]) rfl ⟨⟨XJ,0⟩,by rw[o.out];rfl,by rw[o.out];exact Qj _ _ _ _,by intro x c;simp[Hd.blk]at c,(ic K8 (PQ _) _ _ _ _).drew⟩
def qd(s:St):Bool :=
 match s.Ux with
 | []=>XM
 | (t,_) :: _=>t.toList == [40]
def eB(l:List St)(a:Nat)(s:St):List gY×on:=if qd s=XL then gZ l a s else cO l a s.fin s.Ux []
theorem FH(hr:cK H a i b S)(E:w<b.length)(O:dB b)(ag:mV b[w]) :
  XO prog 118 #[XA (XK ⟨a,i,XJ⟩),Xx XF w] H fun e w'=>∃c:Hd,
   e=XH (XD #[Xz c.ao (eB b w b[w]).1.length c.cap,fD (eB b w b[w]).2])/\aE w' c (eO (eB b w b[w]).1)/\(∀x,c.blk=XK x->H.heap.size<=x)/\aa [] H w':=by
 have aq:=hr.lt;have a4:=O.prfs w E;obtain⟨D,F⟩:∃D,XN ((S (11+2*w)).ao=D):=⟨_,rfl⟩
 obtain⟨W,N⟩:∃W,W=H.alloc (XE #[Xx XF 0,Xy ⟨#[]⟩,Xx XF 0,Xx XF 0] 196):=⟨_,rfl⟩
 have K:aa [] H W:=by rw[N];exact(aa.refl [] _).alloc _
 have T:W.heap[H.heap.size]?=XK (XE bb 196):=by rw[N];exact PM _ _
 have HW:XN _:=N.symm;clear N;go_enter func118,ntmps118;go_upto_region 1 with fail
 rw[HW.out];go_wp2_with fail;refine(aQ a i w b S _ (hr.Ur K) E).mono ?_;rintro e Q ⟨rfl,m⟩;unfold bW;rw[F.out];obtain⟨l,k⟩:∃l,l=Q.alloc (XE #[Xx XF b[w].kind,Xy b[w].label,Xz (S (10+2*w)).ao b[w].Um.length (S (10+2*w)).cap,Xz D b[w].Ux.length (S (11+2*w)).cap,Xy b[w].fin.file,Xx XF b[w].fin.line,Xx XF b[w].fin.col,Xx XF b[w].til] 110):=⟨_,rfl⟩
 have G:XN _:=k.symm;have V:aa [] H l:=by rw[k];exact(K.trans m).alloc _
 have BT:l.heap[Q.heap.size]?=XK (XE #[Xx XF b[w].kind,Xy b[w].label,Xz (S (10+2*w)).ao b[w].Um.length (S (10+2*w)).cap,Xz D b[w].Ux.length (S (11+2*w)).cap,Xy b[w].fin.file,Xx XF b[w].fin.line,Xx XF b[w].fin.col,Xx XF b[w].til] 110):=by rw[k];exact PM _ _
 have U:l.heap[H.heap.size]?=XK (XE bb 196):=by rw[k];exact((aa.refl [] _).alloc _).get (m.get T (by simp)) (by simp)
 have a5:H.heap.size<Q.heap.size:=by have:=ae (m.get T (by simp));omega
 have a6:=ae BT;clear k;go_upto_region 2 with fail
 rw[G.out];clear HW G m T K;have t3:XI l ⟨Q.heap.size,3,XJ⟩=XK (Xz D b[w].Ux.length (S (11+2*w)).cap):=by rw[ab BT];rfl
 have n:=hr.Ur V;have j:=n.UD.prfs w b[w] (PJ E)
 have f:XN (∀(d:XP) (fl:on) (c:Hd) (P:List gY),aa [] l d->(∀x,c.blk=XK x->l.heap.size<=x)->aE d c (eO P)->eB b w b[w]=(P,fl) ->
   d.frozen? ⟨H.heap.size,0,XJ⟩=XM/\d.frozen? ⟨H.heap.size,1,XJ⟩=XM/\d.frozen? ⟨H.heap.size,2,XJ⟩=XM/\d.frozen? ⟨H.heap.size,3,XJ⟩=XM /\
   XI d ⟨H.heap.size,0,XJ⟩=XK (Xx XF 0)/\XI d ⟨H.heap.size,1,XJ⟩=XK (Xy ⟨#[]⟩)/\XI d ⟨H.heap.size,2,XJ⟩=XK (Xx XF 0)/\XI d ⟨H.heap.size,3,XJ⟩=XK (Xx XF 0) /\
   ∀X Y Z a3,XN (aa [] H ((((d.setCell ⟨H.heap.size,0,XJ⟩ X).setCell ⟨H.heap.size,1,XJ⟩ Y).setCell ⟨H.heap.size,2,XJ⟩ Z).setCell ⟨H.heap.size,3,XJ⟩ a3)/\aE ((((d.setCell ⟨H.heap.size,0,XJ⟩ X).setCell ⟨H.heap.size,1,XJ⟩ Y).setCell ⟨H.heap.size,2,XJ⟩ Z).setCell ⟨H.heap.size,3,XJ⟩ a3) c (eO P))):=by
  intro d fl c P s ad J he;have B9:=s.get U (by simp);obtain⟨z,A,B,C⟩:=cC B9;have R:=aw B9;refine⟨R 0,R 1,R 2,R 3,z,A,B,C,fun X Y Z a3=>⟨ic (V.trans s) (PQ _) _ _ _ _,J.Uw (fun x q=>(fS (r:=H.heap.size) _ _ _ _).block x (J.lt q) (by simp;rintro rfl;have:=ad _ q;omega))⟩⟩
 have y:=V.size;rcases hpr:b[w].Ux with _ | ⟨⟨t,p⟩,r⟩
 ·have I:b[w].Ux.length=0:=by rw[hpr];rfl
  have g:XN (eB b w b[w]=cO b w b[w].fin b[w].Ux []):=by show _=_;simp[eB,qd,hpr]
  rw[I]at t3;have ap:¬((0:Nat):Int) > 0:=by omega
  clear hpr j;go_wp2_with (go_at_call 145;refine(ma a i w b S _ n E O).mono ?_;rintro e d ⟨c,rfl,L,u,s⟩;obtain⟨y0,y1,y2,y3,z,A,B,C,o⟩:=f.out d _ c _ s u L g.out;unfold fD);exact Qg (v:=XD #[Xz c.ao (cO b w b[w].fin b[w].Ux []).1.length c.cap,fD (cO b w b[w].fin b[w].Ux []).2]) (by simp[results,results118,go_sem,z,A,B,C,fD]) rfl
   ⟨c,by rw[g.out],by rw[g.out];exact(o _ _ _ _).out.2,fun x q=>Qk y (u x q),(o _ _ _ _).out.1⟩
 ·have I:b[w].Ux.length=r.length+1:=by rw[hpr];rfl
  obtain⟨gp,M,ah,ac,d0,-,-,-⟩:=j.word 0 (by omega);obtain rfl:D=XK ⟨gp,0,XJ⟩:=F.out.symm.trans M;have av:gp<l.heap.size:=j.lt (by unfold Hd.blk;rw[M];rfl);have az:((b[w].Ux.length:Int) > 0):=by omega
  have ai:(0:Int)<b[w].Ux.length:=by omega
  have am:0<b[w].Ux.length:=by omega
  simp only[hpr,List.getElem_cons_zero]at d0;cases hc:(t.toList == [40])
  ·have g:XN (eB b w b[w]=cO b w b[w].fin b[w].Ux []):=(by show _=_;simp[eB,qd,hpr,hc]);clear hpr j M;go_wp2_with (go_at_call 145;refine(ma a i w b S _ n E O).mono ?_;rintro e d ⟨c,rfl,L,u,s⟩;obtain⟨y0,y1,y2,y3,z,A,B,C,o⟩:=f.out d _ c _ s u L g.out;unfold fD);exact Qg (v:=XD #[Xz c.ao (cO b w b[w].fin b[w].Ux []).1.length c.cap,fD (cO b w b[w].fin b[w].Ux []).2]) (by simp[results,results118,go_sem,z,A,B,C,fD]) rfl
    ⟨c,by rw[g.out],by rw[g.out];exact(o _ _ _ _).out.2,fun x q=>Qk y (u x q),(o _ _ _ _).out.1⟩
  ·have g:XN (eB b w b[w]=gZ b w b[w]):=(by show _=_;simp[eB,qd,hpr,hc]);clear hpr j M;go_wp2_with (go_at_call 144;refine(nY a i w b S _ n E O ag).mono ?_;rintro e d ⟨c,rfl,L,u,s⟩;obtain⟨y0,y1,y2,y3,z,A,B,C,o⟩:=f.out d _ c _ s u L g.out;unfold fD);exact Qg (v:=XD #[Xz c.ao (gZ b w b[w]).1.length c.cap,fD (gZ b w b[w]).2]) (by simp[results,results118,go_sem,z,A,B,C,fD]) rfl
    ⟨c,by rw[g.out],by rw[g.out];exact(o _ _ _ _).out.2,fun x q=>Qk y (u x q),(o _ _ _ _).out.1⟩
theorem wM:(prog.info? 22).map (fun i=>(i.zero,i.size,i.bytes))=XK (XK (Xz XJ 0 0),1,24):=by kernel_rfl
structure Ex where
 hd:Hd
 xs:List ByteArray
def rF(e:Ex):XQ:=Xz e.hd.ao e.xs.length e.hd.cap
def yN(l:List Ex):List XQ:=l.map rF
def dv(l:List Ex):fe:=⟨22,1,l.length,yN l⟩
theorem mG(l:List Ex)(e:Ex):(⟨(dv l).e,(dv l).size,(dv l).n+1,(dv l).xs++[rF e]⟩:fe)=dv (l++[e]):=by simp[dv,yN]
theorem oO(l:List Ex)(k:Nat)(h:k<l.length):(yN l)[k]?=XK (rF l[k]):=by simp[yN,h]
theorem cE.keptP{P:Nat->Prop}(c:cE x k v)(l:dA P x o)(j:∀e,k.blk=XK e->¬P e):cE o k v:=by
 rcases c with c | ⟨g,b,a,t,d,f,i⟩
 ·exact P0 c
 ·exact P7 ⟨g,b,a,t,d,l.get f (j g (by unfold Hd.blk;rw[d];rfl)),i⟩
structure pQ(w:XP)(b:Nat)(H:Nat->Hd)(e:Ex):Prop where
 view:cE w e.hd e.xs
 adr:∃ad,e.hd.ao=XK ad
 far:∀x,e.hd.blk=XK x->x<w.heap.size/\x≠b/\¬cD H x
theorem pQ.turned{g:Nat->Hd}{e:Ex}(h:pQ x T d e)(t:aj T x d o g):pQ o T g e:=by
 refine⟨h.view.keptP t.1 (fun a f=>?_),h.adr,fun a f=>?_⟩
 ·obtain⟨_,b,c⟩:=h.far a f;rintro (e | e)
  ·exact b e
  ·exact c e
 ·obtain⟨i,b,c⟩:=h.far a f;exact⟨PY i t.1.size,b,t.fresh a i c⟩
theorem pQ.Ur{e:Ex}(h:pQ x T d e)(k:aa [] x o):pQ o T d e :=
 ⟨h.view.Ur k,h.adr,fun b a=>⟨PY (h.far b a).1 k.size,(h.far b a).2⟩⟩
def mg(vs:List ByteArray)(be:List Ex):Nat->fe
 | 0=>au vs
 | 1=>dv be
 | _+2=>au []
def kQ(vs:List ByteArray)(be:List Ex)(H:Nat->Hd):List XQ:=[Xz (H 0).ao vs.length (H 0).cap,Xz (H 1).ao be.length (H 1).cap]
structure jf(w:XP)(b:Nat)(vs:List ByteArray)(be:List Ex)(H:Nat->Hd):Prop where
 bag:aB w b 278 (kQ vs be H) (mg vs be) H
 len:be.length=vs.length
 exs:∀e∈be,pQ w b H e
theorem jf.Ur{a:List Ex}(h:jf x T v a d)(k:aa [] x o):jf o T v a d:=⟨h.bag.Ur k,h.len,fun e b=>(h.exs e b).Ur k⟩
theorem jf.cells{a:List Ex}(h:jf x T v a d) :
  XI x ⟨T,0,XJ⟩=XK (Xz (d 0).ao v.length (d 0).cap)/\XI x ⟨T,1,XJ⟩=XK (Xz (d 1).ao a.length (d 1).cap):=⟨h.bag.cell 0,h.bag.cell 1⟩
def wD(a b:List ByteArray):Bool:=a.map (·.toList)==b.map (·.toList)
theorem Lf(h:v.length≠D.length):wD v D=XM:=by
 unfold wD;rw[Qi];intro e;have:=congrArg List.length e;simp at this;exact h this
theorem Nk(a:f<v.length)(b:f<D.length)(h:(v[f].toList==D[f].toList)=XM):wD v D=XM:=by
 unfold wD;rw[Qi]at h ⊢;intro e;have:=congrArg (fun l=>l[f]?) e;simp[a,b]at this;exact h this
theorem Dx(c:v.length=D.length)(h:∀k (a:k<v.length) (b:k<D.length),(v[k].toList==D[k].toList)=XL):wD v D=XL:=by
 unfold wD;rw[Ua];apply TN
 ·simpa using c
 ·intro k a b;simp at a b ⊢;exact Ua.1 (h k a b)
set_option maxRecDepth 512
theorem uQ(o p:Hd)(a b:List ByteArray)(w:XP)(Z:cE w o a)(v2:cE w p b)(V:a.length<=1073741824)(W:b.length<=1073741824) :
  XO prog 159 #[Xz o.ao a.length o.cap,Xz p.ao b.length p.cap] w fun e w'=>e=XH (XC (wD a b))/\aa [] w w':=by
 obtain⟨K,B⟩:=o;obtain⟨L,C⟩:=p;by_cases f:a.length=b.length
 ·have Y:((a.length:Int) != b.length)=XM:=by simp[f]
  by_cases I:a.length=0
  ·have d:XN (wD a b=XL):=Dx f (fun k o p=>by omega);have S:¬(0:Int)<a.length:=(by omega);go_enter func159,ntmps159;go_wp2;refine Rg 1 ?_;rw[RM];go_wp2;go_ret;exact⟨aH d.out.symm,aa.refl _ _⟩
  ·rcases Z with rfl | ⟨g,s,M,t,E,F,y,N,O⟩
   ·simp at I
   rcases v2 with rfl | ⟨R,l,D,t',G,H,z,P,Q⟩
   ·simp at f;simp[f]at I
   simp only at E G N O P Q;subst E;subst G;go_enter func159,ntmps159;go_wp2
   go_loopg [5] a.length (fun gk i wr=>∃k:Nat,k<=a.length/\gk=a.length-k/\i=Xx XF k/\XN (∀i (u:i<a.length) (v:i<b.length),i<k->(a[i].toList==b[i].toList)=XL)/\aa [] w wr)
   case atStart=>exact⟨0,by omega,by omega,rfl,fun i _ _ U=>by omega,aa.refl _ _⟩
   case round =>
    obtain⟨k,hk,hg,rfl,c,q⟩:=hrel;by_cases r:k<a.length
    ·have j:k<b.length:=(by omega);have c1:XI wr ⟨g,s+k,XJ⟩=XK (Xy a[k]):=(ab (q.get F (by simp)) (s+k)).trans (y k a[k] (PJ r));have c2:XI wr ⟨R,l+k,XJ⟩=XK (Xy b[k]):=(ab (q.get H (by simp)) (l+k)).trans (z k b[k] (PJ j));have X:(k:Int)<a.length:=(by omega);have J:(k:Int)<b.length:=(by omega);have m:XN _:=Nk k r j;have n:XN ((a[k].toList==b[k].toList)=XL->∀i (u:i<a.length) (v:i<b.length),i<k+1->(a[i].toList==b[i].toList)=XL):=by
      intro T i u v U;by_cases e:i=k
      ·subst e;exact T
      ·exact c.out i u v (by omega)
     clear c y z F H;cases x:(a[k].toList==b[k].toList)
     ·have d:XN _:=m.out x;have A:(a[k].toList != b[k].toList)=XL:=(by simp[bne,x]);clear m n f;(go_upto_region 6 with fail);go_quiet (fail);go_wp2;go_ret;exact⟨aH d.out.symm,q.drewN _⟩
     ·have d:XN _:=n.out x;have A:(a[k].toList != b[k].toList)=XM:=(by simp[bne,x]);clear m n f;(go_upto_region 6 with fail);go_quiet (fail);go_wp2;go_roundg (a.length-(k+1))
      case measure=>omega
      case rel=>exact⟨k+1,by omega,rfl,by go_num,d.out,q.drewN _⟩
    ·have d:XN (wD a b=XL):=Dx f (fun i u v=>c.out i u v (by omega));clear c y z;go_wp2;go_ret;exact⟨aH d.out.symm,q⟩
 ·have d:XN (wD a b=XM):=Lf f;have Y:((a.length:Int) != b.length)=XL:=by simp[bne];omega
  go_enter func159,ntmps159;go_wp2;go_ret;exact⟨aH d.out.symm,aa.refl _ _⟩
theorem Gq(a:List ByteArray)(r:List Ex)(H:Nat->Hd)(x:ByteArray)(w:XP)(h:jf w f a r H)(F:a.length<=1073741824) :
  XO prog 215 #[XA (XK ⟨f,0,XJ⟩),Xy x] w fun e B=>e=XH (Xx XF (eT (aZ a x)))/\B=w:=by
 obtain⟨s,t⟩:=h.cells;have m:=h.len;have b:aE w (H 0) (au a):=h.bag.own 0;rw[m]at t;go_enter func215,ntmps215;go_wp2
 go_loopg [5] a.length (fun g i wr=>∃k:Nat,k<=a.length/\g=a.length-k/\i=Xx XF k/\XN (∀i,i<k->((a.getD i ⟨#[]⟩).toList==x.toList)=XM)/\wr=w)
 case atStart=>exact⟨0,by omega,by omega,rfl,fun i p=>by omega,rfl⟩
 case round =>
  obtain⟨k,E,D,rfl,c,rfl⟩:=hrel;by_cases d:k<a.length
  ·rcases b.UC with ⟨_,z,_⟩ | ⟨g,u,n,-,v,-⟩
   ·have:a.length=0:=z;omega
   ·have C:=b.cell n k (Xy a[k]) (mL a k d);rw[n]at s;have j:XN _:=i7 a k d;have A:a.length<=(H 0).cap:=v;generalize a[k]=y at *;cases o:(y.toList==x.toList)
    ·have q:XN (∀i,i<k+1->((a.getD i ⟨#[]⟩).toList==x.toList)=XM):=by
      intro i p;by_cases e:i=k
      ·subst e;rw[j.out];exact o
      ·exact c.out i (by omega)
     clear j h b;go_wp2;go_roundg (a.length-(k+1))
     case measure=>omega
     case rel=>exact⟨k+1,by omega,rfl,by go_num,q,rfl⟩
    ·have l:XN (aZ a x=XK k):=dN d (by rw[j.out];exact o) c.out;clear j h b;go_wp2;go_ret;exact⟨ay (by rw[l.out];rfl),rfl⟩
  ·have l:XN (aZ a x=XJ):=eJ (fun i p=>c.out i (by omega));clear h b;go_wp2;go_ret;exact⟨ay (by rw[l.out];rfl),rfl⟩
end Go.Proofs.YtnbalopedcgpcaaGreat
