import Derived.Test.YtnbalopedcgpcaaGreatG10
namespace Go.Proofs.YtnbalopedcgpcaaGreat
open Go.RowKit Tryz
open Value renaming int->Xx,string->Xy,slice->Xz,pointer->XA,agg->XB,bool->XC,tuple->XD
open Obj renaming cells->XE
open IntKind renaming i64->XF
open Ending renaming returned->XH
open World renaming cell?->XI
open Option renaming none->XJ,some->XK
open Bool renaming true->XL,false->XM
open Go.RowKit renaming Hid->XN
open Go renaming Calls->XO,World->XP,Value->XQ
set_option maxHeartbeats 0
variable{f D:XP}{y i:Nat}{z4:List XQ}{x:Nat->Hd}{n:List St}{t:Nat->Bool}{g:Hd}{M:List ByteArray}(T:List St)(d:Nat)(m:List ByteArray)(l w:Nat)(L:Fs)(s:List XQ)(b:List St)(a:Nat->Hd)(o:St)(I N:Hd)(H:XP)
structure fG(w:XP)(l:List St)(H:Nat->Hd):Prop where
  own:aE w (H 6) (fA l H)
  syms:∀i s,l[i]?=XK s->aE w (H (10+2*i)) (au s.Um)
  prfs:∀i s,l[i]?=XK s->aE w (H (11+2*i)) (eU s.Ux)
theorem aO.record{b:List XQ}{d:Db}(h:aO f y i z4 b d x):fG f d.UD x:=by
  refine⟨h.own 6,fun a s c=>?_,fun a s c=>?_⟩
  · have:=h.own (10+2*a)
    rw[show 10+2*a=2*a+10 by omega]at this ⊢;have e:aT d x (2*a+10)=au s.Um:=by simp[aT,inner,symsAt,c]
    rw[e]at this;exact this
  · have:=h.own (11+2*a)
    rw[show 11+2*a=(2*a+1)+10 by omega]at this ⊢;have q:(2*a+1) % 2=1:=by omega
    have g:(2*a+1) / 2=a:=(by omega);have e:aT d x ((2*a+1)+10)=eU s.Ux:=(by simp[aT,inner,px,q,g,c]);rw[e]at this;exact this
theorem fG.keptP{P:Nat->Prop}(h:fG f n x)(k:dA P f D)(d:∀a,cD x a->¬P a):fG D n x :=
  ⟨h.own.Uw (fun a b=>k.block a (h.own.lt b) (d a ⟨6,b⟩)),fun i s c=>(h.syms i s c).Uw (fun a b=>k.block a ((h.syms i s c).lt b) (d a ⟨_,b⟩)),fun i s c=>(h.prfs i s c).Uw (fun a b=>k.block a ((h.prfs i s c).lt b) (d a ⟨_,b⟩))⟩
theorem fG.kept{S:List Nat}(h:fG f n x)(k:aa S f D)(b:∀a,cD x a->a∉S):fG D n x :=
  h.keptP (k.toP (P:=(·∈S)) (fun _ c _=>c)) b
theorem fG.Ur(h:fG f n x)(k:aa [] f D):fG D n x:=h.kept k (by simp)
def fh:Nat->Hd:=fun _=>⟨XJ,0⟩
theorem qi:¬cD fh w:=by rintro ⟨i,h⟩;simp[fh,Hd.blk]at h
def AN:List Bool:=[XM,XM,XM,XM]
theorem aO.begin(h:f.heap[y]?=XK (XE (z4++(bM bB fh++[])).toArray i)):aO f y i z4 [] bB fh:=by
  refine⟨h,?_,fun a j _=>P0 rfl,fun a e=>by simp[fh,Hd.blk]at e⟩;intro a
  match a with
  | 0=>exact Qj _ _ _ _
  | 1=>exact Qj _ _ _ _
  | 2=>exact Qj _ _ _ _
  | 3=>exact Qj _ _ _ _
  | 4=>exact Qj _ _ _ _
  | 5=>exact Qj _ _ _ _
  | 6=>exact Qj _ _ _ _
  | 7=>exact Qj _ _ _ _
  | 8=>exact Qj _ _ _ _
  | 9=>exact Qj _ _ _ _
  | n+10 =>
    have e:aT bB fh (n+10)=if n % 2=0 then au [] else eU []:=(by simp[aT,inner,bB,symsAt,px]);rw[e];split
    · exact Qj _ _ _ _
    · exact Qj _ _ _ _
theorem Cx(b:List XQ)(a:Db)(H:Nat->Hd)(i:XP)(h:aO i d l s b a H)(k:s.length=w) :
    XO prog 113 #[XA (XK ⟨d,w,XJ⟩)] i fun e x=>e=XH (XB #[Xz (H 6).ao a.UD.length (H 6).cap,Xz (H 7).ao a.rbl.length (H 7).cap])/\aa [] i x:=by
  obtain⟨m,n,o,p,q,r,y,z,t,u,c,f,g⟩:=h.cells w k;clear m n o p q r t u c f g;have j:=h.lt;go_enter func113,ntmps113;go_wp2;exact Qg (v:=XB #[Xz (H 6).ao a.UD.length (H 6).cap,Xz (H 7).ao a.rbl.length (H 7).cap]) (by simp[results,results113,go_sem]) rfl ⟨rfl,(aa.refl _ _).alloc _⟩
theorem rM(a:∀j,j<L.length->(PH L j).size<=1024)(b:List Bool):dn L b<=4104:=by
  have h:∀j,Kv L b j<=1026:=by
    intro j;unfold Kv;split
    · omega
    · rcases R1 j L.length with h | h
      · have:=a j h;omega
      · have:(PH L j).size=0:=by unfold PH;rw[PK,QP h];rfl
        omega
  have c:=h 0;have d:=h 1;have e:=h 2;have f:=h 3;unfold dn;omega
theorem wQ{S:List Nat}(h:aa S f D)(b:y∈S∨f.heap.size<=y)(a:i∈S∨f.heap.size<=i)(c d e g j k:XQ) :
    aa S f ((((((D.setCell ⟨y,0,XJ⟩ c).setCell ⟨y,1,XJ⟩ d).setCell ⟨i,0,XJ⟩ e).setCell ⟨i,1,XJ⟩ g).setCell ⟨i,2,XJ⟩ j).setCell ⟨i,3,XJ⟩ k) :=
  (((((h.setCell b _).setCell b _).setCell a _).setCell a _).setCell a _).setCell a _
def cQ(fs:Fs)(root:Nat):Ks:=cA fs 5000 root AN bB
set_option maxRecDepth 100000
theorem Jt(Z:bV H d l L s)(Q:w<L.length)(o:∀j,j<L.length->(PH L j).size<=1024) :
    XO prog 87 #[XA (XK ⟨d,0,XJ⟩),Xx XF w] H fun e w' =>
      (if((cQ L w).1.1==0)=XL then ∃p,e=XH (XD #[XB #[Xz (p 6).ao (cQ L w).2.2.UD.length (p 6).cap,Xz (p 7).ao (cQ L w).2.2.rbl.length (p 7).cap],fD cy])/\fG w' (cQ L w).2.2.UD p/\(∀k,cD p k->H.heap.size<=k)
       else e=XH (XD #[XB #[Xz XJ 0 0,Xz XJ 0 0],fD (cQ L w).1]))/\aa [] H w':=by
  have ad:=Z.lt
  obtain⟨W,q⟩:∃W,W=((H.alloc (XE #[Xz XJ 0 0,Xz XJ 0 0] 48)).alloc (XE #[Xx XF 0,Xy ⟨#[]⟩,Xx XF 0,Xx XF 0] 85)).alloc (XE #[XA (XK ⟨d,0,XJ⟩),XC XM,XC XM,XC XM,XC XM,
    Xz XJ 0 0,Xz XJ 0 0,Xz XJ 0 0,Xz XJ 0 0,Xz XJ 0 0,Xz XJ 0 0,Xz XJ 0 0,Xz XJ 0 0,Xx XF 0,Xy ⟨#[]⟩,Xz XJ 0 0,XC XM,Xz XJ 0 0] 186):=⟨_,rfl⟩
  have i:aa [] H W:=by rw[q];exact(((aa.refl [] _).alloc _).alloc _).alloc _
  have hA:W.heap[H.heap.size]?=XK (XE #[Xz XJ 0 0,Xz XJ 0 0] 48):=by
    rw[q];exact(((aa.refl [] _).alloc _).alloc _).get (PM _ _) (by simp)
  have X:W.heap[H.heap.size+1]?=XK (XE bb 85):=by
    rw[q];have e:(H.alloc (XE #[Xz XJ 0 0,Xz XJ 0 0] 48)).heap.size=H.heap.size+1:=by simp
    rw[<-e];exact((aa.refl [] _).alloc _).get (PM _ _) (by simp)
  have V:aO W (H.heap.size+2) 186 (dm d AN) [] bB fh:=by
    refine aO.begin ?_;rw[q];have e:((H.alloc (XE #[Xz XJ 0 0,Xz XJ 0 0] 48)).alloc (XE #[Xx XF 0,Xy ⟨#[]⟩,Xx XF 0,Xx XF 0] 85)).heap.size=H.heap.size+2:=by simp
    rw[<-e];exact PM _ _
  have hT:bV W d l L s:=Z.kept i (by simp);have HW:XN _:=q.symm;have P:=xm (H.heap.size+2) d l L s o (by omega) 5000 w AN bB fh W 0 Q rfl jw.empty (by have:=rM L o AN;omega) (by have:=rM L o AN;omega) V hT (qi _);unfold gx at P;have v:XN _:=P;clear q P;have u:XN ((cA L 5000 w AN bB).2.1.length=4):=((Iy L 5000).2 w AN bB 0 rfl jw.empty).1;have T:XN (cQ L w=cA L 5000 w AN bB):=rfl;rw[T.out];clear T;generalize cA L 5000 w AN bB=R at *;obtain⟨⟨r,pf,pl,pc⟩,x,E⟩:=R;simp only[fD]at v u ⊢;go_enter func87,ntmps87;go_upto_region 2 with fail
  rw[HW.out];go_wp2_with fail;refine PU v.out ?_;rintro e F ⟨rfl,c,M,b⟩;have a:=b.1.get hA (by rintro (e | e);omega;exact qi _ e);have f:=b.1.get X (by rintro (e | e);omega;exact qi _ e);have ag:=b.1.size;have ac:=M.lt;have O:XN (∀k,cD c k->H.heap.size<=k):=fun k m=>by
    rcases b.2 k m with h | h
    · exact absurd h (qi _)
    · have:=i.size;omega
  have N:XN (∀k,cD c k->k≠H.heap.size/\k≠H.heap.size+1/\k≠H.heap.size+2):=fun k m=>by
    have hz:=ae X;have ah:=V.lt;rcases b.2 k m with h | h
    · exact absurd h (qi _)
    · omega
  have U:XN (aa [] H F):=⟨b.1.os.trans i.os,b.1.tape.trans i.tape,b.1.output.trans i.output,Qk i.size b.1.size,fun k m _=>(b.1.block k (PY m i.size) (by rintro (e | e);omega;exact qi _ e)).trans (i.block k m (by simp))⟩;have C:XI F ⟨H.heap.size,0,XJ⟩=XK (Xz XJ 0 0):=by rw[ab a];rfl
  have D:XI F ⟨H.heap.size,1,XJ⟩=XK (Xz XJ 0 0):=by rw[ab a];rfl
  obtain⟨G,I,J,K⟩:=bI f;have ya:=aw a;have yf:=aw f;have y:=ae a;have z:=ae f;cases Y:(r==0)
  · have S:(r != 0)=XL:=by simp[bne,Y]
    go_wp2_with fail;go_region
    all_goals go_wp2
    all_goals exact Qg (v:=XD #[XB #[Xz XJ 0 0,Xz XJ 0 0],XB #[Xx XF r,Xy pf,Xx XF pl,Xx XF pc]]) (by simp[results,results87,go_sem,C,D,G,I,J,K,y,z]) rfl ⟨rfl,((wQ U.out (P7 (PQ _)) (P7 (Sa _)) _ _ _ _ _ _).alloc _).drew⟩
  · have S:(r != 0)=XM:=by simp[bne,Y]
    go_wp2_with fail;refine(Cx (H.heap.size+2) 186 5 (dm d x) [] E c _ (by exact M.Ur ((aa.refl [] _).alloc _)) (fY d x u.out)).mono ?_;rintro e t ⟨rfl,B⟩;have g:aa [] F t:=((aa.refl [] _).alloc _).trans B;have n:=g.get a (by simp);have A:=g.get f (by simp);have K4:XN (aa [] H t):=U.out.trans g;have S4:XN (fG t E.UD c):=M.record.Ur g;clear C D G I J K ya yf B;have C:XI t ⟨H.heap.size,0,XJ⟩=XK (Xz XJ 0 0):=by rw[ab n];rfl
    have D:XI t ⟨H.heap.size,1,XJ⟩=XK (Xz XJ 0 0):=(by rw[ab n];rfl);obtain⟨G,I,J,K⟩:=bI A;have ya:=aw n;have yf:=aw A;go_wp2;exact Qg (v:=XD #[XB #[Xz (c 6).ao E.UD.length (c 6).cap,Xz (c 7).ao E.rbl.length (c 7).cap],XB #[Xx XF 0,Xy ⟨#[]⟩,Xx XF 0,Xx XF 0]]) (by simp[results,results87,go_sem,C,D,G,I,J,K]) rfl
      ⟨⟨c,rfl,S4.out.kept (wQ (aa.refl [H.heap.size,H.heap.size+1] t) (P0 (by simp)) (P0 (by simp)) _ _ _ _ _ _) (fun k m=>by have:=N.out k m;simp;omega),O.out⟩,
        wQ K4.out (P7 (PQ _)) (P7 (Sa _)) _ _ _ _ _ _⟩
structure cK(w:XP)(b o:Nat)(l:List St)(H:Nat->Hd):Prop where
 cell:∃arr t,w.heap[b]?=XK (XE arr t)/\arr[o]?=XK (Xz (H 6).ao l.length (H 6).cap)
 UD:fG w l H
theorem cK.at(h:cK f y i n x):XI f ⟨y,i,XJ⟩=XK (Xz (x 6).ao n.length (x 6).cap):=by
 obtain⟨a,t,b,c⟩:=h.cell;rw[ab b];exact c
theorem cK.lt(h:cK f y i n x):y<f.heap.size:=by
 obtain⟨a,t,b,c⟩:=h.cell;exact ae b
theorem cK.kept{S:List Nat}(h:cK f y i n x)(k:aa S f D)(g:y∉S)(e:∀b,cD x b->b∉S):cK D y i n x:=by
 obtain⟨a,t,c,d⟩:=h.cell;exact⟨⟨a,t,k.get c g,d⟩,h.UD.kept k e⟩
theorem cK.Ur(h:cK f y i n x)(k:aa [] f D):cK D y i n x:=h.kept k (by simp) (by simp)
theorem fG.stmt(h:fG f n x)(a:Nat)(m:a<n.length) :
  ∃g,(x 6).ao=XK ⟨g,0,XJ⟩/\n.length<=(x 6).cap/\(x 6).cap<=9223372036854775807/\XI f ⟨g,a*8,XJ⟩=XK (Xx XF n[a].kind)/\XI f ⟨g,a*8+1,XJ⟩=XK (Xy n[a].label)/\XI f ⟨g,a*8+2,XJ⟩=XK (Xz (x (10+2*a)).ao n[a].Um.length (x (10+2*a)).cap) /\
  XI f ⟨g,a*8+3,XJ⟩=XK (Xz (x (11+2*a)).ao n[a].Ux.length (x (11+2*a)).cap)/\XI f ⟨g,a*8+4,XJ⟩=XK (Xy n[a].fin.file)/\XI f ⟨g,a*8+5,XJ⟩=XK (Xx XF n[a].fin.line) /\
  XI f ⟨g,a*8+6,XJ⟩=XK (Xx XF n[a].fin.col)/\XI f ⟨g,a*8+7,XJ⟩=XK (Xx XF n[a].til):=by
 rcases h.own.UC with ⟨_,k,_⟩ | ⟨g,e,b,p,i,d,-⟩
 ·have:n.length=0:=k;omega
 ·have c:=fun j (l:j<8) v (o:(Gu n[a] (x (10+2*a)) (x (11+2*a)))[j]?=XK v)=>h.own.cell b (a*8+j) v ((Ef n x a m j l).trans o);exact⟨g,b,i,by unfold maxLen at d;exact d,c 0 (by omega) _ rfl,c 1 (by omega) _ rfl,c 2 (by omega) _ rfl,c 3 (by omega) _ rfl,c 4 (by omega) _ rfl,c 5 (by omega) _ rfl,c 6 (by omega) _ rfl,c 7 (by omega) _ rfl⟩
set_option maxRecDepth 512
theorem dr(h:cK H l w b a) :
  XO prog 79 #[XA (XK ⟨l,w,XJ⟩)] H fun e d=>e=XH (Xx XF b.length)/\d=H:=by
 have c:=h.at;go_enter func79,ntmps79;go_wp2;go_ret;exact⟨rfl,rfl⟩
def bW(s:St)(a b:Hd):XQ :=
 XB #[Xx XF s.kind,Xy s.label,Xz a.ao s.Um.length a.cap,Xz b.ao s.Ux.length b.cap,Xy s.fin.file,Xx XF s.fin.line,Xx XF s.fin.col,Xx XF s.til]
theorem aQ(h:cK H d l b a)(k:w<b.length) :
  XO prog 51 #[XA (XK ⟨d,l,XJ⟩),Xx XF w] H fun e m=>e=XH (bW b[w] (a (10+2*w)) (a (11+2*w)))/\aa [] H m:=by
 have c:=h.at;have i:=h.lt;obtain⟨g,f,x,y,n,o,p,q,r,s,t,u⟩:=h.UD.stmt w k;have j:=h.UD.own.lt (k:=g) (by unfold Hd.blk;rw[f];rfl);rw[f]at c;unfold bW;clear h;go_enter func51,ntmps51;go_wp2;exact Qg (v:=XB #[Xx XF b[w].kind,Xy b[w].label,Xz (a (10+2*w)).ao b[w].Um.length (a (10+2*w)).cap,Xz (a (11+2*w)).ao b[w].Ux.length (a (11+2*w)).cap,Xy b[w].fin.file,Xx XF b[w].fin.line,Xx XF b[w].fin.col,Xx XF b[w].til])
  (by simp[results,results51,go_sem]) rfl ⟨rfl,(aa.refl _ _).alloc _⟩
def bZ(l:List St)(n a:Nat):Bool:=match l[n]? with | some s=>decide (n<a)&&(s.til==0||decide (a<s.til)) | none=>XM
theorem Lt(h:l<T.length):bZ T l w=(decide (l<w)&&(T[l].til==0||decide (w<T[l].til))):=by
 unfold bZ;rw[PJ h]
theorem eS(a:Nat)(b:List St)(H:Nat->Hd)(m:XP)(h:cK m d l b H)(o:w<b.length) :
  XO prog 95 #[XA (XK ⟨d,l,XJ⟩),Xx XF w,Xx XF a] m fun e z=>e=XH (XC (bZ b w a))/\z=m:=by
 have c:=h.at;obtain⟨g,y,B,C,p,q,r,s,u,v,x,A⟩:=h.UD.stmt w o;clear p q r s u v x;rw[y]at c;have i:XN _:=Lt b w a o;generalize b[w].til=t at *;clear h;by_cases k:w<a
 ·cases n:((t:Int)==0)
  ·have f:(t==0)=XM:=by cases t <;> simp at n ⊢
   have j:XN (bZ b w a=decide (a<t)):=(by show _=_;rw[i.out,f];simp[k]);clear i;go_enter func95,ntmps95;go_wp2;go_ret;exact⟨aH (by rw[j.out]),rfl⟩
  ·have f:(t==0)=XL:=by cases t <;> simp at n ⊢ <;> omega
   have j:XN (bZ b w a=XL):=(by show _=_;rw[i.out,f];simp[k]);clear i;go_enter func95,ntmps95;go_wp2;go_ret;exact⟨aH (by rw[j.out]),rfl⟩
 ·have j:XN (bZ b w a=XM):=by show _=_;rw[i.out];simp[k]
  clear i;go_enter func95,ntmps95;go_wp2;go_ret;exact⟨aH (by rw[j.out]),rfl⟩
def gK(l:List St)(lab:ByteArray)(a n:Nat):Bool:=match l[n]? with | some s=>(s.label.toList==lab.toList) && !(s.kind==1)&&bZ l n a | none=>XM
def ez(l:List St)(lab:ByteArray)(a:Nat):Option Nat:=(List.range l.length).find? (gK l lab a)
def eT:Option Nat->Int
 | some n=>n
 | none=>-1
theorem IX(c:ByteArray)(a n:Nat)(h:n<b.length):gK b c a n=((b[n].label.toList==c.toList) && !(b[n].kind==1)&&bZ b n a):=by
 unfold gK;rw[PJ h]
theorem dN(d:i<y)(e:t i=XL)(a:∀b,b<i->t b=XM):(List.range y).find? t=XK i :=
 TI.2 ⟨e,by simpa using d,fun j c=>by simp[a j c]⟩
theorem eJ(a:∀i,i<y->t i=XM):(List.range y).find? t=XJ :=
 Rc.2 (fun i b=>by simp[a i (by simpa using b)])
theorem fp(b:ByteArray)(a:List St)(H:Nat->Hd)(p:XP)(h:cK p d l a H)(P:a.length<=1073741824) :
  XO prog 163 #[XA (XK ⟨d,l,XJ⟩),Xy b,Xx XF w] p fun e G=>e=XH (Xx XF (eT (ez a b w)))/\G=p:=by
 have c:=h.at;go_enter func163,ntmps163;go_wp2
 go_loopg [7] a.length (fun g i wr=>∃k:Nat,k<=a.length/\g=a.length-k/\i=Xx XF k/\XN (∀i,i<k->gK a b w i=XM)/\wr=p)
 case atStart=>exact⟨0,by omega,by omega,rfl,fun i v=>by omega,rfl⟩
 case round =>
  obtain⟨k,O,N,rfl,f,rfl⟩:=hrel;by_cases j:k<a.length
  ·obtain⟨g,D,L,M,J,K,x,y,z,A,B,C⟩:=h.UD.stmt k j;clear x y z A B C;rw[D]at c;have n:XN _:=IX a b w k j;have s:XN (cK wr d l a H):=h;generalize a[k].label=F at *;generalize a[k].kind=r at *;have next:XN (gK a b w k=XM->∀i,i<k+1->gK a b w i=XM):=by
    intro E i v;by_cases e:i=k
    ·subst e;exact E
    ·exact f.out i (by omega)
   cases t:(F.toList==b.toList)
   ·have m:XN (gK a b w k=XM):=(by show _=_;rw[n.out,t];simp);clear n h;go_wp2;go_roundg (a.length-(k+1))
    case measure=>omega
    case rel=>exact⟨k+1,by omega,rfl,by go_num,next.out m.out,rfl⟩
   ·cases o:(r==1)
    ·have q:(r != 1)=XL:=(by simp[bne,o]);cases u:bZ a k w
     ·have m:XN (gK a b w k=XM):=(by show _=_;rw[n.out,u];simp);clear n h;go_wp2_with (go_at_call 95;refine(eS d l k w a H _ s.out j).mono ?_;rintro e I ⟨rfl,rfl⟩);go_roundg (a.length-(k+1))
      case measure=>omega
      case rel=>exact⟨k+1,by omega,rfl,by go_num,next.out m.out,rfl⟩
     ·have m:XN (ez a b w=XK k):=dN j (by rw[n.out,t,o,u];rfl) f.out;clear n h;go_wp2_with (go_at_call 95;refine(eS d l k w a H _ s.out j).mono ?_;rintro e I ⟨rfl,rfl⟩);go_ret;exact⟨ay (by rw[m.out];rfl),rfl⟩
    ·have q:(r != 1)=XM:=(by simp[bne,o]);have m:XN (gK a b w k=XM):=(by show _=_;rw[n.out,o];simp);clear n h;go_wp2;go_roundg (a.length-(k+1))
     case measure=>omega
     case rel=>exact⟨k+1,by omega,rfl,by go_num,next.out m.out,rfl⟩
  ·have m:XN (ez a b w=XJ):=eJ (fun i v=>f.out i (by omega));clear h;go_wp2;go_ret;exact⟨ay (by rw[m.out];rfl),rfl⟩
def cE(w:XP)(h:Hd)(l:List ByteArray):Prop :=
 l=[]∨∃g off cur t,h.ao=XK ⟨g,off,XJ⟩/\w.heap[g]?=XK (XE cur t)/\(∀j x,l[j]?=XK x->cur[off+j]?=XK (Xy x))/\l.length<=h.cap/\h.cap<=9223372036854775807
theorem aE.view(o:aE f g (au M)):cE f g M:=by
 rcases o.UC with ⟨_,n,_⟩ | ⟨m,a,e,i,k,c,q,l⟩
 ·exact P0 (Ql n)
 ·refine P7 ⟨m,0,a,_,e,i,?_,k,by unfold maxLen at c;exact c⟩;intro j x d;have p:j<M.length:=(Qc.1 d).1;have b:a.toList.take (M.length*1)=strs M:=l;have:(strs M)[j]?=XK (Xy x):=by simp[strs,d]
  rw[<-b,List.getElem?_take]at this;rw[Sv];simp at this;exact this.2
theorem cE.kept{S:List Nat}(v:cE f g M)(k:aa S f D)(j:∀x,g.blk=XK x->x∉S):cE D g M:=by
 rcases v with v | ⟨d,b,a,t,c,e,i⟩
 ·exact P0 v
 ·exact P7 ⟨d,b,a,t,c,k.get e (j d (by unfold Hd.blk;rw[c];rfl)),i⟩
theorem cE.Ur(v:cE f g M)(k:aa [] f D):cE D g M:=v.kept k (by simp)
theorem kK{a b:ByteArray}(h:a=b):Ending.returned (Xy a)=XH (Xy b):=by rw[h]
theorem Ij(l:List ByteArray)(x:ByteArray)(w:XP)(r:cE w N l)(q:l.length<=1073741824) :
  XO prog 121 #[Xz N.ao l.length N.cap,Xy x] w fun e s=>e=XH (XC (aM l x))/\s=w:=by
 obtain⟨u,n⟩:=N;rcases r with rfl | ⟨g,d,o,t,j,p,f,y,z⟩
 ·clear q;go_enter func121,ntmps121;go_wp2;refine Rg 1 ?_;rw[RM];go_wp2;go_ret;exact⟨rfl,rfl⟩
 ·simp only at j;subst j;go_enter func121,ntmps121;go_wp2
  go_loopg [5] l.length (fun g i wr=>∃k:Nat,k<=l.length/\g=l.length-k/\i=Xx XF k/\XN (aM l x=aM (l.drop k) x)/\wr=w)
  case atStart=>exact⟨0,by omega,by omega,rfl,rfl,rfl⟩
  case round =>
   obtain⟨k,B,A,rfl,b,rfl⟩:=hrel;by_cases a:k<l.length
   ·have v:XI wr ⟨g,d+k,XJ⟩=XK (Xy l[k]):=(ab p (d+k)).trans (f k l[k] (PJ a));cases m:((l[k]).toList==x.toList)
    ·have c:XN (aM l x=aM (l.drop (k+1)) x):=zd l x k a b.out m;clear b f;go_wp2;go_roundg (l.length-(k+1))
     case measure=>omega
     case rel=>exact⟨k+1,by omega,rfl,by go_num,c,rfl⟩
    ·have c:XN (aM l x=XL):=DH l x k a b.out m;clear b f;go_wp2;go_ret;exact⟨aH c.out.symm,rfl⟩
   ·have c:XN (aM l x=XM):=zf l x k a b.out;clear b f;go_wp2;go_ret;exact⟨aH c.out.symm,rfl⟩
def ax(s:St):ByteArray:=s.Um.getD 0 ⟨#[]⟩
def ak(s:St):ByteArray:=if(s.kind==2)=XL/\2<=s.Um.length then s.Um.getD 1 ⟨#[]⟩ else⟨#[]⟩
theorem i7(h:w<m.length):m.getD w ⟨#[]⟩=m[w]:=by rw[PK,PJ h];rfl
theorem kR(r:cE H I o.Um)(q:o.Um.length<=1073741824) :
  XO prog 99 #[bW o I N] H fun e s=>e=XH (Xy (ax o))/\aa [] H s:=by
 unfold bW;obtain⟨u,m⟩:=I;rcases r with f | ⟨g,c,n,t,j,k,l,w,x⟩
 ·have a:XN (ax o=⟨#[]⟩):=by show _=_;unfold ax;rw[f];rfl
  rw[f];simp only[List.length_nil];clear q f;go_enter func99,ntmps99;go_wp2;go_ret;exact⟨kK a.out.symm,(aa.refl _ _).alloc _⟩
 ·simp only at j;subst j;by_cases d:o.Um.length=0
  ·have i:((o.Um.length:Int)==0)=XL:=(by simp[d]);have a:XN (ax o=⟨#[]⟩):=(by show _=_;unfold ax;rw[Ql d];rfl);clear d;go_enter func99,ntmps99;go_wp2;go_ret;exact⟨kK a.out.symm,(aa.refl _ _).alloc _⟩
  ·have i:((o.Um.length:Int)==0)=XM:=Qi.2 (by omega);have b:0<o.Um.length:=(by omega);have a:XN (ax o=o.Um[0]):=i7 _ _ b;have v:XI H ⟨g,c,XJ⟩=XK (Xy o.Um[0]):=(ab k c).trans (l 0 _ (PJ b));have p:=ae k;clear l d;go_enter func99,ntmps99;go_wp2;go_ret;exact⟨kK a.out.symm,(aa.refl _ _).alloc _⟩
theorem fn(q:cE H I o.Um)(x:o.Um.length<=1073741824) :
  XO prog 97 #[bW o I N] H fun e r=>e=XH (Xy (ak o))/\aa [] H r:=by
 unfold bW;cases d:(o.kind==2)
 ·have f:(o.kind != 2)=XL:=by simp[bne,d]
  have b:XN (ak o=⟨#[]⟩):=by show _=_;unfold ak;rw[d];simp
  go_enter func97,ntmps97;go_wp2;go_ret;exact⟨kK b.out.symm,(aa.refl _ _).alloc _⟩
 ·have f:(o.kind != 2)=XM:=by simp[bne,d]
  by_cases y:o.Um.length<2
  ·have b:XN (ak o=⟨#[]⟩):=(by show _=_;unfold ak;rw[PV (by omega)]);go_enter func97,ntmps97;go_wp2;go_ret;exact⟨kK b.out.symm,(aa.refl _ _).alloc _⟩
  ·have a:1<o.Um.length:=(by omega);obtain⟨s,l⟩:=I;rcases q with n | ⟨g,c,m,t,i,j,k,v,w⟩
   ·rw[n]at a;simp at a
   ·simp only at i;subst i;have b:XN (ak o=o.Um[1]):=by show _=_;unfold ak;rw[PZ ⟨d,by omega⟩];exact i7 _ _ a
    have u:XI H ⟨g,c+1,XJ⟩=XK (Xy o.Um[1]):=(ab j (c+1)).trans (k 1 _ (PJ a));have p:=ae j;clear k;go_enter func97,ntmps97;go_wp2;go_ret;exact⟨kK b.out.symm,(aa.refl _ _).alloc _⟩
def jp(s:St)(syms:List ByteArray):Bool:=if(s.kind==2)=XL then aM syms (ak s) else(s.kind==3)
theorem rn(b:Hd)(l:List ByteArray)(w:XP)(q:cE w I o.Um)(j:cE w b l)(p:o.Um.length<=1073741824)(g:l.length<=1073741824) :
  XO prog 96 #[bW o I N,Xz b.ao l.length b.cap] w fun e c=>e=XH (XC (jp o l))/\aa [] w c:=by
 have k:=fun(c:XP) (i:cE c I o.Um)=>fn o I N c i p;have a:XN _:=k;unfold bW at a ⊢;clear k;cases n:(o.kind==2)
 ·have d:XN (jp o l=(o.kind==3)):=by show _=_;unfold jp;rw[n];simp
  go_enter func96,ntmps96;go_wp2;go_ret;exact⟨aH (by rw[d.out]),(aa.refl _ _).alloc _⟩
 ·have d:XN (jp o l=aM l (ak o)):=by show _=_;unfold jp;rw[n];simp
  go_enter func96,ntmps96;go_wp2_with fail;refine(a.out _ (by exact q.Ur ((aa.refl [] _).alloc _))).mono ?_;rintro e r ⟨rfl,f⟩;have m:=((aa.refl [] w).alloc _).trans f;go_wp2_with fail;refine(Ij b l _ _ (by exact j.Ur m) g).mono ?_;rintro e s ⟨rfl,rfl⟩;go_wp2;go_ret;exact⟨aH (by rw[d.out]),m⟩
section
structure dB(l:List St):Prop where
 len:l.length<=10000
 pos:∀i (h:i<l.length),0<l[i].Um.length
 syms:∀i (h:i<l.length),l[i].Um.length<=10000
 prfs:∀i (h:i<l.length),l[i].Ux.length<=10000
theorem aa.grown{c:XP}{b:Option Nat}(K:aa [] f D)(g:D.grownBy c b)(d:∀k,b=XK k->f.heap.size<=k):aa [] f c :=
 ⟨g.os.trans K.os,g.tape.trans K.tape,g.output.trans K.output,Qk K.size g.size,fun k a _=>(g.block k (PY a K.size) (fun e=>by have:=d k e.symm;omega)).trans (K.block k a (by simp))⟩
theorem sB(k l c u:Int)(a f:ByteArray)(b g:Option Addr)(e d j i:Nat) :
  (Instr.field 110 (XB #[Xx XF k,Xy a,Xz b e d,Xz g j i,Xy f,Xx XF l,Xx XF c,Xx XF u]) 2).run prog H=.ok (Xz b e d) H:=by kernel_rfl
attribute [local go_sem] sB
def jM(l:List St)(a n:Nat):Bool:=match l[n]? with | some s=>(s.kind==3)&&bZ l n a | none=>XM
theorem Nl(h:w<T.length):jM T l w=((T[w].kind==3)&&bZ T w l):=by
 unfold jM;rw[PJ h]
def dg(l:List St)(a k:Nat):List ByteArray:=symsAt l a++((List.range k).filter (jM l a)).flatMap (symsAt l)
def bX(l:List St)(a:Nat):List ByteArray:=dg l a l.length
theorem ki(h:w<T.length):symsAt T w=T[w].Um:=by
 unfold symsAt;rw[PJ h]
theorem rg:dg T w 0=symsAt T w:=by unfold dg;rw[List.range_zero];rw[List.filter_nil,List.flatMap_nil,QK]
theorem tX(h:jM T l w=XL):dg T l (w+1)=dg T l w++symsAt T w:=by
 unfold dg;rw[QM,QD];simp[h]
theorem qA(h:jM T l w=XM):dg T l (w+1)=dg T l w:=by
 unfold dg;rw[QM,QD];simp[h]
theorem tW(k:Nat)(b:dB T)(a:w<T.length)(f:k<=T.length):(dg T w k).length<=10000+k*10000:=by
 induction k with
 | zero =>
  have:=b.syms w a;have e:=congrArg List.length (rg T w);have c:=congrArg List.length (ki T w a);omega
 | succ k d =>
  have:=d (by omega);cases h:jM T w k with
  | true =>
   have e:=congrArg List.length (tX T w k h);have c:=congrArg List.length (ki T k (by omega));have:=b.syms k (by omega);rw[Qa]at e;omega
  | false =>
   have e:=congrArg List.length (qA T w k h);omega
set_option maxRecDepth 100000
theorem uA(h:cK H d l b a)(L:w<b.length)(M:dB b) :
  XO prog 94 #[XA (XK ⟨d,l,XJ⟩),Xx XF w] H fun e w'=>∃o:Hd,e=XH (Xz o.ao (bX b w).length o.cap)/\aE w' o (au (bX b w))/\(∀k,o.blk=XK k->H.heap.size<=k)/\aa [] H w':=by
 obtain⟨i0,hi,X,Y,Z⟩:=Qq ey;have ai:=M.len;have am:=h.lt;go_enter func94,ntmps94;go_wp2_with fail;refine(aQ d l w b a _ h L).mono ?_;rintro e w1 ⟨rfl,y⟩;have h1:=h.Ur y;have O1:=h1.UD.syms w b[w] (PJ L);have hp:=M.pos w L;have hm:=M.syms w L;rcases O1.UC with ⟨_,h0,_⟩ | ⟨g1,ag,e1,-⟩
 ·have:b[w].Um.length=0:=h0;omega
 ·unfold bW;rw[e1];have m:XN (∀j u,(strs b[w].Um)[j]?=XK u->w1.cell? ((⟨g1,0,XJ⟩:Addr).add j)=XK u):=fun j u hj=>by rw[ba];exact O1.cell e1 j u hj
  have ES:XN (dg b w 0=b[w].Um):=by show _=_;rw[rg];exact ki b w L
  have HO:XN (aE w1 ⟨XJ,0⟩ (au [])):=Qj _ _ _ _;clear O1;go_wp2_with (at_builtin;refine aD _ rfl (.tmp 8) (.tmp 12) 22 rfl i0 (Xy ⟨#[]⟩) 16 ⟨XJ,0⟩ (au []) underlying22 hi X Y Z rfl Qf rfl HO.out ⟨g1,0,XJ⟩ b[w].Um.length (a (10+2*w)).cap (strs b[w].Um) rfl ?c0 m.out (ij _) hp ?c3 ?c4 ?_)
  case c0=>simp[strs,au]
  case c3=>simp only[au,List.length_nil];unfold maxLen;omega
  case c4=>simp only[au,List.length_nil];omega
  intro g P w2 I U p;rw[mI [] b[w].Um,RV,<-ES.out]at I;have S:aa [] H w2:=y.grown U (by simp[Hd.blk]);have ap:H.heap.size<=g:=by
   rcases p with e | e
   ·simp[Hd.blk]at e
   ·exact Qk y.size e
  have t:XN ((au []).n+b[w].Um.length=(dg b w 0).length):=by show _=_;rw[ES.out];simp[au]
  rw[t.out];clear m HO U p h1 y e1 hp hm t ES;go_wp2
  go_loopg [5,6] b.length (fun gk sv i wr=>∃(k:Nat) (o:Hd),k<=b.length/\gk=b.length-k/\i=Xx XF k/\sv=Xz o.ao (dg b w k).length o.cap/\aE wr o (au (dg b w k))/\(∀x,o.blk=XK x->H.heap.size<=x)/\aa [] H wr)
  case atStart=>exact⟨0,⟨XK ⟨g,0,XJ⟩,P⟩,by omega,by omega,rfl,rfl,I,by intro x J;simp[Hd.blk]at J;omega,S⟩
  case round =>
   obtain⟨k,o,hk,hg,rfl,rfl,K,T,R⟩:=hrel;have B:=h.Ur R;clear I S;by_cases c:k<b.length
   ·have az:=tW b w k M L (by omega);have q:XN _:=Nl b w k c;have av:=M.syms k c;have ad:=M.pos k c;have C:=B.UD.syms k b[k] (PJ c);rcases C.UC with ⟨_,h0,_⟩ | ⟨r,ah,ek,-⟩
    ·have:b[k].Um.length=0:=h0;omega
    ·have SY:XN (symsAt b k=b[k].Um):=ki b k c;cases V:(b[k].kind==3)
     ·have z:XN (dg b w (k+1)=dg b w k):=qA b w k (by rw[q.out,V];rfl);clear q C;go_wp2_with (first | (go_at_call 79;refine(dr d l b a _ (by exact B)).mono ?_;rintro e N ⟨rfl,rfl⟩) | (go_at_call 51;refine(aQ d l k b a _ (by exact B) c).mono ?_;rintro e N ⟨rfl,s⟩;unfold bW));go_roundg (b.length-(k+1))
      case measure=>omega
      case rel=>exact⟨k+1,o,by omega,rfl,by go_num,by rw[z.out],by rw[z.out];exact K.Uw (fun x J=>(s.trans ((aa.refl [] _).alloc _)).block x (K.lt J) (by simp)),T,(R.trans s).alloc _⟩
     ·go_wp2_with (first | (go_at_call 79;refine(dr d l b a _ (by exact B)).mono ?_;rintro e wc ⟨rfl,rfl⟩) | (go_at_call 51;refine(aQ d l k b a _ (by exact B) c).mono ?_;rintro e N ⟨rfl,s⟩;unfold bW));obtain⟨D,v⟩:∃D,D=N.alloc (XE #[Xx XF b[k].kind,Xy b[k].label,Xz (XK ⟨r,0,XJ⟩) b[k].Um.length (a (10+2*k)).cap,Xz (a (11+2*k)).ao b[k].Ux.length (a (11+2*k)).cap,Xy b[k].fin.file,Xx XF b[k].fin.line,Xx XF b[k].fin.col,Xx XF b[k].til] 110):=⟨_,rfl⟩
      rw[<-v];have k4:aa [] wc D:=by rw[v];exact s.alloc _
      have B4:D.heap[N.heap.size]?=XK (XE #[Xx XF b[k].kind,Xy b[k].label,Xz (XK ⟨r,0,XJ⟩) b[k].Um.length (a (10+2*k)).cap,Xz (a (11+2*k)).ao b[k].Ux.length (a (11+2*k)).cap,Xy b[k].fin.file,Xx XF b[k].fin.line,Xx XF b[k].fin.col,Xx XF b[k].til] 110):=(by rw[v];exact PM _ _);have q2:XI D ⟨N.heap.size,2,XJ⟩=XK (Xz (XK ⟨r,0,XJ⟩) b[k].Um.length (a (10+2*k)).cap):=(by rw[ab B4];rfl);have G:=B.Ur k4;have F:aE D o (au (dg b w k)):=K.Uw (fun x J=>k4.block x (K.lt J) (by simp));have O:=G.UD.syms k b[k] (PJ c);have E:=R.trans k4;have m:XN (∀j u,(strs b[k].Um)[j]?=XK u->D.cell? ((⟨r,0,XJ⟩:Addr).add j)=XK u):=fun j u hj=>by rw[ba];exact O.cell ek j u hj
      clear v s k4 B4 B K C O R;cases hh:bZ b k w
      ·have z:XN (dg b w (k+1)=dg b w k):=qA b w k (by rw[q.out,hh];simp);clear q;go_wp2_with (go_at_call 95;refine(eS d l k w b a _ (by exact G) c).mono ?_;rintro e w5 ⟨rfl,rfl⟩);go_roundg (b.length-(k+1))
       case measure=>omega
       case rel=>exact⟨k+1,o,by omega,rfl,by go_num,by rw[z.out],by rw[z.out];exact F,T,E⟩
      ·have z:XN (dg b w (k+1)=dg b w k++b[k].Um):=(by show _=_;rw[tX b w k (by rw[q.out,V,hh];rfl),SY.out]);clear q SY;go_wp2_with (first | (go_at_call 95;refine(eS d l k w b a _ (by exact G) c).mono ?_;rintro e w5 ⟨rfl,rfl⟩) | (at_builtin;refine aD _ rfl (.tmp 32) (.tmp 34) 22 rfl i0 (Xy ⟨#[]⟩) 16 o (au (dg b w k)) underlying22 hi X Y Z rfl Qf rfl (by exact F) ⟨r,0,XJ⟩ b[k].Um.length (a (10+2*k)).cap (strs b[k].Um) rfl ?d0 m.out (ij _) ad ?d3 ?d4 ?_))
       case d0=>simp[strs,au]
       case d3=>simp only[au];unfold maxLen;omega
       case d4=>simp only[au];omega
       intro g5 Q w5 W A f;rw[mI (dg b w k) b[k].Um,<-z.out]at W;have ac:=E.grown A T;have aq:H.heap.size<=g5:=by
        rcases f with e | e
        ·exact T g5 e
        ·exact Qk E.size e
       have t:XN ((au (dg b w k)).n+b[k].Um.length=(dg b w (k+1)).length):=(by show _=_;rw[z.out];simp[au]);rw[t.out];clear m A f q2 F;go_wp2;go_roundg (b.length-(k+1))
       case measure=>omega
       case rel=>exact⟨k+1,⟨XK ⟨g5,0,XJ⟩,Q⟩,by omega,rfl,by go_num,rfl,W,by intro x J;simp[Hd.blk]at J;omega,ac⟩
   ·have e:k=b.length:=(by omega);subst e;go_wp2_with (go_at_call 79;refine(dr d l b a _ (by exact B)).mono ?_;rintro e N ⟨rfl,rfl⟩);go_ret;exact⟨o,rfl,K,T,R⟩
end
def d9(l:List St)(syms:List ByteArray)(a n:Nat):Bool:=match l[n]? with | some s=>bZ l n a&&jp s syms | none=>XM
theorem vk(h:w<T.length):d9 T m l w=(bZ T w l&&jp T[w] m):=by
 unfold d9;rw[PJ h]
def cI(l:List St)(a k:Nat):List Nat:=(List.range k).filter (d9 l (bX l a) a)
def al(l:List St)(a:Nat):List Nat:=cI l a l.length
theorem sN(h:d9 T (bX T l) l w=XL):cI T l (w+1)=cI T l w++[w]:=by
 unfold cI;rw[QM,QD];simp[h]
theorem qb(h:d9 T (bX T l) l w=XM):cI T l (w+1)=cI T l w:=by
 unfold cI;rw[QM,QD];simp[h]
theorem kC:(cI T l w).length<=w:=by
 unfold cI;have:=Q6 (d9 T (bX T l) l) (List.range w);simpa using this
theorem CQ(a:dB T)(c:w<T.length):(bX T w).length<=1073741824:=by
 have d:=tW T w T.length a c (PQ _);have b:=a.len;have e:T.length*10000<=10000*10000:=RS _ b;unfold bX;omega
set_option maxRecDepth 100000
theorem h9(h:cK H d l b a)(ha:w<b.length)(N:dB b) :
  XO prog 77 #[XA (XK ⟨d,l,XJ⟩),Xx XF w] H fun e D=>∃m:Hd,e=XH (Xz m.ao (al b w).length m.cap)/\aE D m (bQ (al b w))/\(∀k,m.blk=XK k->H.heap.size<=k)/\aa [] H D:=by
 obtain⟨i0,hi,V,W,X⟩:=Qq mX;have ac:=N.len;have ag:=h.lt;have J:=CQ b w N ha;go_enter func77,ntmps77;go_wp2_with fail;refine(uA d l w b a _ h ha N).mono ?_;rintro e Y ⟨U,rfl,S,ad,z⟩;go_wp2
 go_loopg [5,7] b.length (fun gk sv i wr=>∃(k:Nat) (m:Hd),k<=b.length/\gk=b.length-k/\i=Xx XF k/\sv=Xz m.ao (cI b w k).length m.cap/\aE wr m (bQ (cI b w k))/\(∀x,m.blk=XK x->Y.heap.size<=x)/\aa [] Y wr)
 case atStart=>exact⟨0,⟨XJ,0⟩,by omega,by omega,rfl,rfl,Qj _ _ _ _,by intro x r;simp[Hd.blk]at r,aa.refl _ _⟩
 case round =>
  obtain⟨k,m,hk,hg,rfl,rfl,C,G,B⟩:=hrel;have p:=(h.Ur z).Ur B;have y:cE wr U (bX b w):=(S.view).Ur B;have ai:=kC b w k;by_cases g:k<b.length
  ·have A:XN _:=vk b (bX b w) w k g;have am:=N.syms k g;have v:=(p.UD.syms k b[k] (PJ g)).view;cases hh:bZ b k w
   ·have s:XN (cI b w (k+1)=cI b w k):=qb b w k (by rw[A.out,hh];rfl);clear A v y;go_wp2_with (first | (go_at_call 79;refine(dr d l b a _ (by exact p)).mono ?_;rintro e wc ⟨rfl,rfl⟩) | (go_at_call 95;refine(eS d l k w b a _ (by exact p) g).mono ?_;rintro e wd ⟨rfl,rfl⟩));go_roundg (b.length-(k+1))
    case measure=>omega
    case rel=>exact⟨k+1,m,by omega,rfl,by go_num,by rw[s.out],by rw[s.out];exact C,G,B⟩
   ·have Z:=fun(D:XP) (v1:cE D (a (10+2*k)) b[k].Um) (v2:cE D U (bX b w))=>rn b[k] (a (10+2*k)) (a (11+2*k)) U (bX b w) D v1 v2 (by omega) J;have q:XN _:=Z;clear Z;cases M:jp b[k] (bX b w)
    ·have s:XN (cI b w (k+1)=cI b w k):=qb b w k (by rw[A.out,M];simp);rw[M]at q;clear A;go_wp2_with (first | (go_at_call 79;refine(dr d l b a _ (by exact p)).mono ?_;rintro e wc ⟨rfl,rfl⟩) | (go_at_call 95;refine(eS d l k w b a _ (by exact p) g).mono ?_;rintro e wd ⟨rfl,rfl⟩) | (go_at_call 51;refine(aQ d l k b a _ (by exact p) g).mono ?_;rintro e w3 ⟨rfl,c⟩) | (go_at_call 96;refine(q.out _ (by exact v.Ur c) (by exact y.Ur c)).mono ?_;rintro e w4 ⟨rfl,o⟩));go_roundg (b.length-(k+1))
     case measure=>omega
     case rel=>exact⟨k+1,m,by omega,rfl,by go_num,by rw[s.out],by rw[s.out];exact C.Uw (fun x r=>(c.trans o).block x (C.lt r) (by simp)),G,(B.trans c).trans o⟩
    ·have s:XN (cI b w (k+1)=cI b w k++[k]):=sN b w k (by rw[A.out,hh,M];rfl);rw[M]at q;clear A;go_wp2_with (first | (go_at_call 79;refine(dr d l b a _ (by exact p)).mono ?_;rintro e wc ⟨rfl,rfl⟩) | (go_at_call 95;refine(eS d l k w b a _ (by exact p) g).mono ?_;rintro e wd ⟨rfl,rfl⟩) | (go_at_call 51;refine(aQ d l k b a _ (by exact p) g).mono ?_;rintro e w3 ⟨rfl,c⟩) | (go_at_call 96;refine(q.out _ (by exact v.Ur c) (by exact y.Ur c)).mono ?_;rintro e w4 ⟨rfl,o⟩;have I:=C.Uw (fun x r=>((c.trans o).alloc (XE #[Xx XF k] 3)).block x (C.lt r) (by simp))) | (at_builtin;refine aD _ rfl (.tmp 28) (.tmp 30) 46 rfl i0 (Xx XF 0) 8 m (bQ (cI b w k)) underlying46 hi V W X rfl Qf rfl (by exact I) ⟨_,0,XJ⟩ 1 1 [Xx XF k] rfl rfl ?d1 ?d2 Qf ?d3 ?d4 ?_))
     case d1=>intro j u L;match j,L with | 0,L=>simp at L;subst L;simp[Addr.add]
     case d2=>intro u hu;simp at hu;subst hu;rfl
     case d3=>simp only[bQ];unfold maxLen;omega
     case d4=>simp only[bQ];omega
     intro O E w5 K t f;rw[jc (cI b w k) k,<-s.out]at K;have F:=((B.trans c).trans o).alloc (XE #[Xx XF k] 3);have R:=F.grown t G;have ah:Y.heap.size<=O:=by
      rcases f with e | e
      ·exact G O e
      ·have:=F.size;simp at e this;omega
     have P:XN ((bQ (cI b w k)).n+1=(cI b w (k+1)).length):=(by show _=_;rw[s.out];simp[bQ]);rw[P.out];clear t f I;go_wp2;go_roundg (b.length-(k+1))
     case measure=>omega
     case rel=>exact⟨k+1,⟨XK ⟨O,0,XJ⟩,E⟩,by omega,rfl,by go_num,rfl,K,by intro x r;simp[Hd.blk]at r;omega,R⟩
  ·have e:k=b.length:=(by omega);subst e;have Q:=z.trans B;have T:=z.size;go_wp2_with (go_at_call 79;refine(dr d l b a _ (by exact p)).mono ?_;rintro e w3 ⟨rfl,rfl⟩);go_ret;exact⟨m,rfl,C,fun x r=>Qk T (G x r),Q⟩
theorem MR:(prog.info? 46).map (fun i=>(i.zero,i.size,i.bytes))=XK (XK (Xz XJ 0 0),1,24):=by kernel_rfl
theorem wU(v:XQ)(n i:Nat)(h:i<n):(madeCells #[v] n)[i]?=XK v:=by
 simp[madeCells,h,Nat.mod_one]
def fE(l:List St)(n:Nat):Bool:=match l[n]? with | some s=>jl s.kind | none=>XM
theorem DK(h:w<T.length):fE T w=jl T[w].kind:=by
 unfold fE;rw[PJ h]
def iF(l:List St)(k n:Nat):List Nat:=if n<k/\fE l n=XL then al l n else []
structure eZ(w:XP)(g:Nat)(l:List St)(k:Nat)(K:Nat->Hd):Prop where
 arr:∃arr,w.heap[g]?=XK (XE arr 46)/\arr.size=l.length/\∀n,n<l.length->arr[n]?=XK (Xz (K n).ao (iF l k n).length (K n).cap)
 own:∀n,n<l.length->aE w (K n) (bQ (iF l k n))
 off:∀n,(K n).blk≠XK g
theorem eZ.kept{S:List Nat}(h:eZ f y n i x)(q:aa S f D)(m:y∉S)(l:∀a b,(x a).blk=XK b->b∉S):eZ D y n i x:=by
 obtain⟨c,g,j,k⟩:=h.arr;exact⟨⟨c,q.get g m,j,k⟩,fun a d=>(h.own a d).Uw (fun b e=>q.block b ((h.own a d).lt e) (l a b e)),h.off⟩
theorem eZ.Ur(h:eZ f y n i x)(q:aa [] f D):eZ D y n i x:=h.kept q (by simp) (by simp)
theorem eZ.cell(h:eZ f y n i x)(a:Nat)(e:a<n.length):XI f ⟨y,a,XJ⟩=XK (Xz (x a).ao (iF n i a).length (x a).cap):=by
 obtain⟨b,c,g,d⟩:=h.arr;rw[ab c];exact d a e
theorem eZ.free(h:eZ f y n i x)(a:Nat):f.frozen? ⟨y,a,XJ⟩=XM:=by
 obtain⟨b,c,d,e⟩:=h.arr;exact aw c a
theorem eZ.lt{k:Nat}(h:eZ f y n k x):y<f.heap.size:=by
 obtain⟨a,b,c,d⟩:=h.arr;exact ae b
theorem eZ.skip(h:eZ f y n i x)(d:fE n i=XM):eZ f y n (i+1) x:=by
 have e:∀a,iF n (i+1) a=iF n i a:=by
  intro a;unfold iF;by_cases g:a=i
  ·subst g;rw[PV (by rw[d];simp),PV (by rw[d];simp)]
  ·have:(a<i+1/\fE n a=XL) ↔ (a<i/\fE n a=XL):=and_congr_left (fun _=>by omega);simp only[this]
 obtain⟨b,j,k,l⟩:=h.arr;exact⟨⟨b,j,k,fun a c=>by rw[e];exact l a c⟩,fun a c=>by rw[e];exact h.own a c,h.off⟩
theorem eZ.store{k:Nat}(h:eZ f y n k x)(r:fE n k=XL)(s:k<n.length)(c:Hd)(o:aE f c (bQ (al n k)))(l:c.blk≠XK y) :
  eZ (f.setCell ⟨y,k,XJ⟩ (Xz c.ao (al n k).length c.cap)) y n (k+1) (cX x k c):=by
 have e:∀a,a≠k->iF n (k+1) a=iF n k a:=by
  intro a b;unfold iF;have:(a<k+1/\fE n a=XL) ↔ (a<k/\fE n a=XL):=and_congr_left (fun _=>by omega);simp only[this]
 have i:iF n (k+1) k=al n k:=by unfold iF;rw[PZ ⟨by omega,r⟩]
 obtain⟨m,p,j,q⟩:=h.arr;refine⟨⟨_,af p _ _,by simpa using j,?_⟩,?_,?_⟩
 ·intro a d;by_cases b:a=k
  ·subst b;rw[cG,i];simp[j,d]
  ·rw[bD _ _ _ _ b,e a b];rw[SW (by omega)];exact q a d
 ·intro a d;by_cases b:a=k
  ·subst b;rw[cG,i];exact o.Uw (fun t g=>P9 _ _ _ _ (by rintro rfl;exact l g))
  ·rw[bD _ _ _ _ b,e a b];exact(h.own a d).Uw (fun t g=>P9 _ _ _ _ (by rintro rfl;exact h.off a g))
 ·intro a;by_cases b:a=k
  ·subst b;rw[cG];exact l
  ·rw[bD _ _ _ _ b];exact h.off a
theorem ox(h:cK H l w b a)(R:dB b) :
  XO prog 114 #[XA (XK ⟨l,w,XJ⟩)] H fun e S=>∃(g:Nat) (K:Nat->Hd),e=XH (Xz (XK ⟨g,0,XJ⟩) b.length b.length)/\eZ S g b b.length K/\H.heap.size<=g/\(∀n x,(K n).blk=XK x->H.heap.size<=x)/\aa [] H S:=by
 obtain⟨Y,V,I,J,L⟩:=Qq MR;have O:=R.len;have T:=h.lt;have Q:=fun H=>bR (P:=prog) H 189 46 Y _ underlying189 V I b.length 1 J (by rw[L];omega) (by omega);obtain⟨y,m⟩:∃y,y=madeCells (Xz XJ 0 0).cells (b.length*1):=⟨_,rfl⟩
 rw[<-m]at Q;have M:XN (eZ (H.alloc (XE y 46)) H.heap.size b 0 fh):=by
  refine⟨⟨y,PM _ _,by rw[m,QV];omega,?_⟩,?_,fun n e=>by simp[fh,Hd.blk]at e⟩
  ·intro n W;have e:iF b 0 n=[]:=(by unfold iF;rw[PV (by omega)]);rw[e,m];exact wU _ _ _ (by omega)
  ·intro n W;have e:iF b 0 n=[]:=(by unfold iF;rw[PV (by omega)]);rw[e];exact Qj _ _ _ _
 clear m;go_enter func114,ntmps114;go_wp2_with (go_at_call 79;refine(dr l w b a _ (by exact h)).mono ?_;rintro e wc ⟨rfl,G⟩;rw[G])
 go_loopg [4] b.length (fun gk i wr=>∃(k:Nat) (K:Nat->Hd),k<=b.length/\gk=b.length-k/\i=Xx XF k/\eZ wr H.heap.size b k K/\(∀n x,(K n).blk=XK x->H.heap.size<=x)/\aa [] H wr)
 case atStart=>exact⟨0,fh,by omega,by omega,rfl,M.out,fun n x q=>by simp[fh,Hd.blk]at q,(aa.refl _ _).alloc _⟩
 case round =>
  obtain⟨k,K,hk,hg,rfl,u,D,r⟩:=hrel;have F:=h.Ur r;clear M Q;by_cases d:k<b.length
  ·have z:XN _:=DK b k d;cases N:jl b[k].kind
   ·have B:XN (eZ wr H.heap.size b (k+1) K):=u.skip (by rw[z.out,N]);clear z;go_wp2_with (first | (go_at_call 51;refine(aQ l w k b a _ (by exact F) d).mono ?_;rintro e Z ⟨rfl,f⟩;unfold bW) | (go_at_call 93;refine(dl b[k].kind _ _ _ _ _ _ _ _).mono ?_;rintro e w4 ⟨rfl,j⟩));go_roundg (b.length-(k+1))
    case measure=>omega
    case rel=>exact⟨k+1,K,by omega,rfl,by go_num,(B.out.Ur f).Ur j,D,(r.trans f).trans j⟩
   ·go_wp2_with (first | (go_at_call 51;refine(aQ l w k b a _ (by exact F) d).mono ?_;rintro e Z ⟨rfl,f⟩;unfold bW) | (go_at_call 93;refine(dl b[k].kind _ _ _ _ _ _ _ _).mono ?_;rintro e w4 ⟨rfl,j⟩));have c:=f.trans j;refine(h9 l w k b a _ (F.Ur c) d R).mono ?_;rintro e w5 ⟨v,rfl,s,p,t⟩;have o:=(u.Ur c).Ur t;have U:=(u.Ur c).lt;have E:v.blk≠XK H.heap.size:=fun e=>by have:=p _ e;omega
    have B:XN _:=(o.store (by rw[z.out,N]) d v s E);have C:=(r.trans c).trans t;have X:=(r.trans c).size;have A:XN (∀n x,(cX K k v n).blk=XK x->H.heap.size<=x):=by
     intro n x q;by_cases e:n=k
     ·subst e;rw[cG]at q;have:=p x q;omega
     ·rw[bD _ _ _ _ e]at q;exact D n x q
    have c1:=o.cell k d;have hf:=o.free;clear p s;go_wp2;go_roundg (b.length-(k+1))
    case measure=>omega
    case rel=>exact⟨k+1,cX K k v,by omega,rfl,by go_num,B.out,A.out,C.setCell (P7 (PQ _)) _⟩
  ·have e:k=b.length:=(by omega);subst e;go_wp2;go_ret;exact⟨H.heap.size,K,rfl,u,PQ _,D,r⟩
end Go.Proofs.YtnbalopedcgpcaaGreat
