import Derived.Test.YtpdholcaobgofaaGreatP16
import Derived.Test.YtpdholcaobgofaaGreatP17
namespace Go.Proofs.YtpdholcaobgofaaGreat
open Go.RowKit Tryz
open Value IntKind Ending
set_option linter.all false
set_option maxHeartbeats 0
variable{l D:Vx}{w d:Nat}{i:Vy}{n:List Tk}{L:Tk}{H:List Sm}{I M:World}{N:Vz}(v x:Vx)(k:Nat)(o:Fs)(y:Nat)(b:List Tk)
theorem tj{a m:List UInt8}(h:(l.toList==a)=true):(l.toList==m)=(a==m):=by grind
section
variable {T:List Tk} {S:List Sm} {f:Nat}
structure zZ(T:List Tk)(S:List Sm)(j:Nat):Prop where
 le:(ay S j).h<=(ay S j).z-1
 zt:(ay S j).z<=T.length
 pos:0<(ay S j).z
 dot:((tS T ((ay S j).z-1)).toList == [36,46])=true
 cl:jS (ay S j).k (gG T (ay S j).h ((ay S j).z-1))=0
 w:∀q,(ay S j).h<=q->q<(ay S j).z-1->og T S (ay S j).k (tS T q) j (gG T (ay S j).h q)=0/\cW (tS T q)=false
theorem qF(p:JF T T.length S f)(c:∀q,q<T.length->bM T S q=0)(j:Nat)(h:j<S.length)(F:cW (ay S j).k=false):zZ T S j:=by (have r:=NL p j h;obtain⟨P,i⟩:=p.s j h;have b:(ay S j).h<=(ay S j).z-1->(ay S j).a<(ay S j).h->zZ T S j:=λg y=>by have A:=P.lt;have m:=c ((ay S j).z-1) (by omega);rw[r ((ay S j).z-1) (by omega) (by omega),sN,sN]at m;obtain⟨t,u⟩:=Bt P.e m;refine⟨g,i,by omega,t,u,λq E x=>?_⟩;have d:=c q (by omega);rw[r q (by omega) (by omega),sN,sN]at d;exact⟨d,P.n q (by omega) x⟩);have l:=P.k;have H:=P.lt;unfold fR at l;by_cases o:(jX (tS T (ay S j).a) ⟨#[36]⟩||decide (T.length<=(ay S j).a+1))=true;{(rw[VO o]at l;have v:(ay S j).k=tS T (ay S j).a:=by grind);(have w:(ay S j).h=(ay S j).a+1:=by grind);refine b ?_ (by omega);by_cases G:(ay S j).z-1=(ay S j).a;{have:=P.e;grind};{omega}};{(rw[VS o]at l;have v:(ay S j).k=tS T ((ay S j).a+1):=by grind);(have w:(ay S j).h=(ay S j).a+2:=by grind);(have B:jX (tS T (ay S j).a) ⟨#[36]⟩=false:=by grind);(refine b ?_ (by omega);have C:(ay S j).z-1≠(ay S j).a:=λe=>by have:=(mH P.e).1;grind);(have D:(ay S j).z-1≠(ay S j).a+1:=λe=>by have:=P.e;grind);omega}
theorem wF(T:List Tk)(h i q:Nat)(a:h+q<i)(b:i<=T.length):(gG T h i).getD q ⟨#[]⟩=tS T (h+q):=by grind [gG,tS]
theorem te(T:List Tk)(h i:Nat)(a:h<=i)(b:i<=T.length):(gG T h i).length=i-h:=by grind [gG]
theorem Ca(P:zZ T S w):bE T (ay S w).h=(gG T (ay S w).h ((ay S w).z-1)).takeWhile mu:=by
 have f:=P.zt;have d:=P.pos;have a:=P.le;unfold bE;have e:T.drop (ay S w).h=(T.drop (ay S w).h).take ((ay S w).z-1-(ay S w).h)++(T.getD ((ay S w).z-1) kR) :: T.drop (ay S w).z:=by
  conv=>lhs;rw[<-List.take_append_drop ((ay S w).z-1-(ay S w).h) (T.drop (ay S w).h)]
  rw[List.drop_drop,show(ay S w).h+((ay S w).z-1-(ay S w).h)=(ay S w).z-1 by omega,MI T ((ay S w).z-1) (by omega),show(ay S w).z-1+1=(ay S w).z by omega]
 rw[e,show ∀(L:List Tk) (t:Tk) (M:List Tk),L++t :: M=(L++[t])++M from λL t M=>by simp,C9];{rw[Ah _ _ (λu c=>?_) P.dot];{rfl};{obtain⟨q,b,g⟩:=Wi c;rw[Xb,Xc]at b;have:=(P.w ((ay S w).h+q) (by omega) (by omega)).2;grind [cW,tS,ay]}};{exact⟨T.getD ((ay S w).z-1) kR,by simp,xu P.dot⟩}
theorem rm(P:zZ T S w):dC T (ay S w).h:=⟨(ay S w).z-1,P.le,by have:=P.zt;have:=P.pos;omega,xu P.dot⟩
theorem zN(h:og T S l D w i=0)(a:(D.toList == [36,61])=true):(l.toList == [36,112])=true/\bb i ⟨#[36,61]⟩=false/\i.length≠0:=by unfold og at h;rw[tj a (m:=[36,46]),VS (by decide),a,WR]at h;cases b:(l.toList == [36,112]);{rw[b,Yi,mt,VO (by rw[tK a];decide +kernel)]at h;cases h};{cases c:bb i ⟨#[36,61]⟩;{grind};{rw[b,c,VS (by decide),VO (by rw[tK a];decide +kernel)]at h;cases h}}
end
section
variable {T:List Tk} {S:List Sm} {f:Nat}
theorem EB(T:List Tk)(h:Nat):gG T h h=[]:=by grind [gG]
theorem zQ(P:zZ T S w):0<(gG T (ay S w).h ((ay S w).z-1)).length/\(((ay S w).k.toList == [36,102])=true->1<(gG T (ay S w).h ((ay S w).z-1)).length):=by have a:=P.cl;grind [jS,gG,ay]
theorem EA(c:w<=d)(a:d<=T.length)(g:bb (gG T w d) l=true):∃q,w<=q/\q<d/\tS T q=l:=by (unfold bb at g;have⟨y,k,e⟩:=WL.1 g;have⟨q,f,i⟩:=Wi k;rw[te T w d c a]at f;refine⟨w+q,by omega,by omega,?_⟩;have b:=wF T w d q (by omega) a;rw[VM,VI (te T w d c a ▸ f)]at b;have j:(gG T w d)[q]=tS T (w+q):=b;rw[<-j,i];have:y.toList=l.toList:=by grind);apply YG;apply Yu.1;rw[<-Wy,<-Wy,this]
theorem yC(P:zZ T S w)(f:((ay S w).k.toList == [36,112])=false):bE T (ay S w).h=gG T (ay S w).h ((ay S w).z-1):=by rw[Ca P];refine zK _ ?_;cases e:bb (gG T (ay S w).h ((ay S w).z-1)) ⟨#[36,61]⟩;{rfl};{have g:=P.zt;have c:=P.pos;have⟨q,a,b,d⟩:=EA P.le (by omega) e;have:=(zN ((P.w q a b).1) (by simp_all)).1;grind}
theorem yB(P:zZ T S w):((tS T (ay S w).h).toList == [36,61])=false/\(ay S w).h<(ay S w).z-1:=by (have b:=(zQ P).1;have d:=P.zt;have c:=P.pos;rw[te T _ _ P.le (by omega)]at b;have a:(ay S w).h<(ay S w).z-1:=by omega);refine⟨?_,a⟩;cases e:((tS T (ay S w).h).toList == [36,61]);{rfl};{have:=(zN ((P.w _ (VC _) a).1) e).2.2;grind [EB]}
theorem D0(P:zZ T S w):0<(bE T (ay S w).h).length/\(bE T (ay S w).h).getD 0 ⟨#[]⟩=tS T (ay S w).h:=by have⟨b,c⟩:=yB P;have g:=P.zt;have a:=wF T (ay S w).h ((ay S w).z-1) 0 (by omega) (by omega);have d:=(zQ P).1;rw[Ca P];rw[WF]at a;generalize gG T (ay S w).h ((ay S w).z-1)=B at *;cases B with|nil=>grind|cons x B=>(have e:x=tS T (ay S w).h:=a;have f:mu x=true:=by grind [mu]);simp_all
theorem zbL(p:JF T T.length S f)(b:∀q,q<T.length->bM T S q=0)(n:Nat)(i:n<=S.length):CZ T S n:=λj g c=>by
 have a:cW (ay S j).k=false:=by
  unfold aL aQ at c;simp only[Bool.or_eq_true]at c;rcases c with (h | h) | (h | h) <;> exact ik h (by decide)
 have P:=qF p b j (by omega) a;refine⟨(D0 P).1,λe=>?_⟩;have d:((ay S j).k.toList == [36,112])=false:=by grind
 show 1<(bE T (ay S j).h).length
 grind [yC,zQ]
theorem Bu(h:og T S l D w i=0)(b:cW D=false)(c:(D.toList == [36,61])=false)(a:bb i ⟨#[36,61]⟩=false):(if((l.toList == [36,99])||(l.toList == [36,118]))=true then mE T S D w (l.toList == [36,99]) i else li T S l D w i)=0:=by grind [og,cW]
theorem UE(P:zZ T S w)(e:(aL (ay S w).k||aQ (ay S w).k)=true):gO T S (tS T (ay S w).h) w=true:=by (have⟨b,c⟩:=yB P;have⟨a,d⟩:=P.w _ (VC _) c;rw[EB]at a;have g:=Bu a d b rfl;have f:(((ay S w).k.toList == [36,99])||((ay S w).k.toList == [36,118]))=false/\((ay S w).k.toList == [36,100])=false:=by unfold aL aQ at e;grind);grind [li,gO,tS,ay]
theorem zdR(P:zZ T S w)(a:((ay S w).k.toList == [36,102])=true):pO T S (tS T ((ay S w).h+1)) w=true/\(bE T (ay S w).h).getD 1 ⟨#[]⟩=tS T ((ay S w).h+1):=by (have j:=(zQ P).2 a;have n:=P.zt;have m:=P.pos;rw[te T _ _ P.le (by omega)]at j;have b:((ay S w).k.toList == [36,112])=false:=by grind);(refine⟨?_,by rw[yC P b];exact(wF T (ay S w).h ((ay S w).z-1) 1 (by omega) (by omega))⟩;have⟨c,i⟩:=P.w ((ay S w).h+1) (by omega) (by omega);have l:((tS T ((ay S w).h+1)).toList == [36,61])=false:=by cases e:((tS T ((ay S w).h+1)).toList == [36,61]);{rfl};{have:=(zN c e).1;grind});(have g:gG T (ay S w).h ((ay S w).h+1)=[tS T (ay S w).h]:=by grind [Gl,ay,EB]);(have f:bb (gG T (ay S w).h ((ay S w).h+1)) ⟨#[36,61]⟩=false:=by (rw[g,vM];have e:(⟨#[36,61]⟩:Vx).toList=[36,61]:=by simp);grind [yB]);have d:=Bu c i l f;rw[tj a,tj a,VS (by decide)]at d;unfold li at d;grind
theorem In(p:JF T T.length S f)(o:∀q,q<T.length->bM T S q=0)(hi:w<=S.length)(hk:d<=S.length)(t:gO T S l w=true)(u:pO T S l d=true):False:=by (unfold gO lG at t;unfold pO lG at u;have⟨j,v,x⟩:=WL.1 t;have⟨m,I,y⟩:=WL.1 u;have v:=VZ.1 v;have I:=VZ.1 I;unfold tw at x y;rw[qS.1,We,We]at x;rw[qS.2,We,We]at y;have⟨n,G,_⟩:=x;have⟨F,M,_⟩:=y;have c:∀(j:Nat),j<S.length->(((ay S j).k.toList == [36,99])=true∨((ay S j).k.toList == [36,118])=true)->bb (bE T (ay S j).h) l=true->∃B,mE T S l j ((ay S j).k.toList == [36,99]) B=0:=λj v a H=>by (have g:cW (ay S j).k=false:=by rcases a with h | h <;> exact ik h (by decide));(have P:=qF p o j v g;have r:((ay S j).k.toList == [36,112])=false:=by rcases a with h | h <;> (rw[tj h];decide));(rw[yC P r]at H;have hz:=P.zt;have ac:=P.pos;have⟨q,E,L,e⟩:=EA P.le (by omega) H;have⟨hr,he⟩:=P.w q E L;have b:∀q,(ay S j).h<=q->q<(ay S j).z-1->((tS T q).toList == [36,61])=false:=λq t u=>by cases e:((tS T q).toList == [36,61]);{rfl};{have:=(zN (P.w q t u).1 e).1;rw[r]at this;cases this});(have W:bb (gG T (ay S j).h q) ⟨#[36,61]⟩=false:=by cases V:bb (gG T (ay S j).h q) ⟨#[36,61]⟩;{rfl};{have⟨q',N,a2,R⟩:=EA E (by omega) V;have:=b q' N (by omega);rw[R]at this;exact absurd this (by decide +kernel)});have K:=Bu hr he (b q E L) W;rw[VO (by rcases a with h | h <;> rw[h] <;> simp),e]at K;exact⟨_,K⟩);(have⟨B1,i⟩:=c j (by omega) (VY n) G;have⟨B2,k⟩:=c m (by omega) (VW F) M;have s:((ay S m).k.toList == [36,99])=false:=by rw[tj F];decide);rw[n]at i;rw[s]at k;unfold mE at i k;rcases Nat.lt_trichotomy j m with D | A | C;{(have hc:gO T S l m=true:=by unfold gO lG;exact qd j D (by unfold tw;rw[qS.1,n,G];simp));rw[hc]at k;split at k;{cases k};{simp at k}};{rw[A,s]at n;cases n};{(have hd:lG T S ⟨#[36,118]⟩ l j false=true:=by unfold lG;exact qd m C (by unfold tw;rw[qS.2,F,M];simp));(have ht:lB T S l j=true:=by unfold lB;rw[hd];simp);rw[ht]at i;split at i;{cases i};{simp at i}}
theorem zeD(p:JF T T.length S f)(a:∀q,q<T.length->bM T S q=0)(n:Nat)(z:n<=S.length):zb8 T S n:=λr A k=>by
 have P:=qF p a r (by omega) (by unfold aL at k;rcases Wr _ _ ▸ k with h | h <;> exact ik h (by decide));have s:(bi T S r).getD 0 ⟨#[]⟩=tS T (ay S r).h:=(D0 P).2;rw[s];cases e:bb (jo T S (ci T S r) (ci T S r).length) (tS T (ay S r).h)
 ·rfl
 ·exfalso
  unfold bb at e;have⟨y,l,d⟩:=WL.1 e;unfold jo at l;obtain⟨i,g,rfl⟩:=WG.1 l;unfold CK at g;obtain⟨c,b⟩:=Ww.1 g;have c:=VZ.1 c;have v:(ci T S r).getD i 0=(ci T S r)[i]:=by rw[VM,VI c];rfl
  unfold Nu at b;rw[v]at b d;have x:=wV T S r (ci T S r)[i] (by simp);generalize (ci T S r)[i]=j at *;have o:=qF p a j (by omega) (ik b (by decide));have⟨m,w⟩:=zdR o b;have t:bi T S j=bE T (ay S j).h:=rfl;rw[t,w]at d;have u:tS T ((ay S j).h+1)=tS T (ay S r).h:=by
   have:(tS T ((ay S j).h+1)).toList=(tS T (ay S r).h).toList:=(by grind);apply YG;apply Yu.1;rw[<-Wy,<-Wy,this]
  rw[u]at m;exact In p a (by omega) (by omega) (UE P (by grind)) m
end
theorem Ma(d:b.length<=10000)(a:∀q,q<b.length->bM b (ah b) q=0)(n:Nat)(e:n<=(ah b).length):pm b (ah b) n:=by have p:=fz b;have g:(ah b).length<=b.length:=qn b b.length;have⟨f,c⟩:=Fi b (by omega) a;have h:pm b (ah b) (ah b).length:=⟨f,by omega,d,by grind [rm,qF],c⟩;exact h.mono e
def Mp(S:List Sm)(a r:Nat):Prop:=r<a/\(aL (ay S r).k||aQ (ay S r).k)=true
structure zb6(T:List Tk)(S:List Sm)(a i:Nat)(s:eD):Prop where
 nd:s.need<=10000
 YX:s.ref=-1∨(s.ref=-2/\s.back<i)∨∃r,Mp S a r/\s.ref=(r:Nat)/\s.need=ly T S (r:Nat)
def pU(T:List Tk)(S:List Sm)(a:Nat)(P:List eD):Prop:=∀i,i<P.length->zb6 T S a i (cN P i)
section
variable {T:List Tk} {S:List Sm} {a:Nat}
theorem pU.snoc{P:List eD}{s:eD}(h:pU T S a P)(f:zb6 T S a P.length s):pU T S a (P++[s]):=λi d=>by
 rw[VQ,Wn,WB]at d;by_cases e:i<P.length
 ·have b:cN (P++[s]) i=cN P i:=by grind [cN]
  rw[b];exact h i e
 ·have c:i=P.length:=by omega
  have b:cN (P++[s]) i=s:=by grind [cN]
  rwa [b,c]
theorem pU.nil:pU T S a []:=λi b=>by simp at b
theorem Ip(b:a<=10000)(c:w<a):ly T S (w:Nat)<=10000:=by grind [ly,mb]
theorem Ee(h:hZ T S a l=(w:Int)):Mp S a w:=by have d:=ud T S a l;rw[h]at d;rcases d with e | ⟨q,i,e⟩;{omega};{(have f:w=q:=by omega);subst f;refine⟨i,?_⟩;unfold hZ at h;split at h;{omega};{split at h;{unfold cn at h;cases c:(List.range a).find? (uV T S l) with|none=>grind|some j=>(rw[c]at h;have g:j=w:=by grind);have b:=XG c;rw[g]at b;unfold uV at b;rw[We]at b;cases k:(aL (ay S w).k||aQ (ay S w).k);{exfalso;have:bS T (ay S w)=⟨#[]⟩:=(by grind [bS]);simp_all};{rfl}};{omega}}}
theorem RT(l:a<=10000)(b:Nat)(n:Nat):∀i P,pU T S a P->pU T S a (qe T S a b n i P).st/\((qe T S a b n i P).why=0->0<(qe T S a b n i P).st.length)/\(qe T S a b n i P).st.length<=P.length+n:=by induction n with|zero=>intro i P c;rw[qe];split;{exact⟨pU.nil,λh=>(by cases h),V5 _⟩};grind|succ n g=>intro i P c;rw[qe];split;{have⟨d,e,j⟩:=g (i+1) _ (c.snoc (s:=⟨-1,0,0,(T.getD i kR).Y6,(T.getD i kR).Y7,(T.getD i kR).Y8⟩) ⟨by simp,VY rfl⟩);grind};{split;{exact⟨pU.nil,λh=>(by cases h),V5 _⟩};{next d e => have⟨k,f⟩:∃k:Nat,hZ T S a (tS T i)=k:=(by grind [hZ,tS]);have m:=Ee f;rw[f];have⟨d,e,j⟩:=g (i+1) _ (c.snoc (s:=⟨(k:Int),0,ly T S (k:Int),(T.getD i kR).Y6,(T.getD i kR).Y7,(T.getD i kR).Y8⟩) ⟨Ip l m.1,by grind⟩);grind}}
theorem Ut(v:a<=10000)(b:VB)(i:∀r∈b,Mp S a r)(j:Lt)(L:List Lt):∀P d f g,pU T S a P->(∀t∈d,t<P.length)->(g=true->0<P.length) ->
  pU T S a (qr T S b j L P d f g).st/\((qr T S b j L P d f g).why=0->0<(qr T S b j L P d f g).st.length)/\(qr T S b j L P d f g).st.length<=P.length+L.length:=by induction L with|nil=>intro P d f g k _ _;rw[qr];split;{exact⟨pU.nil,λh=>(by cases h),V5 _⟩};{split;{exact⟨pU.nil,λh=>(by cases h),V5 _⟩};grind}|cons l L o=>intro P d f g k B A;rw[qr];split;{grind};{split;{split;{exact⟨pU.nil,λh=>(by cases h),V5 _⟩};{next C => (have w:=Dz (f++J3 l.c) (b.length+d.length);generalize kD (f++J3 l.c) (b.length+d.length)=m at *;have z:zb6 T S a P.length (wh T S b d m l):=by unfold wh;split;{next x => have y:m-1<b.length:=(by omega);have e:b.getD (m-1) 0=b[m-1]:=(by grind);have n:=i b[m-1] (by simp);rw[e];exact⟨Ip v n.1,VW (VW ⟨_,n,rfl,rfl⟩)⟩};{next x => have y:m-b.length-1<d.length:=(by omega);have e:d.getD (m-b.length-1) 0=d[m-b.length-1]:=(by grind);rw[e];exact⟨by simp,by simp_all⟩});have⟨p,q,u⟩:=o _ d ⟨#[]⟩ true (k.snoc z) (by grind) (λ_=>by simp);grind}};{split;{grind};{split;{have⟨p,q,u⟩:=o _ d f false (k.snoc (s:=⟨-1,0,0,l.Y6,l.Y7,l.Y8⟩) ⟨by simp,VY rfl⟩) (by grind) (by simp);grind};{exact⟨pU.nil,λh=>(by cases h),V5 _⟩}}}}
theorem za1(d:a<=10000)(l:eZ T)(c:Nat)(n:Nat):∀i b,(∀r∈b,Mp S a r)->pU T S a (zu T S a c n i b).st/\((zu T S a c n i b).why=0->0<(zu T S a c n i b).st.length)/\(zu T S a c n i b).st.length<=1024*T.length:=by induction n with|zero=>intro i b _;rw[zu];exact⟨pU.nil,λh=>(by cases h),V5 _⟩|succ n m=>intro i b e;rw[zu];split;{have⟨g,j,k⟩:=Ut (T:=T) d b e (KC (T.getD c kR)) (gu T (i+1) c) [] [] ⟨#[]⟩ false pU.nil (λt f=>by cases f) (λh=>by cases h);grind [BQ,lX]};{split;{exact⟨pU.nil,λh=>(by cases h),V5 _⟩};{split;{exact⟨pU.nil,λh=>(by cases h),V5 _⟩};grind [hZ,tS,Ee]}}
theorem Aq(d:a<=10000)(c:eZ T)(l:T.length<=10000)(e b:Nat)(m:b<=T.length):pU T S a (iB T S a e b).st/\((iB T S a e b).why=0->0<(iB T S a e b).st.length)/\(iB T S a e b).st.length<=100000000:=by
 unfold iB;split
 ·unfold lO
  have⟨i,j,k⟩:=za1 (T:=T) (S:=S) d c b (b-(e+2)) (e+2) (ci T S a) (λr f=>by
   have⟨g,_,n⟩:=ux T S a r f;exact⟨g,by grind⟩)
  (grind)
 (grind [RT,pU.nil])
theorem Of(l:a<=10000)(j:eZ T)(k:T.length<=10000)(e b:Nat)(n:b<=T.length):Q3 T S a (iB T S a e b):=by have⟨f,o,p⟩:=Aq (T:=T) (S:=S) l j k e b n;refine⟨p,λi=>?_,λh=>⟨o h,λi c m=>⟨?_⟩⟩⟩;{by_cases c:i<(iB T S a e b).st.length;{have:=(f i c).nd;omega};grind [cN,iB,zd9]};{rcases(f i c).YX with h | ⟨h,s⟩ | ⟨r,d,g,q⟩;{omega};{omega};{refine VW ⟨r,d.1,g,d.2,λt=>?_⟩;grind [ly]}}
end
def JM(t:Tk):Prop:=t.s.size<=1024/\0<=t.Y8/\t.Y8<=10000
theorem ET:eZ []:=λt a=>by cases a
theorem oQ{M:List Tk}(h:eZ n)(k:eZ M):eZ (n++M):=λt a=>by
 rcases V7.1 a with e | e
 ·exact h t e
 ·exact k t e
theorem nO(h:JM L):eZ [L]:=λu a=>by rwa [VR.1 a]
theorem wT(r:Int)(h:JM L):JM (ve L r):=⟨by show(0:Nat)<=1024;omega,h.2⟩
theorem FJ(s:Vx)(r:Int)(k:Nat)(a:s.size<=1024)(b:k<=1024):JM (qw v x s r k):=by have:=EG x k;exact⟨a,by show 0<=bY x k;omega,by show bY x k<=10000;omega⟩
theorem JB(a:eZ b)(c:k<=y)(d:y<=1024):eZ (kQ v x k y b):=by unfold kQ;split;{exact a};{exact oQ a (nO (FJ v x _ 0 k (by rw[XL];omega) (by omega)))}
theorem Jx(i:Nat)(b:i<=1024):eZ (lj v x i):=by induction i with|zero=>exact ET|succ i a=>rw[lj];split;{exact JB v x _ i _ (a (by omega)) (rr x i) (by omega)};{exact a (by omega)}
theorem QN(a:x.size<=1024):eZ (jN v x):=by unfold jN;split;{next i h => have b:=VZ.1 (V3 h);exact oQ (Jx v x i (by omega)) (nO (FJ v x _ 1 i (by show(0:Nat)<=1024;omega) (by omega)))};{exact oQ (JB v x _ _ _ (Jx v x _ a) (rr x _) a) (nO (FJ v x _ 0 _ (by show(0:Nat)<=1024;omega) a))}
theorem AD(h:JM L)(k:eZ n):eZ (L :: n):=λu a=>by
 rcases V9.1 a with e | e
 ·rwa [e]
 ·exact k u e
theorem Ri(b:Bool)(L:List Tk)(h:eZ L):eZ (cZ b L):=by induction L generalizing b with|nil=>cases b <;> exact ET|cons t L c=>have d:=h t (by simp);have a:eZ L:=λu f=>h u (by grind);have e:∀r,JM ⟨⟨#[]⟩,r,t.Y6,t.Y7,t.Y8⟩:=λr=>⟨by show(0:Nat)<=1024;omega,d.2⟩;cases b;{rw[cZ];split;{exact c true a};{exact AD d (c false a)}};{rw[cZ];split;{exact AD d (c true a)};{split;{exact c false a};{split;{exact AD (e 3) (c true a)};{split;{exact nO (e 2)};{exact c true a}}}}}
theorem PB(j:Nat->List Bool->List Tk->List Tk×List Bool)(e:∀k f c,eZ c->eZ (j k f c).1)(v:Fs)(n:Nat):∀L,L.length<=n->eZ L->∀f c,eZ c->eZ (dJ j v L f c).1:=by induction n with|zero=>grind [dJ]|succ n p=>{intro L y q f c d;cases L with|nil=>rwa [dJ]|cons t r=>have o:=q t (by simp);have l:eZ r:=λu x=>q u (by grind);have m:r.length<=n:=(by grind);rw[dJ.eq_def];simp only;split;{split;{exact d};{exact oQ d (nO (wT 7 o))}};{split;{exact p r m l f _ (oQ d (nO o))};{split;{exact oQ d (nO (wT 4 o))};{cases r with|nil=>exact d|cons a r=>{have s:=l a (by simp);cases r with|nil=>exact oQ d (nO (wT _ s))|cons b r=>have w:JM b:=l b (by simp);have i:eZ r:=λu x=>l u (by grind);have g:r.length<=n:=(by grind);simp only;split;{exact oQ d (nO (wT _ s))};{split;{exact oQ d (nO (wT _ w))};{split;{exact p r g i f c d};{split;{exact e _ f c d};{exact p r g i _ _ (e _ f c d)}}}}}}}}}
theorem PG(b:∀k,(ak o k).size<=1024)(n:Nat):∀k d a,eZ a->eZ (fH o n k d a).1:=by induction n with|zero=>intro k d a c;exact c|succ n e=>intro k d a c;rw[fH];exact PB _ e o _ _ (VC _) (Ri _ _ (QN _ _ (b k))) _ _ c
theorem GU(a:∀y,(ak o y).size<=1024):eZ (dD o y).1:=by have h:eZ (sY o y):=PG o a _ _ _ _ ET;unfold dD;split;{exact λt b=>h t (XY _ b)};{exact h}
def EM(T:List Tk)(S:List Sm)(j:Nat):Nat:=(ay S j).h+(bE T (ay S j).h).length
theorem zeb(p:Vx->Bool)(L:Vy)(h:∃x∈L,p x=false):(L.takeWhile p).length<L.length/\p (L.getD (L.takeWhile p).length ⟨#[]⟩)=false/\∀q,q<(L.takeWhile p).length->p (L.getD q ⟨#[]⟩)=true:=by
 induction L with
 | nil=>grind
 | cons a L g =>
  cases b:p a;{simp_all}
  ·rw[List.takeWhile_cons,VO b]
   have⟨i,d,j⟩:=g (by
    have⟨x,f,c⟩:=h;rcases V9.1 f with e | e
    ·rw[e,b]at c;cases c
    ·exact⟨x,e,c⟩)
   refine⟨by grind,d,λq k=>?_⟩;cases q with
   | zero=>exact b
   | succ q=>simp_all
theorem zdf(P:zZ n H w)(m:((ay H w).k.toList == [36,112])=true) :
  (ay H w).h<=EM n H w/\((tS n (EM n H w)).toList == [36,61])=true/\(∀q,(ay H w).h<=q->q<EM n H w->((tS n q).toList == [36,61])=false)/\EM n H w<(ay H w).z-1:=by (have o:=P.zt;have i:=P.pos;have l:=P.cl;have f:=te n (ay H w).h ((ay H w).z-1) P.le (by omega);have e:bb (gG n (ay H w).h ((ay H w).z-1)) ⟨#[36,61]⟩=true:=by grind [jS,bb,gG,ay]);(have⟨y,g,j⟩:=WL.1 e;have b:∃x∈gG n (ay H w).h ((ay H w).z-1),mu x=false:=by refine⟨y,g,?_⟩;unfold mu;simp_all);have⟨c,a,d⟩:=zeb mu _ b;rw[<-Ca P]at c a d;rw[f]at c;unfold EM;refine⟨by omega,?_,λq p r=>?_,by omega⟩;{rw[wF n _ _ _ (by omega) (by omega)]at a;unfold mu at a;simpa using a};{have:=d (q-(ay H w).h) (by omega);rw[wF n _ _ _ (by omega) (by omega),show(ay H w).h+(q-(ay H w).h)=q by omega]at this;unfold mu at this;simpa using this}
def pfR(T:List Tk)(S:List Sm)(a:Nat):lR:=iB T S a (EM T S a) ((ay S a).z-1)
def Qd(T:List Tk)(S:List Sm)(a:Nat):jO:=pP T S a (pfR T S a) (T.getD ((ay S a).z-1) kR)
theorem Gc.keptS{S:VB}(h:Gc I N w H)(k:O S I M)(b:∀g,N=some (aE g)->g∉S):Gc M N w H:=by refine⟨h.1,λj t c=>?_⟩;have⟨g,e,a,d,f,i,l⟩:=h.2 j t c;have q:∀o,M.cell? (X g o)=I.cell? (X g o):=λo=>Wc (k.block g a (b g e));exact⟨g,e,VG a k.size,by grind,by grind,by grind,by grind⟩
theorem gN.off{i:Nat}{a:Vz}{f:Nat}{p:Vz}{u c:Nat}{v x y z:Value}(h:gN I w n N i H a f)(o:I.heap[d]?=some (aJ #[Q p u c,v,x,y,z] 85))(k:O [d] I M):gN M w n N i H a f:=by have⟨A,_⟩:=mq o;refine⟨k.get h.d (λm=>?_),?_,?_⟩;{simp at m;subst m;have:=h.d.symm.trans o;grind};{cases l:n with|nil=>rw[l]at h;exact⟨h.t.1,by simp⟩|cons t L=>rw[l]at h;refine h.t.keptS k (λg e b=>?_);simp at b;subst b;have⟨g,r,_,q,_⟩:=h.t.2 0 t rfl;grind};{cases j:H with|nil=>rw[j]at h;exact⟨h.s.1,by simp⟩|cons t L=>rw[j]at h;refine h.s.keptS k (λg e b=>?_);simp at b;subst b;have⟨g,r,_,q,_⟩:=h.s.2 0 t rfl;grind}
theorem Kv(g:Vz)(v:Nat)(f:Vz)(u:Nat)(D:Vz)(n c:Nat)(C F G:Value)(w:World)(E:w.heap[k]?=some (aJ #[Q D n c,C,bh y,F,G] 85))(N:gN w y b g v (ah b) f u)(s:b.length<=10000)(x:eZ b)(d:∀q,q<b.length->bM b (ah b) q=0) :
  aU 56 #[bh k] w λe w'=>QY b (ah b) k y (Q D n c) C (pfR b (ah b)) (Qd b (ah b)) w e w':=by have p:=fz b;have hl:(ah b).length<=b.length:=qn b b.length;have o:∀l,O [k] w l->gN l y b g v (ah b) f u:=λl W=>N.off E W;have j:∀a,xY (ah b) a=true->cW (ay (ah b) a).k=false:=λa h=>ik h (by decide);refine Ku k y b g v (ah b) f u _ C F G _ _ w E o (by omega) (Ma b s d _ (VC _)).ok.a ?_ ?_ ?_;{intro a m t l B;have P:=qF p d a m (j a t);have⟨H,I,K,L⟩:=zdf P t;have:=P.pos;have:=P.zt;exact Ka y a (EM b (ah b) a) ((ay (ah b) a).z-1) b g v _ f u l (o l B) (Ma b s d a (by omega)) m (rm P) x H I K (by omega) L (by omega) P.dot};{intro a m t A l B V;have P:=qF p d a m (j a t);have:=P.pos;have:=P.zt;exact FM y a ((ay (ah b) a).z-1) b g v _ f u (pfR b (ah b) a) A l (o l B) (Ma b s d a (by omega)) (zbL p d a (by omega)) (zeD p d a (by omega)) m (rm P) ((Ma b s d _ (VC _)).ok.a a m) (by omega) (by omega) V (Of (by omega) x s _ _ (by omega))};{intro a m t;have:=(qF p d a m (j a t)).zt;have⟨k1,_,k3⟩:=Aq (T:=b) (S:=ah b) (a:=a) (by omega) x s (EM b (ah b) a) ((ay (ah b) a).z-1) (by omega);refine⟨k3,λi R=>?_⟩;(show(cN (iB b (ah b) a (EM b (ah b) a) ((ay (ah b) a).z-1)).st i).ref<=(a:Int));rcases(k1 i R).YX with h | ⟨h,-⟩ | ⟨r,T,M,-⟩;{omega};{omega};{rw[M];have:=T.1;omega}}
end Go.Proofs.YtpdholcaobgofaaGreat
