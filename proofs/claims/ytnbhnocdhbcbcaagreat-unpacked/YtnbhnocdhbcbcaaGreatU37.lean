import Derived.Test.YtnbhnocdhbcbcaaGreatU28
import Derived.Test.YtnbhnocdhbcbcaaGreatU36
namespace Go.Proofs.YtnbhnocdhbcbcaaGreat
open Go.RowKit Tryz
open Value IntKind Ending
set_option maxHeartbeats 0
variable{w y:Nat}{b:St}{f:List St}{n:Xt}{x:List Bool}{H:jg}
def lg(L:List Rw)(n:Nat):Bool:=(mn L n==4)||(mn L n==5)
def Cf(x:jg):Option Nat:=if(x.Yw==2)=true then some x.Yd else none
def KC(l:List St)(n:Nat):Xv:=match l[n]? with
 | some s=>(bW l n s).1.filterMap Cf
 | none=>[]
section
variable {l:List St} {L:List Rw}
theorem R9(h:y∈KC l w):y<w:=by
 unfold KC at h;split at h
 ·next s f =>
  obtain⟨x,d,e⟩:=Wk.1 h;unfold Cf at e;split at e
  ·next a =>
   obtain⟨i,c,b⟩:=U7 d;have a:x.Yw=2:=(by simpa using a);rcases oD l w s i x (by rw[Ub c,b]) with g | ⟨g,-⟩ | ⟨-,g⟩
   ·omega
   ·omega
   ·rw[<-Vw e];exact IT g
  ·cases e
 ·cases h
def RP(l:List St)(L:List Rw)(a m:Nat):Prop:=∀P:Nat->Prop,P a->(∀t m:Nat,P t->lg L t=true->m∈KC l t->P m)->P m
theorem RP.step{t:Nat}(h:RP l L w t)(c:lg L t=true)(d:y∈KC l t):RP l L w y:=fun P b a=>a t y (h P b a) c d
end
section
variable {T:List Tk} {d:Db} {PS:List (jW×Hd)} {RS:List iH}
theorem gw.pst(R:gw T d)(F:sg d)(a:∀q,q<T.length->aY T (aa T) q=0)(Q:tB T d)(c:PS.map (·.1)=(List.range (aa T).length).map (pV (aa T) (Fg T (aa T))))(f:d.Yt[w]?=some b)(g:b.Yw=5):(g9 PS (av (aa T) w)).1.st=(bW d.Yt w b).1.map (kI T (aa T)):=by
 have m:=(Uk.1 f).1;have l:=R.hel.at_ m;obtain⟨j,-,-⟩:=R.sget f;have k:mG (aa T) (av (aa T) w)=true:=by unfold mG;rw[<-(oB j).2,g];rfl
 have i:(g9 PS (av (aa T) w)).1=pV (aa T) (Fg T (aa T)) (av (aa T) w):=by
  have:(PS.map (·.1))[av (aa T) w]?=((List.range (aa T).length).map (pV (aa T) (Fg T (aa T))))[av (aa T) w]?:=by rw[c]
  rw[UL,UL,V7 l]at this;unfold g9;rw[Uc];cases e:PS[av (aa T) w]? with
  | none=>rw[e]at this;cases this
  | some x=>rw[e]at this;exact Vw this
 rw[i];unfold pV;rw[Uf k,R.prf F a Q f g];rfl
theorem yQ(i:f[w]?=some b):((dX f w).Yi=4∨(dX f w).Yi=5->b.Yw=5)/\((dX f w).Yi==1)=(b.Yw==4)/\(((dX f w).Yi==2)||((dX f w).Yi==3))=((b.Yw==5) && !(((dX f w).Yi==4)||((dX f w).Yi==5))):=by
 have e:dX f w=if(b.Yw==4)=true then⟨b.Yx,1,0,lC⟩ else if(b.Yw==5)=true then cQ f w b (cU f w) else qy:=by unfold dX jO;rw[i]
 by_cases d:b.Yw=4
 ·have c:(b.Yw==4)=true:=by rw[d];rfl
  have a:(b.Yw==5)=false:=by rw[d];rfl
  rw[c,Uf rfl]at e;rw[e,c,a];exact⟨(fun h=>by rcases h with h | h <;> cases h),rfl,rfl⟩
 ·have c:(b.Yw==4)=false:=Uz.2 d;rw[c,Ud (by simp)]at e;by_cases g:b.Yw=5
  ·have a:(b.Yw==5)=true:=(by rw[g];rfl);rw[a,Uf rfl]at e;rw[e,c,a];rcases ye f w b (cU f w) with h | h | h | h <;> (rw[h];exact⟨fun _=>g,by decide,by decide⟩)
  ·have a:(b.Yw==5)=false:=Uz.2 g;rw[a,Ud (by simp)]at e;rw[e,c,a];exact⟨(fun h=>by rcases h with h | h <;> cases h),rfl,rfl⟩
theorem gw.rea(R:gw T d)(F:sg d)(a:∀q,q<T.length->aY T (aa T) q=0)(Q:tB T d)(f:PS.map (·.1)=(List.range (aa T).length).map (pV (aa T) (Fg T (aa T))))(H:pI (aa T) PS ((List.range (aa T).length).map (mY T (aa T) (Cq T (aa T)))) RS (aa T).length)(B:w<d.Yt.length) :
  (∀n,n<d.Yt.length->lg (cU d.Yt d.Yt.length) n=cG RS (av (aa T) n))/\∀k,fk PS RS (av (aa T) w) k ↔ ∃n,n<d.Yt.length/\k=av (aa T) n/\RP d.Yt (cU d.Yt d.Yt.length) w n:=by
 have G:=R.rows F a Q f H;have D:∀n,n<d.Yt.length->mn (cU d.Yt d.Yt.length) n=(dX d.Yt n).Yi:=fun n b=>vM d.Yt b;have j:∀n,n<d.Yt.length->lg (cU d.Yt d.Yt.length) n=cG RS (av (aa T) n):=fun n b=>by
  unfold lg cG;rw[D n b,G n b];rfl
 have A:∀n,n<d.Yt.length->cG RS (av (aa T) n)=true->∃s,d.Yt[n]?=some s/\s.Yw=5:=fun n b h=>by
  obtain⟨s,g,-⟩:=R.get b;refine⟨s,g,(yQ g).1 ?_⟩;rw[<-j n b]at h;unfold lg at h;rw[D n b,UO,Vt,Vt]at h;exact h
 refine⟨j,fun k=>⟨fun h=>?_,?_⟩⟩
 ·refine h (fun k=>∃n,n<d.Yt.length/\k=av (aa T) n/\RP d.Yt (cU d.Yt d.Yt.length) w n) ⟨w,B,rfl,fun P h _=>h⟩ (fun t k i r o p c=>?_);obtain⟨n,b,rfl,K⟩:=r;obtain⟨s,g,u⟩:=A n b o;rw[R.pst F a Q f g u]at p c;rw[Uy]at p;rw[kE _ _ p]at c;have I:=oD d.Yt n s i _ (Ub p);unfold kI at c;rcases I with l | ⟨l,-⟩ | ⟨l,J⟩
  ·rw[Uf l]at c;simp only at c;omega
  ·rw[l,Ud (by omega),Ud (by omega)]at c;simp only at c;omega
  ·rw[l,Ud (by omega),Uf rfl]at c;simp only at c;refine⟨_,J.lt,by omega,K.step (by rw[j n b];exact o) ?_⟩;unfold KC;rw[g];refine Wk.2 ⟨_,Uu p,?_⟩;unfold Cf;rw[Uf (by rw[l];rfl)]
 ·rintro ⟨n,b,rfl,h⟩;have:=h (fun m=>m<d.Yt.length/\fk PS RS (av (aa T) w) (av (aa T) m)) ⟨B,fk.self⟩ (fun t m r z v=>?_)
  ·exact this.2
  ·have y:m<d.Yt.length:=(by have:=R9 v;omega);refine⟨y,?_⟩;rw[j t r.1]at z;obtain⟨s,g,u⟩:=A t r.1 z;unfold KC at v;rw[g]at v;obtain⟨x,L,e⟩:=Wk.1 v;unfold Cf at e;split at e
   ·next o =>
    have o:x.Yw=2:=(by simpa using o);obtain⟨i,C,E⟩:=U7 L;have e:=Vw e;refine r.2.step z (i:=i) (by rw[R.pst F a Q f g u,Uy];exact C) ?_;rw[R.pst F a Q f g u,kE _ _ C,E];unfold kI;rw[o,Ud (by omega),Uf rfl,e]
   ·cases e
end
def wb(l:List St)(s:jg):Nat:=if(s.Yw==3)=true then 0 else ij l s.Yd
theorem Oo{M a:List Xt}(h:((fS f n x M a H).1.1==0)=true):wb f H<=a.length/\(fS f n x M a H).2.length=a.length-wb f H:=by
 unfold fS wb ij at *;by_cases b:(H.Yw==3)=true
 ·rw[Uf b]at h ⊢;rw[Uf b];refine⟨UF _,?_⟩;split <;> rfl
 ·rw[Ud b]at h ⊢;rw[Ud b];by_cases c:nt f H.Yd=true
  ·rw[Uf c]at h ⊢;rw[Uf c];have d:¬a.length<(aM f H.Yd).length:=fun d=>by
    unfold ii at h;rw[Uf d]at h;cases h
   exact⟨by omega,by rw[U6];omega⟩
  ·rw[Ud c]at h ⊢;rw[Ud c];exact⟨UF _,rfl⟩
theorem NW{Q:List Xt×List Xt}(h:((jd f n x Q H).1==0)=true):wb f H<=Q.2.length/\(jd f n x Q H).2.2.length=Q.2.length-wb f H+1:=by
 unfold jd at h ⊢;by_cases a:((fS f n x Q.1 Q.2 H).1.1==0)=true
 ·rw[Uf a]at h ⊢;by_cases b:(fS f n x Q.1 Q.2 H).1.2.length<=32
  ·rw[Uf b];obtain⟨c,d⟩:=Oo a;exact⟨c,by rw[Uh,d];rfl⟩
  ·rw[Ud b]at h;cases h
 ·rw[Ud a]at h;exact absurd h a
section
variable {T:List Tk} {S:List Sm} {l:List St} {a A:Nat} {Va:Xt} {ms:List Bool}
def il(T:List Tk)(S:List Sm)(r:Int):Xs:=bD T (aq S r.toNat)
theorem Q3(Y:Sx T S l a A Va ms)(b:∀n,n<l.length->fP l n=bD T (aq S (av S n)))(m:Q5 l a w H) :
  (H.Yw=3->(kI T S H).ref=-2/\(kI T S H).back=H.Yd/\(kI T S H).need=0)/\(H.Yw≠3->(kI T S H).ref≠-2/\(kI T S H).need=ij l H.Yd/\il T S (kI T S H).ref=fP l H.Yd)/\(kI T S H).need=wb l H/\((kI T S H).ref=-2->(kI T S H).back<w):=by
 rcases m with ⟨i,g⟩ | ⟨j,g⟩
 ·have e:kI T S H=⟨-2,H.Yd,0,H.at_.YB,H.at_.YC,H.at_.YD⟩:=by unfold kI;rw[i,Ud (by omega),Ud (by omega)]
  rw[e];exact⟨fun _=>⟨rfl,rfl,rfl⟩,fun h=>absurd i h,by unfold wb;rw[i];rfl,fun _=>g⟩
 ·have f:=g.lt;have e:kI T S H=⟨(av S H.Yd:Nat),0,fL T S (av S H.Yd:Nat),H.at_.YB,H.at_.YC,H.at_.YD⟩:=by unfold kI;rw[j,Ud (by omega),Uf rfl]
  have c:fL T S (av S H.Yd:Nat)=ij l H.Yd:=by
   have d:=Y.ats H.Yd f;unfold fL ij;rw[Ud (by omega),UR,<-d];split
   ·next k=>rw[<-(Y.hy H.Yd f k).2,Uy]
   ·rfl
  rw[e];refine⟨fun h=>absurd h (by omega),fun _=>⟨by show((av S H.Yd:Nat):Int)≠-2;omega,c,?_⟩,?_,fun h=>absurd h (by show ¬((av S H.Yd:Nat):Int)=-2;omega)⟩
  ·show bD T (aq S ((av S H.Yd:Nat):Int).toNat)=_;rw[UR,b _ f]
  ·unfold wb;rw[j,Ud (by decide)];exact c
theorem Su(Y:Sx T S l a A Va ms)(g:∀w,w<l.length->fP l w=bD T (aq S (av S w))){C:Pl}{b:List jg}(G:∀i (h:i<b.length),Q5 l a i b[i])(m:Nat):∀i Q K q,i+m=b.length->Q.2.length=K.length->Pi (b.map (kI T S)) (il T S) i K q->xn (b.map (kI T S)) i->((jC l Va ms C n (b.drop i) Q).1==0)=true ->
  xn (b.map (kI T S)) b.length/\∃k,Pi (b.map (kI T S)) (il T S) b.length [k] ((b.drop i).foldl (xg (ij l) (fP l)) q):=by
 induction m with
 | zero =>
  intro i Q K q h r p v d;rw[VD]at h;subst h;rw[Wr,jC]at d;rw[Wr,List.foldl_nil];refine⟨v,?_⟩;have F:K.length=1:=by
   rw[<-r];unfold Ar at d;split at d
   ·cases d
   ·next e=>rw[e];rfl
   ·cases d
  obtain⟨k,rfl⟩:=List.length_eq_one_iff.1 F;exact⟨k,p⟩
 | succ m H =>
  intro i Q K q h r p v d;have t:i<b.length:=by omega
  rw[yD _ _ _ _ _ _ _ _ t]at d;cases e:((jd l Va ms Q b[i]).1==0)
  ·rw[e,Ud (by simp)]at d;simp only at d;rw[e]at d;cases d
  ·rw[e,Uf rfl]at d;obtain⟨I,J⟩:=NW e;obtain⟨y,z,x,B⟩:=Q3 Y g (G i t);rw[<-kE b i t]at y z x B;have o:(aQ (b.map (kI T S)) i).need<=K.length:=(by rw[x,<-r];exact I);have f:xn (b.map (kI T S)) (i+1):=fun j L=>by
    by_cases E:j<i
    ·exact v j E
    ·have:j=i:=(by omega);subst this;refine⟨B,?_⟩;obtain⟨c,D,-⟩:=rB (aQ (b.map (kI T S)) j).need j K p.ch o;rw[nO,D];omega
   have u:=p.step (c:=ij l) (lb:=fP l) (s:=b[i]) f (by omega) o y z;rw[UB t,WA];refine H (i+1) _ _ _ (by omega) ?_ u f d;rw[J,UK,UX,x,r]
end
def rm(l:List St)(n:Nat):Xt×Int:=match l[n]? with
 | some s=>oq (ij l) (fP l) (bW l n s).1 ⟨[],[],[]⟩
 | none=>([],9)
theorem vl{L:List Rw}(h:(cQ f w b L).Yi=4∨(cQ f w b L).Yi=5):pD (bW f w b).1=none/\((bW f w b).2.1==0)=true/\((eF f w b (bW f w b).1).1==0)=true:=by
 unfold cQ kg at h;by_cases c:(pD (bW f w b).1).isNone=true/\((bW f w b).2.1==0)=true
 ·rw[Uf c]at h;by_cases a:((eF f w b (bW f w b).1).1==0)=true
  ·exact⟨by simpa using c.1,c.2,a⟩
  ·rw[Ud a]at h;simp at h
 ·rw[Ud c]at h;by_cases a:((bW f w b).2.1==0)=true
  ·rw[Uf a]at h;cases d:pD (bW f w b).1 with
   | none=>exact absurd ⟨by rw[d];rfl,a⟩ c
   | some u=>rw[d]at h;simp at h
  ·rw[Ud a]at h;simp at h
section
variable {T:List Tk} {d:Db}
theorem gw.wrote(R:gw T d)(F:sg d)(f:∀q,q<T.length->aY T (aa T) q=0)(c:d.Yt[w]?=some b)(n:lg (cU d.Yt d.Yt.length) w=true) :
  b.Yw=5/\((bW d.Yt w b).2.1==0)=true/\0<(bW d.Yt w b).1.length/\xn ((bW d.Yt w b).1.map (kI T (aa T))) (bW d.Yt w b).1.length/\rm d.Yt w=if 64<(eZ ((bW d.Yt w b).1.map (kI T (aa T))) (il T (aa T)) ((bW d.Yt w b).1.length-1)).length then([],3) else(eZ ((bW d.Yt w b).1.map (kI T (aa T))) (il T (aa T)) ((bW d.Yt w b).1.length-1),0):=by
 have o:=(Uk.1 c).1;unfold lg at n;rw[vM d.Yt o,UO,Vt,Vt]at n;have A:=(yQ c).1 n;have e:dX d.Yt w=cQ d.Yt w b (cU d.Yt w):=by
  unfold dX jO;rw[c];simp only;rw[A,Ud (by decide),Uf (by decide)]
 rw[e]at n;obtain⟨y,z,B⟩:=vl n;have l:=AA d.Yt w b z;have v:=oD d.Yt w b;have u:∀i (h:i<(bW d.Yt w b).1.length),Q5 d.Yt w i (bW d.Yt w b).1[i]:=fun i h=>by
  rcases v i _ (Ub h) with p | p
  ·unfold pD at y;rw[U8]at y;have:=y i (Up.2 h);rw[Ub h]at this;simp only at this;rw[p]at this;exact absurd rfl this
  ·exact p
 have g:∀w,w<d.Yt.length->fP d.Yt w=bD T (aq (aa T) (av (aa T) w)):=fun w o=>by
  obtain⟨b,c,-,C,-⟩:=R.get o;unfold fP;rw[Uc,c];exact C
 have m:rm d.Yt w=oq (ij d.Yt) (fP d.Yt) (bW d.Yt w b).1 ⟨[],[],[]⟩:=by unfold rm;rw[c]
 rw[m];unfold eF at B;generalize (bW d.Yt w b).1=a at *;have s:Pi (a.map (kI T (aa T))) (il T (aa T)) 0 [] ⟨[],[],[]⟩:=⟨rfl,rfl,rfl,rfl,fun j E=>by omega⟩;obtain⟨D,k,r⟩:=Su (R.py F f o) g u a.length 0 ([],[]) [] ⟨[],[],[]⟩ (by omega) rfl s (fun j E=>by omega) (by rw[VK];exact B);rw[VK]at r;refine⟨A,z,l,D,?_⟩;have x:a.length=k+1:=r.ch.1;have t:(a.foldl (xg (ij d.Yt) (fP d.Yt)) ⟨[],[],[]⟩).W=eZ (a.map (kI T (aa T))) (il T (aa T)) (a.length-1):=by
  rw[r.w,x,Vj];unfold tq;simp
 rw[Q1 _ _ _ _ (by simp),t]
end
set_option maxRecDepth 100000
theorem Fa(P:List ci)(b:Nat)(T:List Tk)(ar:Xu)(cT:Nat)(S:List Sm)(ap:Xu)(cS:Nat)(ao:Xu)(q:Nat)(y:Int)(pf:Xs)(pl pc:Int)(hl:P.length<=100000000)(hN:Fj P)(hW:xn P P.length)(F:∀i,i<P.length->(aQ P i).ref≠-2->∃j:Nat,(aQ P i).ref=(j:Int)/\∀d,ge d b T ar cT S ap cS->Calls prog 88 #[pointer (some ⟨b,0,none⟩),int i64 j] d fun e N=>e=returned (string (bD T (aq S j)))/\ae [] d N)(f:Nat):∀(i:Nat) (w:World),i<f->i<P.length->cN w ao 6 lp P->ge w b T ar cT S ap cS->(eZ P (il T S) i).length<=64 ->
  Calls prog 71 #[pointer (some ⟨b,0,none⟩),agg #[slice ao P.length q,int i64 y,string pf,int i64 pl,int i64 pc],int i64 i] w fun e N=>∃a:Hd,e=returned (slice a.ao (eZ P (il T S) i).length a.cap)/\ip w N a (aD (eZ P (il T S) i)):=by
 induction f with
 | zero=>intro i w h;omega
 | succ f ih =>
  intro i w bT Q hS hD z;have ac:Xr _:=ih;clear ih;obtain⟨iS,bj,a0,a1,a2⟩:=UC jN;obtain⟨W,HW⟩:=bm (w.alloc (.cells #[slice ao P.length q,int i64 y,string pf,int i64 pl,int i64 pc] 122));have BW:=fE HW.o;have t:Xr _:=fg HW.o;have HS:Xr _:=hS.Yh t.o;have HD:Xr _:=hD.Yh t.o;have b0:(i:Int)<P.length:=by omega
  obtain⟨g,rfl,bg,q0,q1,-⟩:=cN.step HS.o i Q;have HB:Xr _:=BW;obtain⟨p0,p1,p2,p3,p4⟩:=lr BW;have p:=CN (lab:=il T S) hW Q;obtain⟨I,A⟩:=hW i Q;have K:=F i Q;cases hr:((aQ P i).ref == -2)
  ·have l:¬(aQ P i).ref=-2:=(by simpa using hr);rw[Ud l]at p;obtain⟨j,U,az⟩:=K l;have HT:Xr (eZ P (il T S) i=ou P (il T S) (dy P i)++[bD T (aq S j)]):=by
    show _=_;rw[p,U];unfold il ou;rw[UR]
   have al:Xr _:=vy P (some ⟨g,0,none⟩) q y pf pl pc i W hl hN Q HS.o A;have ai:Xr ((dy P i).length=(aQ P i).need):=vA P i;have a5:Xr _:=qV P i A;have bs:(dy P i).length<=100000:=(by rw[ai.o];exact hN i);have a3:Xr _:=az;generalize eZ P (il T S) i=WI at *;rw[U]at q0 hr;have bc:Xr _:=U;clear U l;generalize dy P i=R at *;rw[<-ai.o]at al;have bo:(ou P (il T S) R).length+1<=64:=(by have:=z;rw[HT.o,Uh]at this;exact this);have bd:Xr (∀k,(ou P (il T S) (R.take k)).length<=(ou P (il T S) R).length):=fun k=>Jw P (il T S) R k;clear hS BW p I A q1 F K az hD z;generalize bD T (aq S j)=lb at *;go_enter func71,ntmps71;(go_upto_region 1 with fail);rw[HW.o];(go_upto_region 5 with (go_at_call 103;refine Ug al.o ?_;rintro e V ⟨g1,rfl,x1,k1⟩));have c:Xr _:=k1;have a6:Xr _:=x1.src;have ba:Xr (ip V V ⟨none,0⟩ (aD (ou P (il T S) (R.take 0)))):=(show ip V V ⟨none,0⟩ (aD []) from⟨Uj _ _ _ _,(by intro k hk;cases hk),ae.refl _ _⟩);clear p0 p1 p2 p3 p4 q0 bg x1 k1;go_wp2
   go_loopg [7,9] R.length (fun gk ov kv wr=>∃(k:Nat) (a:Hd) (Z:Xt),k<=R.length/\gk=R.length-k/\ov=slice a.ao Z.length a.cap/\kv=int i64 k/\Xr (Z=ou P (il T S) (R.take k))/\Z.length<=64/\Xr (ip V wr a (aD Z)))
   ·exact⟨0,⟨none,0⟩,[],by omega,rfl,rfl,rfl,rfl,by show 0<=64;omega,ba⟩
   obtain⟨k,a,Z,hk,bx,rfl,rfl,HZ,bv,v⟩:=hrel;rcases kn k R.length with ⟨B,b1⟩ | ⟨B,b2⟩
   ·obtain⟨gr,eg,bz,cr⟩:=(qA.Yh a6.o v.o.Yu) k _ (Ub B);cases eg
    have b3:=a5.o R[k] (Uu B);have X:=(c.o.trans v.o.Yu).get HB.o (by simp);obtain⟨r0,r1,r2,r3,r4⟩:=lr X;have M:=Be P (il T S) R k B;have bp:Z.length+(eZ P (il T S) R[k]).length<=64:=by
     have h1:=bd.o (k+1);rw[M,Uh,<-HZ.o]at h1;omega
    have HC:Xr (∀d,ae [] wr d->Calls prog 71 #[pointer (some ⟨b,0,none⟩),agg #[slice (some ⟨g,0,none⟩) P.length q,int i64 y,string pf,int i64 pl,int i64 pc],int i64 R[k]] d fun e N=>∃a:Hd,e=returned (slice a.ao (eZ P (il T S) R[k]).length a.cap)/\ip d N a (aD (eZ P (il T S) R[k]))):=fun d kx=>ac.o R[k] d (by omega) (by omega) (cN.Yh HS.o ((c.o.trans v.o.Yu).trans kx)) (HD.o.Yh ((c.o.trans v.o.Yu).trans kx)) (by omega);have a7:Xr (Z++eZ P (il T S) R[k]=ou P (il T S) (R.take (k+1))):=cM (by rw[M,HZ.o]);generalize eZ P (il T S) R[k]=Y at *;generalize R[k]=rk at *;clear X M;obtain⟨ha,hc⟩:=a;(go_upto_region 8 with fail);go_region_with (go_at_call 71;refine(HC.o _ (by exact bM.drew)).mono ?_;rintro e w9 ⟨E,rfl,O⟩)
    all_goals
     have C:Xr (ae [] wr w9):=bM.drew.trans O.Yu;have ag:Xr (ip V w9 ⟨ha,hc⟩ (aD Z)):=v.o.Yh C.o;have G:=ag.o.YF;have hY:=O.YF;have L:Xr (E.ao=none->Y.length=0/\E.cap=0):=O.none;have bf:Xr (∀ad,E.ao=some ad->∀j u,(dm Y)[j]?=some u->w9.cell? (ad.add j)=some u):=fun ad e j u U=>by
      rcases hY.Ys with ⟨e1,-,-⟩ | ⟨g,br,e1,e2,-⟩
      ·rw[show E.ao=none from congrArg Hd.ao e1]at e;cases e
      ·rw[e1]at e;cases e
       rw[bS];exact hY.cell e1 j u U
     have aT:Xr (∀u∈dm Y,u.oneCell'=true):=fun u hu=>by
      obtain⟨x,-,rfl⟩:=Vf.1 hu;rfl
     have aS:Xr ((dm Y).length=Y.length*1):=cM (by rw[dm,Uy,XL]);have be:Xr ((aD Z).n+Y.length<=1000000000):=(by show Z.length+Y.length<=_;omega);have bl:Xr ((⟨(aD Z).e,(aD Z).size,(aD Z).n+Y.length,(aD Z).xs++dm Y⟩:ew)=aD (Z++Y)):=(by show ew.mk _ _ (Z.length+Y.length) (dm Z++dm Y)=_;unfold aD;rw[Uh];unfold dm;rw[UJ]);clear hY O;obtain⟨H,J⟩:=E;go_wp2_with (at_builtin;refine dW _ rfl (.tmp 44) (.tmp 45) 61 rfl iS (string ⟨#[]⟩) 16 ⟨ha,hc⟩ (aD Z) underlying61 bj a0 a1 a2 rfl UA rfl G H Y.length J (dm Y) rfl aS.o L.o bf.o aT.o be.o (by omega) ?_;intro h5 w5 m s;rw[bl.o]at m);have D:Xr _:=ag.o.Yr s m;clear m s;go_wp2;go_roundg (R.length-(k+1))
     ·exact⟨k+1,h5,Z++Y,by omega,rfl,by rw[Uh];rfl,by go_num,a7,by rw[Uh];omega,D⟩
     omega
   ·have an:Xr (Z++[lb]=WI):=(by show _=_;rw[HT.o,HZ.o,VG (by omega)]);have X:=(c.o.trans v.o.Yu).get HB.o (by simp);obtain⟨r0,-⟩:=lr X;obtain⟨g',eg,ax,t0,-⟩:=cN.step (cN.Yh HS.o (c.o.trans v.o.Yu)) i Q;cases eg
    rw[bc.o]at t0;have a4:Xr _:=a3.o wr (HD.o.Yh (c.o.trans v.o.Yu));clear X;obtain⟨ha,hc⟩:=a;(go_upto_region 11 with (go_at_call 88;refine Ug a4.o ?_;rintro e w3 ⟨rfl,k3⟩));have af:Xr _:=v.o.Yh k3;have G:=af.o.YF;clear k3 r0 ax t0;go_wp2_with (at_builtin;refine mZ _ rfl (.tmp 55) (.tmp 57) rfl ⟨ha,hc⟩ Z lb rfl G (by omega) rfl ?_;intro h5 w5 m s;have D:Xr _:=(af.o.Yr s m).base (t.o.trans c.o);clear m s);go_ret;exact⟨h5,by rw[<-an.o,Uh];rfl,by rw[<-an.o];exact D.o⟩
  ·have l:(aQ P i).ref=-2:=(by simpa using hr);rw[Uf l]at p;have bw:=I l;have HC:Xr (∀d,ae [] W d->Calls prog 71 #[pointer (some ⟨b,0,none⟩),agg #[slice (some ⟨g,0,none⟩) P.length q,int i64 y,string pf,int i64 pl,int i64 pc],int i64 (aQ P i).back] d fun e N=>∃a:Hd,e=returned (slice a.ao (eZ P (il T S) i).length a.cap)/\ip d N a (aD (eZ P (il T S) i))):=fun d kx=>by
    rw[p]at z ⊢;exact ac.o _ d (by omega) (by omega) (cN.Yh HS.o kx) (HD.o.Yh kx) z
   generalize eZ P (il T S) i=WI at *;generalize (aQ P i).back=bk at *;generalize (aQ P i).ref=r at *;clear hS BW p I A F K hD;go_enter func71,ntmps71;(go_upto_region 1 with fail);rw[HW.o];(go_upto_region 2 with fail);go_region_with (go_at_call 71;refine(HC.o _ (by exact bM.drew)).mono ?_;rintro e w9 ⟨E,rfl,O⟩)
   all_goals
    have C:Xr _:=O.base (t.o.trans bM.drew);clear O;obtain⟨H,J⟩:=E;go_wp2;go_ret;exact⟨⟨H,J⟩,rfl,C.o⟩
end Go.Proofs.YtnbhnocdhbcbcaaGreat
