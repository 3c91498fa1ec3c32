import Derived.Test.YtnbhnocdhbcbcaaGreatK21
namespace Go.Proofs.YtnbhnocdhbcbcaaGreat
open Go.RowKit Tryz
open Value IntKind Ending
set_option maxHeartbeats 0
variable{b:World}{w S:Nat}{x y v d k:Value}{n:List Sm}{H:List (jP×Hd)}{l f:List iq}
def Ku:jP:=⟨[],0,⟨#[]⟩,0,0⟩
def Nd(S:List Sm)(a:Nat):Bool:=(aq S a).k.toList == [36,97]
def my(S:List Sm)(a:Nat):Bool:=(aq S a).k.toList == [36,112]
def nO(S:List Sm)(pf:Nat->jP)(a:Nat):jP:=if my S a=true then pf a else Ku
def mJ(T:List Tk)(S:List Sm)(jr:Nat->iq)(a:Nat):iq:=if Nd S a=true then⟨bS T (aq S a),1,0,⟨#[]⟩,0,0⟩ else if my S a=true then jr a else Qi
theorem yl{α:Type}(f:Nat->α)(k:Nat):(List.range (k+1)).map f=(List.range k).map f++[f k]:=by
 rw[UU,Uh];rfl
theorem FX(x:jP×Hd):∀u∈OI x,u.oneCell'=true:=by
 intro u a;unfold OI at a;simp only[List.mem_cons,List.not_mem_nil,or_false]at a;rcases a with rfl | rfl | rfl | rfl | rfl <;> rfl
theorem Gl(x:iq):∀u∈lg x,u.oneCell'=true:=by
 intro u a;unfold lg at a;simp only[List.mem_cons,List.not_mem_nil,or_false]at a;rcases a with rfl | rfl | rfl | rfl | rfl | rfl <;> rfl
theorem yc(h:b.heap[w]?=some (.cells #[x,y,v,d,k] 122)) :
  (b.cell? ⟨w,0,none⟩=some x/\b.cell? ⟨w,1,none⟩=some y/\b.cell? ⟨w,2,none⟩=some v/\b.cell? ⟨w,3,none⟩=some d/\b.cell? ⟨w,4,none⟩=some k) /\
  (b.frozen? ⟨w,0,none⟩=false/\b.frozen? ⟨w,1,none⟩=false/\b.frozen? ⟨w,2,none⟩=false/\b.frozen? ⟨w,3,none⟩=false/\b.frozen? ⟨w,4,none⟩=false)/\w<b.heap.size:=by
 refine⟨⟨?_,?_,?_,?_,?_⟩,⟨am h 0,am h 1,am h 2,am h 3,am h 4⟩,aj h⟩
 all_goals (rw[ah h];rfl)
theorem uw{a:Value}(h:b.heap[w]?=some (.cells #[x,y,v,d,k,a] 38)) :
  (b.cell? ⟨w,0,none⟩=some x/\b.cell? ⟨w,1,none⟩=some y/\b.cell? ⟨w,2,none⟩=some v/\b.cell? ⟨w,3,none⟩=some d/\b.cell? ⟨w,4,none⟩=some k/\b.cell? ⟨w,5,none⟩=some a) /\
  (b.frozen? ⟨w,0,none⟩=false/\b.frozen? ⟨w,1,none⟩=false/\b.frozen? ⟨w,2,none⟩=false/\b.frozen? ⟨w,3,none⟩=false/\b.frozen? ⟨w,4,none⟩=false/\b.frozen? ⟨w,5,none⟩=false)/\w<b.heap.size:=by
 refine⟨⟨?_,?_,?_,?_,?_,?_⟩,⟨am h 0,am h 1,am h 2,am h 3,am h 4,am h 5⟩,aj h⟩
 all_goals (rw[ah h];rfl)
def pY(S:List Sm)(PS:List (jP×Hd))(RS:List iq)(a:Nat):Prop:=∀t,t<=a->eJ PS RS a t->my S t=true->cM RS t=true
structure oJ(S:List Sm)(PS:List (jP×Hd))(RS RS':List iq)(n:Nat):Prop where
 len:RS'.length=RS.length
 old:∀a,n<=a->dW RS' a=dW RS a
 yes:∀a,a<n->(dW RS a).XF=4->pY S PS RS a->dW RS' a={ dW RS a with XF:=5 }
 no:∀a,a<n->¬((dW RS a).XF=4/\pY S PS RS a)->dW RS' a=dW RS a
theorem yF(b:List iq)(k a:Nat)(r:iq)(h:k<b.length):dW (b.set k r) a=if a=k then r else dW b a:=by
 unfold dW;rw[To,UA,To];by_cases e:k=a
 ·subst e;rw[Tr rfl,Tr rfl,Tr h];rfl
 ·rw[Tp e,Tp (fun q=>e q.symm)]
theorem oJ.same(h:oJ n H l f w)(i:¬((dW l w).XF=4/\pY n H l w)):oJ n H l f (w+1) :=
 ⟨h.len,fun a d=>h.old a (by omega),fun a d c g=>by
  by_cases e:a=w
  ·subst e;exact absurd ⟨c,g⟩ i
  ·exact h.yes a (by omega) c g,fun a d b=>by
  by_cases e:a=w
  ·subst e;exact h.old a (Tq _)
  ·exact h.no a (by omega) b⟩
theorem oJ.turn(h:oJ n H l f w)(j:w<l.length)(g:(dW l w).XF=4)(i:pY n H l w):oJ n H l (f.set w { dW f w with XF:=5 }) (w+1):=by
 have b:w<f.length:=by rw[h.len];exact j
 refine⟨by rw[Um];exact h.len,fun a d=>?_,fun a d k m=>?_,fun a d c=>?_⟩
 ·rw[yF _ _ _ _ b,Tp (by omega)];exact h.old a (by omega)
 ·rw[yF _ _ _ _ b];by_cases e:a=w
  ·subst e;rw[Tr rfl,h.old a (Tq _)]
  ·rw[Tp e];exact h.yes a (by omega) k m
 ·rw[yF _ _ _ _ b];by_cases e:a=w
  ·subst e;exact absurd ⟨g,i⟩ c
  ·rw[Tp e];exact h.no a (by omega) c
theorem oJ.sound(h:oJ n H l f w)(t:Nat):cM f t=cM l t:=by
 by_cases a:t<w
 ·by_cases e:(dW l t).XF=4/\pY n H l t
  ·unfold cM;rw[h.yes t a e.1 e.2,e.1];rfl
  ·unfold cM;rw[h.no t a e]
 ·unfold cM;rw[h.old t (by omega)]
theorem eJ.of(d:∀t,cM f t=cM l t)(h:eJ H f w S):eJ H l w S:=by
 exact h _ eJ.self (fun t S i e a b c=>eJ.step e (by rw[<-d];exact a) b c)
theorem OV{T:List Tk}(h:oJ n H l f w){b:List Bool}(i:∀k,b.getD k false=true ↔ eJ H f S k):(Cq T n f b (S+1)).length=0 ↔ pY n H l S:=by
 have c:=h.sound;unfold Cq;rw[TT,VS,VZ];constructor
 ·intro o t g p j;have d:eJ H f S t:=eJ.of (fun t=>(c t).symm) p;have:=o t (TG.2 (by omega));unfold QV at this;rw[(i t).2 d]at this;unfold my at j;rw[j,c t]at this;cases e:cM l t
  ·rw[e]at this;exact absurd rfl this
  ·rfl
 ·intro m t g a;have g:=TG.1 g;unfold QV at a;rw[TN,TN]at a;have:=m t (by omega) (eJ.of c ((i t).1 a.1)) a.2.1;rw[c t,this]at a;exact absurd a.2.2 (by simp)
theorem DH{h:Hd}{r:eR}(o:aB b h r)(a:h.ao=some ⟨w,0,none⟩)(j:Nat):b.frozen? ⟨w,j,none⟩=false:=by
 rcases o.XP with ⟨e,-,-⟩ | ⟨d,f,e,c,-⟩
 ·rw[e]at a;cases a
 ·rw[e]at a;cases a;exact am c j
def LU(T:List Tk)(S:List Sm)(v b:Nat)(x0 x1:Value)(pf:Nat->jP)(jr:Nat->iq)(w:World)(e:Ending)(w':World):Prop :=
 ∃(PS:List (jP×Hd)) (h1 h2:Hd) (RS':List iq),e=returned (tuple #[])/\PS.map (·.1)=(List.range S.length).map (nO S pf)/\oJ S PS ((List.range S.length).map (mJ T S jr)) RS' S.length/\xa w w' v b x0 x1 PS h1 RS' h2
set_option maxRecDepth 100000
theorem Fu(v b:Nat)(T:List Tk)(ct:Xu)(cT:Nat)(S:List Sm)(bd:Xu)(cS:Nat)(x0 x1 y3 y4:Value)(X:Nat->jP)(jr:Nat->iq)(w:World)(hv:w.heap[v]?=some (.cells #[x0,x1,pointer (some ⟨b,0,none⟩),y3,y4] 85))(hD:∀Z,ae [v] w Z->gy Z b T ct cT S bd cS)(hS:S.length<=10000)(hA:∀j,j<S.length->(aq S j).a<T.length)(ca:∀a,a<S.length->my S a=true->∀Z,ae [v] w Z->Calls prog 89 #[pointer (some ⟨b,0,none⟩),int i64 a] Z fun e P=>pv Z (X a) e P)(cb:∀a,a<S.length->my S a=true->∀(F:Hd) (Z:World),ae [v] w Z->di Z F.ao 6 lI (X a).st->Calls prog 90 #[pointer (some ⟨b,0,none⟩),int i64 a,agg #[slice F.ao (X a).st.length F.cap,int i64 (X a).why,string (X a).XZ,int i64 (X a).X0,int i64 (X a).X3]] Z fun e P=>LZ Z (jr a) e P)(c8:∀a,a<S.length->my S a=true->(X a).st.length<=100000000/\∀i,i<(X a).st.length->(bN (X a).st i).ref<=(a:Int)) :
  Calls prog 58 #[pointer (some ⟨v,0,none⟩)] w fun e P=>LU T S v b x0 x1 X jr w e P:=by
 obtain⟨iP,cu,be,bf,bg⟩:=TZ Q7;obtain⟨iR,cx,bj,bk,bl⟩:=TZ Iw;have b1:=ab hv 4 (slice none 0 0);have b2:=ab b1 3 (slice none 0 0);obtain⟨W0,cr⟩:=bn ((w.setCell ⟨v,4,none⟩ (slice none 0 0)).setCell ⟨v,3,none⟩ (slice none 0 0));have c7:Xr (xa w W0 v b x0 x1 [] ⟨none,0⟩ [] ⟨none,0⟩):=by
  refine⟨by rw[<-cr.o];exact b2,aj hv,Ty _ _ _ _,Ty _ _ _ _,(by intro k hk;cases hk),(by intro k hk;cases hk),(by intro k hk;cases hk),by rw[<-cr.o];exact((ae.refl [v] w).sl1 _).sl1 _,(by intro x hx;cases hx),(by intro x hx;cases hx)⟩
 obtain⟨-,-,-,-,c4⟩:=od hv;have e4:=am hv 4;have c3:(w.setCell ⟨v,4,none⟩ (slice none 0 0)).cell? ⟨v,3,none⟩=some y3:=by rw[ah b1];rfl
 have e3:=am b1 3;have HD:Xr _:=hD;have HA:Xr _:=hA;have b3:Xr _:=ca;have b4:Xr _:=cb;have cP:Xr _:=c8;clear hD hA ca cb c8 b1 b2 hv;go_enter func58,ntmps58;go_upto_region 2 with fail
 rw[cr.o];clear c4 e4 c3 e3;go_wp2
 go_loopg [2] S.length (fun g iv wr=>∃(k:Nat) (f:List (jP×Hd)) (l:List iq) (H A:Hd),k<=S.length/\g=S.length-k/\iv=int i64 k/\Xr (f.length=k/\l.length=k)/\Xr (f.map (·.1)=(List.range k).map (nO S X))/\Xr (l=(List.range k).map (mJ T S jr))/\Xr (xa w wr v b x0 x1 f H l A))
 ·exact⟨0,[],[],⟨none,0⟩,⟨none,0⟩,by omega,rfl,rfl,⟨rfl,rfl⟩,rfl,rfl,c7⟩
 obtain⟨k,f,l,H,A,hk,hg,rfl,HL,cl,cR,D⟩:=hrel;rcases kn k S.length with ⟨C,ea⟩ | ⟨C,-⟩
 ·obtain⟨W,HW⟩:∃W,Xr ((wr.alloc (.cells #[slice none 0 0,int i64 0,string ⟨#[]⟩,int i64 0,int i64 0] 122)).alloc (.cells #[string ⟨#[]⟩,int i64 0,int i64 0,string ⟨#[]⟩,int i64 0,int i64 0] 38)=W):=⟨_,rfl⟩
  have ad:Xr (ae [] wr W):=by show ae [] wr W;rw[<-HW.o];exact(bR.alloc _).alloc _
  have bv:Xr (W.heap[wr.heap.size]?=some (.cells #[slice none 0 0,int i64 0,string ⟨#[]⟩,int i64 0,int i64 0] 122)):=by
   show _=_;rw[<-HW.o];exact(bR.alloc _).get (Tu _ _) (by simp)
  have a4:Xr (W.heap[wr.heap.size+1]?=some (.cells #[string ⟨#[]⟩,int i64 0,int i64 0,string ⟨#[]⟩,int i64 0,int i64 0] 38)):=by
   show _=_;rw[<-HW.o];have:=Tu (wr.alloc (.cells #[slice none 0 0,int i64 0,string ⟨#[]⟩,int i64 0,int i64 0] 122)) (.cells #[string ⟨#[]⟩,int i64 0,int i64 0,string ⟨#[]⟩,int i64 0,int i64 0] 38);simpa using this
  have Q:Xr _:=D.o.XE ad.o;have U:Xr ((∀q,H.XS=some q->q<wr.heap.size)/\(∀q,A.XS=some q->q<wr.heap.size)/\v<wr.heap.size/\w.heap.size<=wr.heap.size):=⟨fun q B=>D.o.o1.lt B,fun q B=>D.o.o2.lt B,aj D.o.d,D.o.XR.size⟩
  have cq:Xr (∀P:World,ae [v] w P->P.cell? ⟨v,2,none⟩=some (pointer (some ⟨b,0,none⟩))->v<P.heap.size->∃gs,bd=some ⟨gs,0,none⟩/\gs<P.heap.size/\P.cell? ⟨b,1,none⟩=some (slice bd S.length cS)/\b<P.heap.size/\P.cell? ⟨gs,k*4+3,none⟩=some (string (aq S k).k)):=fun P kw _ _=>by
   have hd:=HD.o P kw;obtain⟨-,s0,hb⟩:=hd.cells;obtain⟨gs,e3,az,-,-,-,q3⟩:=hd.s.2 k S[k] (Tn C);rw[bW S k C]at q3;exact⟨gs,e3,az,s0,hb,q3⟩
  have bw:Xr (∀(P:World) f H l A,xa w P v b x0 x1 f H l A->P.cell? ⟨v,2,none⟩=some (pointer (some ⟨b,0,none⟩))/\v<P.heap.size):=fun P f H l A a=>⟨by rw[ah a.d];rfl,aj a.d⟩
  have cE:Xr (∀Z,ae [v] w Z->Calls prog 88 #[pointer (some ⟨b,0,none⟩),int i64 k] Z fun e P=>e=returned (string (bS T (aq S k)))/\ae [] Z P):=fun Z kx=>by
   have:=rA b k T ct cT S bd cS Z (HD.o Z kx) C (by rw[bW S k C];exact HA.o k C);rw[bW S k C]at this;exact this
  have dk:Xr _:=b3.o k C;have bx:Xr _:=b4.o k C;have ap:Xr (nO S X k=if((aq S k).k.toList == [36,112])=true then X k else Ku):=rfl;have V:Xr (mJ T S jr k=if((aq S k).k.toList == [36,97])=true then⟨bS T (aq S k),1,0,⟨#[]⟩,0,0⟩ else if((aq S k).k.toList == [36,112])=true then jr k else Qi):=rfl;have cj:Xr (∀x:jP×Hd,x.1=nO S X k->(f++[x]).map (·.1)=(List.range (k+1)).map (nO S X)):=fun x hx=>by rw[yl,Uh,cl.o,<-hx];rfl
  have ck:Xr (∀r,r=mJ T S jr k->l++[r]=(List.range (k+1)).map (mJ T S jr)):=fun r hr=>by rw[yl,hr,<-cR.o]
  have ch:Xr (∀(x:jP×Hd) (r:iq),(f++[x]).length=k+1/\(l++[r]).length=k+1):=fun x r=>⟨by rw[Tv,HL.o.1];rfl,by rw[Tv,HL.o.2];rfl⟩
  have cB:Xr (((aq S k).k.toList == [36,112])=true->my S k=true):=fun h=>h;obtain⟨lb,d3⟩:=bn (bS T (aq S k));rw[d3.o]at cE V;obtain⟨v2,vz⟩:=bw.o W _ _ _ _ Q.o;obtain⟨df,dg⟩:=bw.o wr _ _ _ _ D.o;obtain⟨gs,rfl,az,s0,ax,q3⟩:=cq.o W Q.o.XR v2 vz;obtain⟨eg,er,-,ec,d7,-⟩:=cq.o wr D.o.XR df dg;clear er;have d8:(0:Int)<=(k:Int):=by omega
  generalize (aq S k).k=sk at *;have s5:Xr ((gO f).n<=900000000):=by show f.length<=_;rw[HL.o.1];omega
  have s6:Xr ((gG l).n<=900000000):=by show l.length<=_;rw[HL.o.2];omega
  have co:Xr ((gO f).n=f.length):=rfl;have cp:Xr ((gG l).n=l.length):=rfl;go_upto_region 7 with fail
  rw[HW.o];clear df dg ec d7;have c0:Xr (di W (none:Xu) 6 lI ([]:List dj)):=by intro j x hx;cases hx
  have b5:Xr (LT w H A (Ku,⟨none,0⟩)):=by intro g e;cases e
  have cV:Xr (∀g,(none:Xu)=some ⟨g,0,none⟩->g<W.heap.size):=by intro g e;cases e
  cases cz:(sk.toList == [36,97])
  ·rw[cz,Tp (by simp)]at V;cases a0:(sk.toList == [36,112])
   ·rw[a0,Tp (by simp)]at V ap;(go_upto_region 13 with fail);clear v2 vz az s0 ax q3;obtain⟨⟨p0,p1,p2,p3,p4⟩,-,pz⟩:=yc bv.o;have v3:W.cell? ⟨v,3,none⟩=some (slice H.ao f.length H.cap):=by rw[ah Q.o.d];rfl
    have br:=aj Q.o.d;have al:=Q.o.o1;have bo:Xr (∀u∈([slice none 0 0,int i64 0,string ⟨#[]⟩,int i64 0,int i64 0]:List Value),u.oneCell'=true):=FX (Ku,⟨none,0⟩);go_region_law (refine bX W rfl (.tmp 77) (.tmp 79) 83 rfl iP (agg #[slice none 0 0,int i64 0,string ⟨#[]⟩,int i64 0,int i64 0]) 64 H (gO f) [slice none 0 0,int i64 0,string ⟨#[]⟩,int i64 0,int i64 0] underlying83 cu be bf bg rfl (show 0<5 by omega) (by rw[co.o];simp[Act.eval]) al s5.o (by omega) (by simp[Act.eval]) rfl bo.o ?_;intro G y w5 N I)
    all_goals
     rw[show([slice none 0 0,int i64 0,string ⟨#[]⟩,int i64 0,int i64 0]:List Value)=OI (Ku,⟨none,0⟩) from rfl,qT]at N;have c:Xr (xa w (w5.setCell ⟨v,3,none⟩ (slice G ((gO f).n+1) y)) v b x0 x1 (f++[(Ku,⟨none,0⟩)]) ⟨G,y⟩ l A):=Q.o.addP (Ku,⟨none,0⟩) c0.o b5.o cV.o I N ((gO f).n+1) rfl;obtain⟨X5,L⟩:=bn (w5.setCell ⟨v,3,none⟩ (slice G ((gO f).n+1) y));have d5:=I.XR.get Q.o.d (fun B=>by have:=Q.o.f1 _ (aQ B);have:=Q.o.lt;omega);have c5:w5.cell? ⟨v,3,none⟩=some (slice H.ao f.length H.cap):=by rw[ah d5];rfl
     have e5:=am d5 3;have ac:Xr (X5.heap[wr.heap.size+1]?=some (.cells #[string ⟨#[]⟩,int i64 0,int i64 0,string ⟨#[]⟩,int i64 0,int i64 0] 38)):=by
      show _=_;rw[<-L.o];exact((ae.refl [v] _).sl1 _).get (I.XR.get a4.o (fun B=>by have:=U.o.1 _ (aQ B);omega)) (by have:=U.o.2.2.1;simp;omega)
     rw[L.o]at c;clear v3 br p0 p1 p2 p3 p4 pz al N I d5;(go_upto_region 15 with fail);rw[L.o];clear c5 e5;obtain⟨⟨r0,r1,r2,r3,r4,r5⟩,-,rz⟩:=uw ac.o;have v4:X5.cell? ⟨v,4,none⟩=some (slice A.ao l.length A.cap):=by rw[ah c.o.d];rfl
     have bs:=aj c.o.d;have ai:=c.o.o2;have bp:Xr (∀u∈([string ⟨#[]⟩,int i64 0,int i64 0,string ⟨#[]⟩,int i64 0,int i64 0]:List Value),u.oneCell'=true):=Gl Qi;go_region_law (refine bX X5 rfl (.tmp 89) (.tmp 91) 54 rfl iR (agg #[string ⟨#[]⟩,int i64 0,int i64 0,string ⟨#[]⟩,int i64 0,int i64 0]) 64 A (gG l) [string ⟨#[]⟩,int i64 0,int i64 0,string ⟨#[]⟩,int i64 0,int i64 0] underlying54 cx bj bk bl rfl (show 0<6 by omega) (by rw[cp.o];simp[Act.eval]) ai s6.o (by omega) (by simp[Act.eval]) rfl bp.o ?_;intro bc ag w6 O M;have d6:=M.XR.get c.o.d (fun B=>by have:=c.o.f2 _ (aQ B);have:=c.o.lt;omega);have f6:=am d6 4;have c6:w6.cell? ⟨v,4,none⟩=some (slice A.ao l.length A.cap):=(by rw[ah d6];rfl);have z6:=aj d6)
     all_goals
      rw[show([string ⟨#[]⟩,int i64 0,int i64 0,string ⟨#[]⟩,int i64 0,int i64 0]:List Value)=lg Qi from rfl,ti]at O;have a7:Xr _:=c.o.addR Qi M O ((gG l).n+1) rfl;clear O M d6 f6 c6 z6 r0 r1 r2 r3 r4 r5 rz v4 bs ai;go_wp2;go_roundg (S.length-(k+1))
      ·exact⟨k+1,f++[(Ku,⟨none,0⟩)],l++[Qi],⟨G,y⟩,⟨bc,ag⟩,by omega,rfl,by go_num,ch.o _ _,cj.o _ ap.o.symm,ck.o _ V.o.symm,a7⟩
      omega
   ·rw[a0,Tr rfl]at V ap;have b0:Xr _:=dk.o (cB.o a0) W Q.o.XR;have aT:Xr _:=bx.o (cB.o a0);obtain⟨p,Hp⟩:=bn (X k);obtain⟨r,Hr⟩:=bn (jr k);rw[Hp.o]at b0 aT ap;rw[Hr.o]at aT V;obtain⟨ps,py,J,pl,pc⟩:=p;obtain⟨rl,rv,ry,K,rn,rc⟩:=r;simp only at aT;(go_upto_region 12 with (go_at_call 89;refine Ts b0.o ?_;rintro e w1 ⟨F,he,n1⟩;replace he:e=returned (agg #[slice F.ao ps.length F.cap,int i64 py,string J,int i64 pl,int i64 pc]):=he;subst he;obtain⟨⟨p0,p1,p2,p3,p4⟩,⟨f0,f1,f2,f3,f4⟩,pz⟩:=yc (n1.XR.get bv.o (by simp))));have B1:=ab (ab (ab (ab (ab (n1.XR.get bv.o (by simp)) 0 (slice F.ao ps.length F.cap)) 1 (int i64 py)) 2 (string J)) 3 (int i64 pl)) 4 (int i64 pc);obtain⟨X1,ar⟩:=bn (((((w1.setCell ⟨wr.heap.size,0,none⟩ (slice F.ao ps.length F.cap)).setCell ⟨wr.heap.size,1,none⟩ (int i64 py)).setCell ⟨wr.heap.size,2,none⟩ (string J)).setCell ⟨wr.heap.size,3,none⟩ (int i64 pl)).setCell ⟨wr.heap.size,4,none⟩ (int i64 pc));have af:Xr (ae [wr.heap.size] w1 X1):=(by show ae _ _ _;rw[<-ar.o];exact(((((ae.refl _ _).sl1 _).sl1 _).sl1 _).sl1 _).sl1 _);have bz:Xr (X1.heap[wr.heap.size]?=some (.cells #[slice F.ao ps.length F.cap,int i64 py,string J,int i64 pl,int i64 pc] 122)):=ci (by rw[<-ar.o];exact B1);have an:Xr (ae [] wr X1):=by
     have k:=ad.o.trans n1.XR
     exact⟨af.o.os.trans k.os,af.o.tape.trans k.tape,af.o.output.trans k.output,TF k.size af.o.size,fun q B _=>by
      have:=k.size;rw[af.o.block q (by omega) (by simp;omega),k.block q B (by simp)]⟩
    have R:Xr _:=D.o.XE an.o;have bT:Xr (X1.heap[wr.heap.size+1]?=some (.cells #[string ⟨#[]⟩,int i64 0,int i64 0,string ⟨#[]⟩,int i64 0,int i64 0] 38)):=af.o.get (n1.XR.get a4.o (by simp)) (by simp);have aS:Xr (∀g,F.ao=some ⟨g,0,none⟩->W.heap.size<=g/\g<w1.heap.size):=fun g e=>⟨n1.far g (A9 e),n1.X9.lt (A9 e)⟩
    have cs:Xr (wr.heap.size+1<W.heap.size):=aj a4.o;have b6:Xr (di X1 F.ao 6 lI ps):=(n1.X9.srcG Oc).keptS af.o (fun g e B=>by have:=aS.o g e;have:=cs.o;simp at B;omega);have d1:Xr (LT w H A (⟨ps,py,J,pl,pc⟩,F)):=fun g e=>by
     have h:=aS.o g e;have h':=cs.o;have eh:=U.o.2.2.2;exact⟨by omega,fun B=>by have:=U.o.1 g B;omega,fun B=>by have:=U.o.2.1 g B;omega⟩
    clear n1 B1 p0 p1 p2 p3 p4 f0 f1 f2 f3 f4 pz v2 vz az s0 ax q3;rw[ar.o];obtain⟨⟨p0,p1,p2,p3,p4⟩,-,pz⟩:=yc bz.o;obtain⟨v2,vz⟩:=bw.o X1 _ _ _ _ R.o;have dT:Xr (∀Y,ae [] X1 Y->(Y.cell? ⟨wr.heap.size+1,0,none⟩=some (string ⟨#[]⟩)/\Y.cell? ⟨wr.heap.size+1,1,none⟩=some (int i64 0)/\Y.cell? ⟨wr.heap.size+1,2,none⟩=some (int i64 0)/\Y.cell? ⟨wr.heap.size+1,3,none⟩=some (string ⟨#[]⟩)/\Y.cell? ⟨wr.heap.size+1,4,none⟩=some (int i64 0)/\Y.cell? ⟨wr.heap.size+1,5,none⟩=some (int i64 0))/\(Y.frozen? ⟨wr.heap.size+1,0,none⟩=false/\Y.frozen? ⟨wr.heap.size+1,1,none⟩=false/\Y.frozen? ⟨wr.heap.size+1,2,none⟩=false/\Y.frozen? ⟨wr.heap.size+1,3,none⟩=false/\Y.frozen? ⟨wr.heap.size+1,4,none⟩=false/\Y.frozen? ⟨wr.heap.size+1,5,none⟩=false)/\wr.heap.size+1<Y.heap.size):=fun Y k2=>uw (k2.get bT.o (by simp));go_region_with (go_at_call 90;refine(aT.o F _ (by exact R.o.XR.drew) (by exact b6.o.keptS (ae.refl [] X1).drew (by simp))).mono ?_;rintro e Y ⟨he,k2⟩;replace he:e=returned (agg #[string rl,int i64 rv,int i64 ry,string K,int i64 rn,int i64 rc]):=he;subst he;replace k2:=((ae.refl [] X1).drew).trans k2;obtain⟨⟨r0,r1,r2,r3,r4,r5⟩,⟨t0,t1,t2,t3,t4,t5⟩,rz⟩:=dT.o Y k2)
    all_goals
     have B2:=ab (ab (ab (ab (ab (ab (k2.get bT.o (by simp)) 0 (string rl)) 1 (int i64 rv)) 2 (int i64 ry)) 3 (string K)) 4 (int i64 rn)) 5 (int i64 rc);obtain⟨X2,av⟩:=bn ((((((Y.setCell ⟨wr.heap.size+1,0,none⟩ (string rl)).setCell ⟨wr.heap.size+1,1,none⟩ (int i64 rv)).setCell ⟨wr.heap.size+1,2,none⟩ (int i64 ry)).setCell ⟨wr.heap.size+1,3,none⟩ (string K)).setCell ⟨wr.heap.size+1,4,none⟩ (int i64 rn)).setCell ⟨wr.heap.size+1,5,none⟩ (int i64 rc));have E:Xr (ae [wr.heap.size+1] X1 X2):=(by show ae _ _ _;rw[<-av.o];exact((((((k2.mono (by simp)).sl1 _).sl1 _).sl1 _).sl1 _).sl1 _).sl1 _);have a5:Xr (X2.heap[wr.heap.size+1]?=some (.cells #[string rl,int i64 rv,int i64 ry,string K,int i64 rn,int i64 rc] 38)):=ci (by rw[<-av.o];exact B2);have a3:Xr _:=E.o.get bz.o (by simp)
     have cf:Xr (ae [] wr X2):=⟨E.o.os.trans an.o.os,E.o.tape.trans an.o.tape,E.o.output.trans an.o.output,TF an.o.size E.o.size,fun q B _=>by
      have:=an.o.size;rw[E.o.block q (by omega) (by simp;omega),an.o.block q B (by simp)]⟩
     have z:Xr _:=D.o.XE cf.o;have ba:Xr (di X2 F.ao 6 lI ps):=b6.o.keptS E.o (fun g e B=>by have:=aS.o g e;have:=cs.o;simp at B;omega);have d2:Xr (∀g,F.ao=some ⟨g,0,none⟩->g<X2.heap.size):=fun g e=>by have:=(aS.o g e).2;have:=af.o.size;have:=E.o.size;omega
     clear k2 B2 r0 r1 r2 r3 r4 r5 t0 t1 t2 t3 t4 t5 rz p0 p1 p2 p3 p4 pz v2 vz;(go_upto_region 13 with fail);rw[av.o];obtain⟨⟨p0,p1,p2,p3,p4⟩,-,pz⟩:=yc a3.o;have v3:X2.cell? ⟨v,3,none⟩=some (slice H.ao f.length H.cap):=by rw[ah z.o.d];rfl
     have br:=aj z.o.d;have al:=z.o.o1;have bo:Xr (∀u∈([slice F.ao ps.length F.cap,int i64 py,string J,int i64 pl,int i64 pc]:List Value),u.oneCell'=true):=FX (⟨ps,py,J,pl,pc⟩,F);go_region_law (refine bX X2 rfl (.tmp 77) (.tmp 79) 83 rfl iP (agg #[slice none 0 0,int i64 0,string ⟨#[]⟩,int i64 0,int i64 0]) 64 H (gO f) [slice F.ao ps.length F.cap,int i64 py,string J,int i64 pl,int i64 pc] underlying83 cu be bf bg rfl (show 0<5 by omega) (by rw[co.o];simp[Act.eval]) al s5.o (by omega) (by simp[Act.eval]) rfl bo.o ?_;intro G y w5 N I)
     all_goals
      rw[show([slice F.ao ps.length F.cap,int i64 py,string J,int i64 pl,int i64 pc]:List Value)=OI (⟨ps,py,J,pl,pc⟩,F) from rfl,qT]at N;have c:Xr (xa w (w5.setCell ⟨v,3,none⟩ (slice G ((gO f).n+1) y)) v b x0 x1 (f++[(⟨ps,py,J,pl,pc⟩,F)]) ⟨G,y⟩ l A):=z.o.addP (⟨ps,py,J,pl,pc⟩,F) ba.o d1.o d2.o I N ((gO f).n+1) rfl;obtain⟨X5,L⟩:=bn (w5.setCell ⟨v,3,none⟩ (slice G ((gO f).n+1) y));have d5:=I.XR.get z.o.d (fun B=>by have:=z.o.f1 _ (aQ B);have:=z.o.lt;omega);have c5:w5.cell? ⟨v,3,none⟩=some (slice H.ao f.length H.cap):=by rw[ah d5];rfl
      have e5:=am d5 3;have ac:Xr (X5.heap[wr.heap.size+1]?=some (.cells #[string rl,int i64 rv,int i64 ry,string K,int i64 rn,int i64 rc] 38)):=by
       show _=_;rw[<-L.o];exact((ae.refl [v] _).sl1 _).get (I.XR.get a5.o (fun B=>by have:=U.o.1 _ (aQ B);omega)) (by have:=U.o.2.2.1;simp;omega)
      rw[L.o]at c;clear v3 br p0 p1 p2 p3 p4 pz al N I d5;(go_upto_region 15 with fail);rw[L.o];clear c5 e5;obtain⟨⟨r0,r1,r2,r3,r4,r5⟩,-,rz⟩:=uw ac.o;have v4:X5.cell? ⟨v,4,none⟩=some (slice A.ao l.length A.cap):=by rw[ah c.o.d];rfl
      have bs:=aj c.o.d;have ai:=c.o.o2;have bp:Xr (∀u∈([string rl,int i64 rv,int i64 ry,string K,int i64 rn,int i64 rc]:List Value),u.oneCell'=true):=Gl ⟨rl,rv,ry,K,rn,rc⟩;go_region_law (refine bX X5 rfl (.tmp 89) (.tmp 91) 54 rfl iR (agg #[string ⟨#[]⟩,int i64 0,int i64 0,string ⟨#[]⟩,int i64 0,int i64 0]) 64 A (gG l) [string rl,int i64 rv,int i64 ry,string K,int i64 rn,int i64 rc] underlying54 cx bj bk bl rfl (show 0<6 by omega) (by rw[cp.o];simp[Act.eval]) ai s6.o (by omega) (by simp[Act.eval]) rfl bp.o ?_;intro bc ag w6 O M;have d6:=M.XR.get c.o.d (fun B=>by have:=c.o.f2 _ (aQ B);have:=c.o.lt;omega);have f6:=am d6 4;have c6:w6.cell? ⟨v,4,none⟩=some (slice A.ao l.length A.cap):=(by rw[ah d6];rfl);have z6:=aj d6)
      all_goals
       rw[show([string rl,int i64 rv,int i64 ry,string K,int i64 rn,int i64 rc]:List Value)=lg ⟨rl,rv,ry,K,rn,rc⟩ from rfl,ti]at O;have a7:Xr _:=c.o.addR ⟨rl,rv,ry,K,rn,rc⟩ M O ((gG l).n+1) rfl;clear O M d6 f6 c6 z6 r0 r1 r2 r3 r4 r5 rz v4 bs ai;go_wp2;go_roundg (S.length-(k+1))
       ·exact⟨k+1,f++[(⟨ps,py,J,pl,pc⟩,F)],l++[⟨rl,rv,ry,K,rn,rc⟩],⟨G,y⟩,⟨bc,ag⟩,by omega,rfl,by go_num,ch.o _ _,cj.o _ ap.o.symm,ck.o _ V.o.symm,a7⟩
       omega
  ·rw[cz,Tr rfl]at V;have a0:=Iy _ cz;rw[a0,Tp (by simp)]at ap;have cF:Xr _:=cE.o W Q.o.XR;(go_upto_region 9 with (go_at_call 88;refine Ts cF.o ?_;rintro e w1 ⟨rfl,k1⟩;obtain⟨⟨r0,r1,r2,r3,r4,r5⟩,⟨t0,t1,t2,t3,t4,t5⟩,rz⟩:=uw (k1.get a4.o (by simp))));have B1:=ab (k1.get a4.o (by simp)) 0 (string lb);have B2:=ab B1 1 (int i64 1);obtain⟨X1,ar⟩:=bn (w1.setCell ⟨wr.heap.size+1,0,none⟩ (string lb));rw[ar.o]at B1 B2;obtain⟨X2,av⟩:=bn (X1.setCell ⟨wr.heap.size+1,1,none⟩ (int i64 1));have E:Xr (ae [wr.heap.size+1] W X2):=(by show ae _ _ _;rw[<-av.o,<-ar.o];exact((k1.mono (by simp)).sl1 _).sl1 _);have a5:Xr (X2.heap[wr.heap.size+1]?=some (.cells #[string lb,int i64 1,int i64 0,string ⟨#[]⟩,int i64 0,int i64 0] 38)):=ci (by rw[<-av.o];exact B2);have a3:Xr _:=E.o.get bv.o (by simp)
   have cf:Xr (ae [] wr X2):=⟨E.o.os.trans ad.o.os,E.o.tape.trans ad.o.tape,E.o.output.trans ad.o.output,TF ad.o.size E.o.size,fun q B _=>by
    have:=ad.o.size;rw[E.o.block q (by omega) (by simp;omega),ad.o.block q B (by simp)]⟩
   have z:Xr _:=D.o.XE cf.o;have ba:Xr (di X2 (none:Xu) 6 lI ([]:List dj)):=(by intro j x hx;cases hx);have cX:Xr (∀g,(none:Xu)=some ⟨g,0,none⟩->g<X2.heap.size):=(by intro g e;cases e);rw[ar.o];clear r0 r1 r2 r3 r4 r5 t0 t1 t2 t3 t4 t5 rz k1 v2 vz az s0 ax q3;obtain⟨-,r1,-⟩:=JC B1;have t1:=am B1 1;have rz:=aj B1;clear B1 B2;(go_upto_region 10 with fail);rw[av.o];clear r1 t1 rz;obtain⟨v2,vz⟩:=bw.o X2 _ _ _ _ z.o;obtain⟨ef,d4,az,s0,ax,q3⟩:=cq.o X2 z.o.XR v2 vz;cases d4
   (go_upto_region 13 with fail);clear v2 vz az s0 ax q3;obtain⟨⟨p0,p1,p2,p3,p4⟩,-,pz⟩:=yc a3.o;have v3:X2.cell? ⟨v,3,none⟩=some (slice H.ao f.length H.cap):=by rw[ah z.o.d];rfl
   have br:=aj z.o.d;have al:=z.o.o1;have bo:Xr (∀u∈([slice none 0 0,int i64 0,string ⟨#[]⟩,int i64 0,int i64 0]:List Value),u.oneCell'=true):=FX (Ku,⟨none,0⟩);go_region_law (refine bX X2 rfl (.tmp 77) (.tmp 79) 83 rfl iP (agg #[slice none 0 0,int i64 0,string ⟨#[]⟩,int i64 0,int i64 0]) 64 H (gO f) [slice none 0 0,int i64 0,string ⟨#[]⟩,int i64 0,int i64 0] underlying83 cu be bf bg rfl (show 0<5 by omega) (by rw[co.o];simp[Act.eval]) al s5.o (by omega) (by simp[Act.eval]) rfl bo.o ?_;intro G y w5 N I)
   all_goals
    rw[show([slice none 0 0,int i64 0,string ⟨#[]⟩,int i64 0,int i64 0]:List Value)=OI (Ku,⟨none,0⟩) from rfl,qT]at N;have c:Xr (xa w (w5.setCell ⟨v,3,none⟩ (slice G ((gO f).n+1) y)) v b x0 x1 (f++[(Ku,⟨none,0⟩)]) ⟨G,y⟩ l A):=z.o.addP (Ku,⟨none,0⟩) ba.o b5.o cX.o I N ((gO f).n+1) rfl;obtain⟨X5,L⟩:=bn (w5.setCell ⟨v,3,none⟩ (slice G ((gO f).n+1) y));have d5:=I.XR.get z.o.d (fun B=>by have:=z.o.f1 _ (aQ B);have:=z.o.lt;omega);have c5:w5.cell? ⟨v,3,none⟩=some (slice H.ao f.length H.cap):=by rw[ah d5];rfl
    have e5:=am d5 3;have ac:Xr (X5.heap[wr.heap.size+1]?=some (.cells #[string lb,int i64 1,int i64 0,string ⟨#[]⟩,int i64 0,int i64 0] 38)):=by
     show _=_;rw[<-L.o];exact((ae.refl [v] _).sl1 _).get (I.XR.get a5.o (fun B=>by have:=U.o.1 _ (aQ B);omega)) (by have:=U.o.2.2.1;simp;omega)
    rw[L.o]at c;clear v3 br p0 p1 p2 p3 p4 pz al N I d5;(go_upto_region 15 with fail);rw[L.o];clear c5 e5;obtain⟨⟨r0,r1,r2,r3,r4,r5⟩,-,rz⟩:=uw ac.o;have v4:X5.cell? ⟨v,4,none⟩=some (slice A.ao l.length A.cap):=by rw[ah c.o.d];rfl
    have bs:=aj c.o.d;have ai:=c.o.o2;have bp:Xr (∀u∈([string lb,int i64 1,int i64 0,string ⟨#[]⟩,int i64 0,int i64 0]:List Value),u.oneCell'=true):=Gl ⟨lb,1,0,⟨#[]⟩,0,0⟩;go_region_law (refine bX X5 rfl (.tmp 89) (.tmp 91) 54 rfl iR (agg #[string ⟨#[]⟩,int i64 0,int i64 0,string ⟨#[]⟩,int i64 0,int i64 0]) 64 A (gG l) [string lb,int i64 1,int i64 0,string ⟨#[]⟩,int i64 0,int i64 0] underlying54 cx bj bk bl rfl (show 0<6 by omega) (by rw[cp.o];simp[Act.eval]) ai s6.o (by omega) (by simp[Act.eval]) rfl bp.o ?_;intro bc ag w6 O M;have d6:=M.XR.get c.o.d (fun B=>by have:=c.o.f2 _ (aQ B);have:=c.o.lt;omega);have f6:=am d6 4;have c6:w6.cell? ⟨v,4,none⟩=some (slice A.ao l.length A.cap):=(by rw[ah d6];rfl);have z6:=aj d6)
    all_goals
     rw[show([string lb,int i64 1,int i64 0,string ⟨#[]⟩,int i64 0,int i64 0]:List Value)=lg ⟨lb,1,0,⟨#[]⟩,0,0⟩ from rfl,ti]at O;have a7:Xr _:=c.o.addR ⟨lb,1,0,⟨#[]⟩,0,0⟩ M O ((gG l).n+1) rfl;clear O M d6 f6 c6 z6 r0 r1 r2 r3 r4 r5 rz v4 bs ai;go_wp2;go_roundg (S.length-(k+1))
     ·exact⟨k+1,f++[(Ku,⟨none,0⟩)],l++[⟨lb,1,0,⟨#[]⟩,0,0⟩],⟨G,y⟩,⟨bc,ag⟩,by omega,rfl,by go_num,ch.o _ _,cj.o _ ap.o.symm,ck.o _ V.o.symm,a7⟩
     omega
 ·have e:k=S.length:=by omega
  subst e;have dt:Xr (∀t,t<S.length->(hQ f t).1=nO S X t):=fun t ht=>by
   have H:=BI f t (by rw[HL.o.1];exact ht);have A:(f.map (·.1))[t]?=some (nO S X t):=(by rw[cl.o,Ua,Vg ht];rfl);rw[Ua,H]at A;exact UQ A
  have dv:Xr (∀a,a<S.length->∀t,t<=a->(hQ f t).1.st.length<=100000000/\∀i,i<(hQ f t).1.st.length->(bN (hQ f t).1.st i).ref<=(a:Int)):=fun a ha t ht=>by
   rw[dt.o t (by omega)];unfold nO;cases F:my S t
   ·rw[Tp (by simp)];exact⟨Uc _,fun i hi=>by cases hi⟩
   ·rw[Tr rfl];obtain⟨q1,q2⟩:=cP.o t (by omega) F;exact⟨q1,fun i hi=>by have:=q2 i hi;omega⟩
  have dp:Xr _:=HL.o.1;have cL:Xr _:=HL.o.2;have cA:Xr (oJ S f l l 0):=⟨rfl,fun _ _=>rfl,fun a h=>absurd h (Wn a),fun a h=>absurd h (Wn a)⟩;have v2:wr.cell? ⟨v,2,none⟩=some (pointer (some ⟨b,0,none⟩)):=by rw[ah D.o.d];rfl
  have vz:=aj D.o.d;obtain⟨-,s0,ax⟩:=(HD.o wr D.o.XR).cells;have el:¬(S.length:Int)<S.length:=by omega
  clear b3 b4 cP c7 HL C hk;go_wp2;clear v2 vz s0 ax
  go_loopg [6] l.length (fun g iv wr=>∃(k:Nat) (m:List iq),k<=l.length/\g=l.length-k/\iv=int i64 k/\Xr (oJ S f l m k)/\Xr (xa w wr v b x0 x1 f H m A))
  ·exact⟨0,l,by omega,rfl,rfl,cA,D⟩
  clear D cA;obtain⟨k,m,hk,ei,rfl,HF,Q⟩:=hrel;have cH:Xr _:=HF.o.len;have vz:=aj Q.o.d;by_cases C:k<m.length
  ·have dc:k<l.length:=(by rw[<-cH.o];exact C);have cy:k<S.length:=(by rw[<-cL.o];exact dc);have d9:k<f.length:=(by rw[dp.o];exact cy);obtain⟨g2,e2,c9,cc⟩:=Q.o.jds.r k _ (wT m k C);have a6:Xr _:=e2;have v4:wr.cell? ⟨v,4,none⟩=some (slice (some ⟨g2,0,none⟩) m.length A.cap):=(by rw[ah Q.o.d,<-e2];rfl);have c1:wr.cell? ⟨g2,k*6+1,none⟩=some (int i64 (dW m k).XF):=cc 1 _ rfl;clear e2 cc;have ds:Xr (dW l k=dW m k):=(HF.o.old k (Tq _)).symm;have dz:Xr _:=(v7 v b k T ct cT S bd cS x0 x1 f H.ao H.cap m A.ao A.cap wr (HD.o wr Q.o.XR) Q.o.jds d9 C cy (by omega) (fun j hj=>HA.o j (by omega)) (dv.o k cy));have ea:(k:Int)<m.length:=(by omega);have d8:(0:Int)<=(k:Int):=(by omega);have bx:Xr ((dW l k).XF=(dW m k).XF):=ci (by rw[ds.o]);generalize hvd:(dW m k).XF=vd at *;clear hvd;cases h4:(vd==4)
   ·have HM:Xr _:=HF.o.same (fun q=>by rw[bx.o]at q;rw[q.1]at h4;cases h4);go_wp2;go_roundg (l.length-(k+1))
    ·exact⟨k+1,m,by omega,rfl,by go_num,HM,Q⟩
    omega
   ·have d0:Xr ((dW l k).XF=4):=(by show _=_;rw[bx.o];exact Wh h4);(go_upto_region 21 with (go_at_call 68;refine Ts dz.o ?_;rintro e w1 ⟨eb,n1,n2,db,he,a1,a2⟩;obtain⟨nb,c2⟩:∃nb,Xr ((Cq T S m eb (k+1)).length=nb):=⟨_,rfl⟩;rw[c2.o]at he;subst he));have HG:Xr _:=OV (T:=T) HF.o db;rw[c2.o]at HG;have R:Xr _:=Q.o.XE a1.XR;clear db a1 a2 v4 c1 vz c9;cases nb with
    | zero =>
     have c9:=R.o.o2.lt (A9 a6.o);have vz:=aj R.o.d;have v4:w1.cell? ⟨v,4,none⟩=some (slice (some ⟨g2,0,none⟩) m.length A.cap):=(by rw[ah R.o.d,<-a6.o];rfl);obtain⟨g3,e3,-,cc⟩:=R.o.jds.r k _ (wT m k C);have e3:g3=g2:=(by have:=e3.symm.trans a6.o;cases this;rfl);subst e3;have c1:w1.cell? ⟨g3,k*6+1,none⟩=some (int i64 (dW m k).XF):=cc 1 _ rfl;have f1:w1.frozen? ⟨g3,k*6+1,none⟩=false:=DH R.o.o2 a6.o _;have HM:Xr _:=HF.o.turn dc d0.o (HG.o.1 rfl);have z:Xr _:=R.o.put a6.o k C 5;clear cc;go_wp2;go_roundg (l.length-(k+1))
     ·exact⟨k+1,_,by omega,rfl,by go_num,HM,z⟩
     omega
    | succ nb =>
     have HM:Xr _:=(HF.o.same (fun q=>by have:=HG.o.2 q.2;omega));go_wp2;go_roundg (l.length-(k+1))
     ·exact⟨k+1,m,by omega,rfl,by go_num,HM,R⟩
     omega
  ·have ek:k=l.length:=(by have:=cH.o;omega);subst ek;have ej:¬(l.length:Int)<m.length:=by omega
   have v4:wr.cell? ⟨v,4,none⟩=some (slice A.ao m.length A.cap):=(by rw[ah Q.o.d];rfl);have dl:Xr (oJ S f ((List.range S.length).map (mJ T S jr)) m S.length):=by
    have:=HF.o;rw[cL.o]at this;rw[<-cR.o];exact this
   go_wp2;go_end0;exact⟨f,H,A,m,rfl,cl.o,dl.o,Q.o⟩
end Go.Proofs.YtnbhnocdhbcbcaaGreat
