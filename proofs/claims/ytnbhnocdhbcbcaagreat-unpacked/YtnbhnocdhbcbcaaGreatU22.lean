import Derived.Test.YtnbhnocdhbcbcaaGreatU21
namespace Go.Proofs.YtnbhnocdhbcbcaaGreat
open Go.RowKit Tryz
open Value IntKind Ending
set_option maxHeartbeats 0
variable{b:World}{w S:Nat}{x y v d k:Value}{n:List Sm}{H:List (jW×Hd)}{l f:List iH}
def KY:jW:=⟨[],0,⟨#[]⟩,0,0⟩
def Ny(S:List Sm)(a:Nat):Bool:=(aq S a).k.toList == [36,97]
def mG(S:List Sm)(a:Nat):Bool:=(aq S a).k.toList == [36,112]
def pV(S:List Sm)(pf:Nat->jW)(a:Nat):jW:=if mG S a=true then pf a else KY
def mY(T:List Tk)(S:List Sm)(jr:Nat->iH)(a:Nat):iH:=if Ny S a=true then⟨bD T (aq S a),1,0,⟨#[]⟩,0,0⟩ else if mG S a=true then jr a else QG
theorem yI{α:Type}(f:Nat->α)(k:Nat):(List.range (k+1)).map f=(List.range k).map f++[f k]:=by
 rw[Vr,UJ];rfl
theorem Gr(x:jW×Hd):∀u∈Pb x,u.oneCell'=true:=by
 intro u a;unfold Pb at a;simp only[List.mem_cons,List.not_mem_nil,or_false]at a;rcases a with rfl | rfl | rfl | rfl | rfl <;> rfl
theorem GH(x:iH):∀u∈ln x,u.oneCell'=true:=by
 intro u a;unfold ln at a;simp only[List.mem_cons,List.not_mem_nil,or_false]at a;rcases a with rfl | rfl | rfl | rfl | rfl | rfl <;> rfl
theorem yB(h:b.heap[w]?=some (.cells #[x,y,v,d,k] 122)) :
  (b.cell? ⟨w,0,none⟩=some x/\b.cell? ⟨w,1,none⟩=some y/\b.cell? ⟨w,2,none⟩=some v/\b.cell? ⟨w,3,none⟩=some d/\b.cell? ⟨w,4,none⟩=some k) /\
  (b.frozen? ⟨w,0,none⟩=false/\b.frozen? ⟨w,1,none⟩=false/\b.frozen? ⟨w,2,none⟩=false/\b.frozen? ⟨w,3,none⟩=false/\b.frozen? ⟨w,4,none⟩=false)/\w<b.heap.size:=by
 refine⟨⟨?_,?_,?_,?_,?_⟩,⟨am h 0,am h 1,am h 2,am h 3,am h 4⟩,aj h⟩
 all_goals (rw[ah h];rfl)
theorem uB{a:Value}(h:b.heap[w]?=some (.cells #[x,y,v,d,k,a] 38)) :
  (b.cell? ⟨w,0,none⟩=some x/\b.cell? ⟨w,1,none⟩=some y/\b.cell? ⟨w,2,none⟩=some v/\b.cell? ⟨w,3,none⟩=some d/\b.cell? ⟨w,4,none⟩=some k/\b.cell? ⟨w,5,none⟩=some a) /\
  (b.frozen? ⟨w,0,none⟩=false/\b.frozen? ⟨w,1,none⟩=false/\b.frozen? ⟨w,2,none⟩=false/\b.frozen? ⟨w,3,none⟩=false/\b.frozen? ⟨w,4,none⟩=false/\b.frozen? ⟨w,5,none⟩=false)/\w<b.heap.size:=by
 refine⟨⟨?_,?_,?_,?_,?_,?_⟩,⟨am h 0,am h 1,am h 2,am h 3,am h 4,am h 5⟩,aj h⟩
 all_goals (rw[ah h];rfl)
def qm(S:List Sm)(PS:List (jW×Hd))(RS:List iH)(a:Nat):Prop:=∀t,t<=a->fk PS RS a t->mG S t=true->cG RS t=true
structure pI(S:List Sm)(PS:List (jW×Hd))(RS RS':List iH)(n:Nat):Prop where
 len:RS'.length=RS.length
 old:∀a,n<=a->eK RS' a=eK RS a
 yes:∀a,a<n->(eK RS a).Yi=4->qm S PS RS a->eK RS' a={ eK RS a with Yi:=5 }
 no:∀a,a<n->¬((eK RS a).Yi=4/\qm S PS RS a)->eK RS' a=eK RS a
theorem yW(b:List iH)(k a:Nat)(r:iH)(h:k<b.length):eK (b.set k r) a=if a=k then r else eK b a:=by
 unfold eK;rw[Uc,Ve,Uc];by_cases e:k=a
 ·subst e;rw[Uf rfl,Uf rfl,Uf h];rfl
 ·rw[Ud e,Ud (fun q=>e q.symm)]
theorem pI.same(h:pI n H l f w)(i:¬((eK l w).Yi=4/\qm n H l w)):pI n H l f (w+1) :=
 ⟨h.len,fun a d=>h.old a (by omega),fun a d c g=>by
  by_cases e:a=w
  ·subst e;exact absurd ⟨c,g⟩ i
  ·exact h.yes a (by omega) c g,fun a d b=>by
  by_cases e:a=w
  ·subst e;exact h.old a (Ue _)
  ·exact h.no a (by omega) b⟩
theorem pI.turn(h:pI n H l f w)(j:w<l.length)(g:(eK l w).Yi=4)(i:qm n H l w):pI n H l (f.set w { eK f w with Yi:=5 }) (w+1):=by
 have b:w<f.length:=by rw[h.len];exact j
 refine⟨by rw[UZ];exact h.len,fun a d=>?_,fun a d k m=>?_,fun a d c=>?_⟩
 ·rw[yW _ _ _ _ b,Ud (by omega)];exact h.old a (by omega)
 ·rw[yW _ _ _ _ b];by_cases e:a=w
  ·subst e;rw[Uf rfl,h.old a (Ue _)]
  ·rw[Ud e];exact h.yes a (by omega) k m
 ·rw[yW _ _ _ _ b];by_cases e:a=w
  ·subst e;exact absurd ⟨g,i⟩ c
  ·rw[Ud e];exact h.no a (by omega) c
theorem pI.sound(h:pI n H l f w)(t:Nat):cG f t=cG l t:=by
 by_cases a:t<w
 ·by_cases e:(eK l t).Yi=4/\qm n H l t
  ·unfold cG;rw[h.yes t a e.1 e.2,e.1];rfl
  ·unfold cG;rw[h.no t a e]
 ·unfold cG;rw[h.old t (by omega)]
theorem fk.of(d:∀t,cG f t=cG l t)(h:fk H f w S):fk H l w S:=by
 exact h _ fk.self (fun t S i e a b c=>fk.step e (by rw[<-d];exact a) b c)
theorem Pp{T:List Tk}(h:pI n H l f w){b:List Bool}(i:∀k,b.getD k false=true ↔ fk H f S k):(Ft T n f b (S+1)).length=0 ↔ qm n H l S:=by
 have c:=h.sound;unfold Ft;rw[Uy,Ws,Wx];constructor
 ·intro o t g p j;have d:fk H f S t:=fk.of (fun t=>(c t).symm) p;have:=o t (Up.2 (by omega));unfold SN at this;rw[(i t).2 d]at this;unfold mG at j;rw[j,c t]at this;cases e:cG l t
  ·rw[e]at this;exact absurd rfl this
  ·rfl
 ·intro m t g a;have g:=Up.1 g;unfold SN at a;rw[Ux,Ux]at a;have:=m t (by omega) (fk.of c ((i t).1 a.1)) a.2.1;rw[c t,this]at a;exact absurd a.2.2 (by simp)
theorem Ed{h:Hd}{r:ew}(o:aB b h r)(a:h.ao=some ⟨w,0,none⟩)(j:Nat):b.frozen? ⟨w,j,none⟩=false:=by
 rcases o.Ys with ⟨e,-,-⟩ | ⟨d,f,e,c,-⟩
 ·rw[e]at a;cases a
 ·rw[e]at a;cases a;exact am c j
def Mk(T:List Tk)(S:List Sm)(v b:Nat)(x0 x1:Value)(pf:Nat->jW)(jr:Nat->iH)(w:World)(e:Ending)(w':World):Prop :=
 ∃(PS:List (jW×Hd)) (h1 h2:Hd) (RS':List iH),e=returned (tuple #[])/\PS.map (·.1)=(List.range S.length).map (pV S pf)/\pI S PS ((List.range S.length).map (mY T S jr)) RS' S.length/\xj w w' v b x0 x1 PS h1 RS' h2
set_option maxRecDepth 100000
theorem FS(v b:Nat)(T:List Tk)(ct:Xu)(cT:Nat)(S:List Sm)(be:Xu)(cS:Nat)(x0 x1 y3 y4:Value)(X:Nat->jW)(jr:Nat->iH)(w:World)(hv:w.heap[v]?=some (.cells #[x0,x1,pointer (some ⟨b,0,none⟩),y3,y4] 85))(hD:∀Z,ae [v] w Z->ge Z b T ct cT S be cS)(hS:S.length<=10000)(hA:∀j,j<S.length->(aq S j).a<T.length)(cb:∀a,a<S.length->mG S a=true->∀Z,ae [v] w Z->Calls prog 89 #[pointer (some ⟨b,0,none⟩),int i64 a] Z fun e P=>pK Z (X a) e P)(ce:∀a,a<S.length->mG S a=true->∀(F:Hd) (Z:World),ae [v] w Z->cN Z F.ao 6 lp (X a).st->Calls prog 90 #[pointer (some ⟨b,0,none⟩),int i64 a,agg #[slice F.ao (X a).st.length F.cap,int i64 (X a).why,string (X a).YB,int i64 (X a).YC,int i64 (X a).YD]] Z fun e P=>Mp Z (jr a) e P)(c8:∀a,a<S.length->mG S a=true->(X a).st.length<=100000000/\∀i,i<(X a).st.length->(aQ (X a).st i).ref<=(a:Int)) :
  Calls prog 58 #[pointer (some ⟨v,0,none⟩)] w fun e P=>Mk T S v b x0 x1 X jr w e P:=by
 obtain⟨iP,cu,bf,bg,bj⟩:=UC RH;obtain⟨iR,cx,bk,bl,bo⟩:=UC IV;have b1:=ab hv 4 (slice none 0 0);have b2:=ab b1 3 (slice none 0 0);obtain⟨W0,cr⟩:=bm ((w.setCell ⟨v,4,none⟩ (slice none 0 0)).setCell ⟨v,3,none⟩ (slice none 0 0));have c7:Xr (xj w W0 v b x0 x1 [] ⟨none,0⟩ [] ⟨none,0⟩):=by
  refine⟨by rw[<-cr.o];exact b2,aj hv,Uj _ _ _ _,Uj _ _ _ _,(by intro k hk;cases hk),(by intro k hk;cases hk),(by intro k hk;cases hk),by rw[<-cr.o];exact((ae.refl [v] w).sl1 _).sl1 _,(by intro x hx;cases hx),(by intro x hx;cases hx)⟩
 obtain⟨-,-,-,-,c4⟩:=lr hv;have e4:=am hv 4;have c3:(w.setCell ⟨v,4,none⟩ (slice none 0 0)).cell? ⟨v,3,none⟩=some y3:=by rw[ah b1];rfl
 have e3:=am b1 3;have HD:Xr _:=hD;have HA:Xr _:=hA;have b4:Xr _:=cb;have b5:Xr _:=ce;have cP:Xr _:=c8;clear hD hA cb ce c8 b1 b2 hv;go_enter func58,ntmps58;go_upto_region 2 with fail
 rw[cr.o];clear c4 e4 c3 e3;go_wp2
 go_loopg [2] S.length (fun g iv wr=>∃(k:Nat) (f:List (jW×Hd)) (l:List iH) (H A:Hd),k<=S.length/\g=S.length-k/\iv=int i64 k/\Xr (f.length=k/\l.length=k)/\Xr (f.map (·.1)=(List.range k).map (pV S X))/\Xr (l=(List.range k).map (mY T S jr))/\Xr (xj w wr v b x0 x1 f H l A))
 ·exact⟨0,[],[],⟨none,0⟩,⟨none,0⟩,by omega,rfl,rfl,⟨rfl,rfl⟩,rfl,rfl,c7⟩
 obtain⟨k,f,l,H,A,hk,hg,rfl,HL,cl,cR,D⟩:=hrel;rcases kn k S.length with ⟨C,eb⟩ | ⟨C,-⟩
 ·obtain⟨W,HW⟩:∃W,Xr ((wr.alloc (.cells #[slice none 0 0,int i64 0,string ⟨#[]⟩,int i64 0,int i64 0] 122)).alloc (.cells #[string ⟨#[]⟩,int i64 0,int i64 0,string ⟨#[]⟩,int i64 0,int i64 0] 38)=W):=⟨_,rfl⟩
  have ad:Xr (ae [] wr W):=by show ae [] wr W;rw[<-HW.o];exact(bM.alloc _).alloc _
  have bw:Xr (W.heap[wr.heap.size]?=some (.cells #[slice none 0 0,int i64 0,string ⟨#[]⟩,int i64 0,int i64 0] 122)):=by
   show _=_;rw[<-HW.o];exact(bM.alloc _).get (Ui _ _) (by simp)
  have a5:Xr (W.heap[wr.heap.size+1]?=some (.cells #[string ⟨#[]⟩,int i64 0,int i64 0,string ⟨#[]⟩,int i64 0,int i64 0] 38)):=by
   show _=_;rw[<-HW.o];have:=Ui (wr.alloc (.cells #[slice none 0 0,int i64 0,string ⟨#[]⟩,int i64 0,int i64 0] 122)) (.cells #[string ⟨#[]⟩,int i64 0,int i64 0,string ⟨#[]⟩,int i64 0,int i64 0] 38);simpa using this
  have Q:Xr _:=D.o.Yh ad.o;have U:Xr ((∀q,H.Yv=some q->q<wr.heap.size)/\(∀q,A.Yv=some q->q<wr.heap.size)/\v<wr.heap.size/\w.heap.size<=wr.heap.size):=⟨fun q B=>D.o.o1.lt B,fun q B=>D.o.o2.lt B,aj D.o.d,D.o.Yu.size⟩
  have cq:Xr (∀P:World,ae [v] w P->P.cell? ⟨v,2,none⟩=some (pointer (some ⟨b,0,none⟩))->v<P.heap.size->∃gs,be=some ⟨gs,0,none⟩/\gs<P.heap.size/\P.cell? ⟨b,1,none⟩=some (slice be S.length cS)/\b<P.heap.size/\P.cell? ⟨gs,k*4+3,none⟩=some (string (aq S k).k)):=fun P kw _ _=>by
   have hd:=HD.o P kw;obtain⟨-,s0,hb⟩:=hd.cells;obtain⟨gs,e3,aS,-,-,-,q3⟩:=hd.s.2 k S[k] (Ub C);rw[bX S k C]at q3;exact⟨gs,e3,aS,s0,hb,q3⟩
  have bx:Xr (∀(P:World) f H l A,xj w P v b x0 x1 f H l A->P.cell? ⟨v,2,none⟩=some (pointer (some ⟨b,0,none⟩))/\v<P.heap.size):=fun P f H l A a=>⟨by rw[ah a.d];rfl,aj a.d⟩
  have cE:Xr (∀Z,ae [v] w Z->Calls prog 88 #[pointer (some ⟨b,0,none⟩),int i64 k] Z fun e P=>e=returned (string (bD T (aq S k)))/\ae [] Z P):=fun Z kx=>by
   have:=pj b k T ct cT S be cS Z (HD.o Z kx) C (by rw[bX S k C];exact HA.o k C);rw[bX S k C]at this;exact this
  have dl:Xr _:=b4.o k C;have bz:Xr _:=b5.o k C;have ap:Xr (pV S X k=if((aq S k).k.toList == [36,112])=true then X k else KY):=rfl;have V:Xr (mY T S jr k=if((aq S k).k.toList == [36,97])=true then⟨bD T (aq S k),1,0,⟨#[]⟩,0,0⟩ else if((aq S k).k.toList == [36,112])=true then jr k else QG):=rfl;have cj:Xr (∀x:jW×Hd,x.1=pV S X k->(f++[x]).map (·.1)=(List.range (k+1)).map (pV S X)):=fun x hx=>by rw[yI,UJ,cl.o,<-hx];rfl
  have ck:Xr (∀r,r=mY T S jr k->l++[r]=(List.range (k+1)).map (mY T S jr)):=fun r hr=>by rw[yI,hr,<-cR.o]
  have ch:Xr (∀(x:jW×Hd) (r:iH),(f++[x]).length=k+1/\(l++[r]).length=k+1):=fun x r=>⟨by rw[Uh,HL.o.1];rfl,by rw[Uh,HL.o.2];rfl⟩
  have cB:Xr (((aq S k).k.toList == [36,112])=true->mG S k=true):=fun h=>h;obtain⟨lb,d4⟩:=bm (bD T (aq S k));rw[d4.o]at cE V;obtain⟨v2,vz⟩:=bx.o W _ _ _ _ Q.o;obtain⟨dg,dk⟩:=bx.o wr _ _ _ _ D.o;obtain⟨gs,rfl,aS,s0,az,q3⟩:=cq.o W Q.o.Yu v2 vz;obtain⟨eh,er,-,ef,d8,-⟩:=cq.o wr D.o.Yu dg dk;clear er;have d9:(0:Int)<=(k:Int):=by omega
  generalize (aq S k).k=sk at *;have s5:Xr ((gK f).n<=900000000):=by show f.length<=_;rw[HL.o.1];omega
  have s6:Xr ((gD l).n<=900000000):=by show l.length<=_;rw[HL.o.2];omega
  have co:Xr ((gK f).n=f.length):=rfl;have cp:Xr ((gD l).n=l.length):=rfl;go_upto_region 7 with fail
  rw[HW.o];clear dg dk ef d8;have c0:Xr (cN W (none:Xu) 6 lp ([]:List ci)):=by intro j x hx;cases hx
  have b6:Xr (Mj w H A (KY,⟨none,0⟩)):=by intro g e;cases e
  have cV:Xr (∀g,(none:Xu)=some ⟨g,0,none⟩->g<W.heap.size):=by intro g e;cases e
  cases cz:(sk.toList == [36,97])
  ·rw[cz,Ud (by simp)]at V;cases a3:(sk.toList == [36,112])
   ·rw[a3,Ud (by simp)]at V ap;(go_upto_region 13 with fail);clear v2 vz aS s0 az q3;obtain⟨⟨p0,p1,p2,p3,p4⟩,-,pz⟩:=yB bw.o;have v3:W.cell? ⟨v,3,none⟩=some (slice H.ao f.length H.cap):=by rw[ah Q.o.d];rfl
    have bs:=aj Q.o.d;have al:=Q.o.o1;have bp:Xr (∀u∈([slice none 0 0,int i64 0,string ⟨#[]⟩,int i64 0,int i64 0]:List Value),u.oneCell'=true):=Gr (KY,⟨none,0⟩);go_region_law (refine bY W rfl (.tmp 77) (.tmp 79) 83 rfl iP (agg #[slice none 0 0,int i64 0,string ⟨#[]⟩,int i64 0,int i64 0]) 64 H (gK f) [slice none 0 0,int i64 0,string ⟨#[]⟩,int i64 0,int i64 0] underlying83 cu bf bg bj rfl (show 0<5 by omega) (by rw[co.o];simp[Act.eval]) al s5.o (by omega) (by simp[Act.eval]) rfl bp.o ?_;intro G y w5 N I)
    all_goals
     rw[show([slice none 0 0,int i64 0,string ⟨#[]⟩,int i64 0,int i64 0]:List Value)=Pb (KY,⟨none,0⟩) from rfl,qZ]at N;have c:Xr (xj w (w5.setCell ⟨v,3,none⟩ (slice G ((gK f).n+1) y)) v b x0 x1 (f++[(KY,⟨none,0⟩)]) ⟨G,y⟩ l A):=Q.o.addP (KY,⟨none,0⟩) c0.o b6.o cV.o I N ((gK f).n+1) rfl;obtain⟨X5,L⟩:=bm (w5.setCell ⟨v,3,none⟩ (slice G ((gK f).n+1) y));have d5:=I.Yu.get Q.o.d (fun B=>by have:=Q.o.f1 _ (aR B);have:=Q.o.lt;omega);have c5:w5.cell? ⟨v,3,none⟩=some (slice H.ao f.length H.cap):=by rw[ah d5];rfl
     have e5:=am d5 3;have ac:Xr (X5.heap[wr.heap.size+1]?=some (.cells #[string ⟨#[]⟩,int i64 0,int i64 0,string ⟨#[]⟩,int i64 0,int i64 0] 38)):=by
      show _=_;rw[<-L.o];exact((ae.refl [v] _).sl1 _).get (I.Yu.get a5.o (fun B=>by have:=U.o.1 _ (aR B);omega)) (by have:=U.o.2.2.1;simp;omega)
     rw[L.o]at c;clear v3 bs p0 p1 p2 p3 p4 pz al N I d5;(go_upto_region 15 with fail);rw[L.o];clear c5 e5;obtain⟨⟨r0,r1,r2,r3,r4,r5⟩,-,rz⟩:=uB ac.o;have v4:X5.cell? ⟨v,4,none⟩=some (slice A.ao l.length A.cap):=by rw[ah c.o.d];rfl
     have bv:=aj c.o.d;have ai:=c.o.o2;have br:Xr (∀u∈([string ⟨#[]⟩,int i64 0,int i64 0,string ⟨#[]⟩,int i64 0,int i64 0]:List Value),u.oneCell'=true):=GH QG;go_region_law (refine bY X5 rfl (.tmp 89) (.tmp 91) 54 rfl iR (agg #[string ⟨#[]⟩,int i64 0,int i64 0,string ⟨#[]⟩,int i64 0,int i64 0]) 64 A (gD l) [string ⟨#[]⟩,int i64 0,int i64 0,string ⟨#[]⟩,int i64 0,int i64 0] underlying54 cx bk bl bo rfl (show 0<6 by omega) (by rw[cp.o];simp[Act.eval]) ai s6.o (by omega) (by simp[Act.eval]) rfl br.o ?_;intro bd ag w6 O M;have d6:=M.Yu.get c.o.d (fun B=>by have:=c.o.f2 _ (aR B);have:=c.o.lt;omega);have f6:=am d6 4;have c6:w6.cell? ⟨v,4,none⟩=some (slice A.ao l.length A.cap):=(by rw[ah d6];rfl);have z6:=aj d6)
     all_goals
      rw[show([string ⟨#[]⟩,int i64 0,int i64 0,string ⟨#[]⟩,int i64 0,int i64 0]:List Value)=ln QG from rfl,ti]at O;have ba:Xr _:=c.o.addR QG M O ((gD l).n+1) rfl;clear O M d6 f6 c6 z6 r0 r1 r2 r3 r4 r5 rz v4 bv ai;go_wp2;go_roundg (S.length-(k+1))
      ·exact⟨k+1,f++[(KY,⟨none,0⟩)],l++[QG],⟨G,y⟩,⟨bd,ag⟩,by omega,rfl,by go_num,ch.o _ _,cj.o _ ap.o.symm,ck.o _ V.o.symm,ba⟩
      omega
   ·rw[a3,Uf rfl]at V ap;have b3:Xr _:=dl.o (cB.o a3) W Q.o.Yu;have a0:Xr _:=bz.o (cB.o a3);obtain⟨p,Hp⟩:=bm (X k);obtain⟨r,Hr⟩:=bm (jr k);rw[Hp.o]at b3 a0 ap;rw[Hr.o]at a0 V;obtain⟨ps,py,J,pl,pc⟩:=p;obtain⟨rl,rv,ry,K,rn,rc⟩:=r;simp only at a0;(go_upto_region 12 with (go_at_call 89;refine Ug b3.o ?_;rintro e w1 ⟨F,he,n1⟩;replace he:e=returned (agg #[slice F.ao ps.length F.cap,int i64 py,string J,int i64 pl,int i64 pc]):=he;subst he;obtain⟨⟨p0,p1,p2,p3,p4⟩,⟨f0,f1,f2,f3,f4⟩,pz⟩:=yB (n1.Yu.get bw.o (by simp))));have B1:=ab (ab (ab (ab (ab (n1.Yu.get bw.o (by simp)) 0 (slice F.ao ps.length F.cap)) 1 (int i64 py)) 2 (string J)) 3 (int i64 pl)) 4 (int i64 pc);obtain⟨X1,ar⟩:=bm (((((w1.setCell ⟨wr.heap.size,0,none⟩ (slice F.ao ps.length F.cap)).setCell ⟨wr.heap.size,1,none⟩ (int i64 py)).setCell ⟨wr.heap.size,2,none⟩ (string J)).setCell ⟨wr.heap.size,3,none⟩ (int i64 pl)).setCell ⟨wr.heap.size,4,none⟩ (int i64 pc));have af:Xr (ae [wr.heap.size] w1 X1):=(by show ae _ _ _;rw[<-ar.o];exact(((((ae.refl _ _).sl1 _).sl1 _).sl1 _).sl1 _).sl1 _);have bT:Xr (X1.heap[wr.heap.size]?=some (.cells #[slice F.ao ps.length F.cap,int i64 py,string J,int i64 pl,int i64 pc] 122)):=cM (by rw[<-ar.o];exact B1);have an:Xr (ae [] wr X1):=by
     have k:=ad.o.trans n1.Yu
     exact⟨af.o.os.trans k.os,af.o.tape.trans k.tape,af.o.output.trans k.output,Un k.size af.o.size,fun q B _=>by
      have:=k.size;rw[af.o.block q (by omega) (by simp;omega),k.block q B (by simp)]⟩
    have R:Xr _:=D.o.Yh an.o;have b0:Xr (X1.heap[wr.heap.size+1]?=some (.cells #[string ⟨#[]⟩,int i64 0,int i64 0,string ⟨#[]⟩,int i64 0,int i64 0] 38)):=af.o.get (n1.Yu.get a5.o (by simp)) (by simp);have aT:Xr (∀g,F.ao=some ⟨g,0,none⟩->W.heap.size<=g/\g<w1.heap.size):=fun g e=>⟨n1.far g (Bs e),n1.YF.lt (Bs e)⟩
    have cs:Xr (wr.heap.size+1<W.heap.size):=aj a5.o;have ca:Xr (cN X1 F.ao 6 lp ps):=(n1.YF.srcG Ox).keptS af.o (fun g e B=>by have:=aT.o g e;have:=cs.o;simp at B;omega);have d2:Xr (Mj w H A (⟨ps,py,J,pl,pc⟩,F)):=fun g e=>by
     have h:=aT.o g e;have h':=cs.o;have ei:=U.o.2.2.2;exact⟨by omega,fun B=>by have:=U.o.1 g B;omega,fun B=>by have:=U.o.2.1 g B;omega⟩
    clear n1 B1 p0 p1 p2 p3 p4 f0 f1 f2 f3 f4 pz v2 vz aS s0 az q3;rw[ar.o];obtain⟨⟨p0,p1,p2,p3,p4⟩,-,pz⟩:=yB bT.o;obtain⟨v2,vz⟩:=bx.o X1 _ _ _ _ R.o;have d0:Xr (∀Y,ae [] X1 Y->(Y.cell? ⟨wr.heap.size+1,0,none⟩=some (string ⟨#[]⟩)/\Y.cell? ⟨wr.heap.size+1,1,none⟩=some (int i64 0)/\Y.cell? ⟨wr.heap.size+1,2,none⟩=some (int i64 0)/\Y.cell? ⟨wr.heap.size+1,3,none⟩=some (string ⟨#[]⟩)/\Y.cell? ⟨wr.heap.size+1,4,none⟩=some (int i64 0)/\Y.cell? ⟨wr.heap.size+1,5,none⟩=some (int i64 0))/\(Y.frozen? ⟨wr.heap.size+1,0,none⟩=false/\Y.frozen? ⟨wr.heap.size+1,1,none⟩=false/\Y.frozen? ⟨wr.heap.size+1,2,none⟩=false/\Y.frozen? ⟨wr.heap.size+1,3,none⟩=false/\Y.frozen? ⟨wr.heap.size+1,4,none⟩=false/\Y.frozen? ⟨wr.heap.size+1,5,none⟩=false)/\wr.heap.size+1<Y.heap.size):=fun Y k2=>uB (k2.get b0.o (by simp));go_region_with (go_at_call 90;refine(a0.o F _ (by exact R.o.Yu.drew) (by exact ca.o.keptS (ae.refl [] X1).drew (by simp))).mono ?_;rintro e Y ⟨he,k2⟩;replace he:e=returned (agg #[string rl,int i64 rv,int i64 ry,string K,int i64 rn,int i64 rc]):=he;subst he;replace k2:=((ae.refl [] X1).drew).trans k2;obtain⟨⟨r0,r1,r2,r3,r4,r5⟩,⟨t0,t1,t2,t3,t4,t5⟩,rz⟩:=d0.o Y k2)
    all_goals
     have B2:=ab (ab (ab (ab (ab (ab (k2.get b0.o (by simp)) 0 (string rl)) 1 (int i64 rv)) 2 (int i64 ry)) 3 (string K)) 4 (int i64 rn)) 5 (int i64 rc);obtain⟨X2,ax⟩:=bm ((((((Y.setCell ⟨wr.heap.size+1,0,none⟩ (string rl)).setCell ⟨wr.heap.size+1,1,none⟩ (int i64 rv)).setCell ⟨wr.heap.size+1,2,none⟩ (int i64 ry)).setCell ⟨wr.heap.size+1,3,none⟩ (string K)).setCell ⟨wr.heap.size+1,4,none⟩ (int i64 rn)).setCell ⟨wr.heap.size+1,5,none⟩ (int i64 rc));have E:Xr (ae [wr.heap.size+1] X1 X2):=(by show ae _ _ _;rw[<-ax.o];exact((((((k2.mono (by simp)).sl1 _).sl1 _).sl1 _).sl1 _).sl1 _).sl1 _);have a6:Xr (X2.heap[wr.heap.size+1]?=some (.cells #[string rl,int i64 rv,int i64 ry,string K,int i64 rn,int i64 rc] 38)):=cM (by rw[<-ax.o];exact B2);have a4:Xr _:=E.o.get bT.o (by simp)
     have cf:Xr (ae [] wr X2):=⟨E.o.os.trans an.o.os,E.o.tape.trans an.o.tape,E.o.output.trans an.o.output,Un an.o.size E.o.size,fun q B _=>by
      have:=an.o.size;rw[E.o.block q (by omega) (by simp;omega),an.o.block q B (by simp)]⟩
     have z:Xr _:=D.o.Yh cf.o;have bc:Xr (cN X2 F.ao 6 lp ps):=ca.o.keptS E.o (fun g e B=>by have:=aT.o g e;have:=cs.o;simp at B;omega);have d3:Xr (∀g,F.ao=some ⟨g,0,none⟩->g<X2.heap.size):=fun g e=>by have:=(aT.o g e).2;have:=af.o.size;have:=E.o.size;omega
     clear k2 B2 r0 r1 r2 r3 r4 r5 t0 t1 t2 t3 t4 t5 rz p0 p1 p2 p3 p4 pz v2 vz;(go_upto_region 13 with fail);rw[ax.o];obtain⟨⟨p0,p1,p2,p3,p4⟩,-,pz⟩:=yB a4.o;have v3:X2.cell? ⟨v,3,none⟩=some (slice H.ao f.length H.cap):=by rw[ah z.o.d];rfl
     have bs:=aj z.o.d;have al:=z.o.o1;have bp:Xr (∀u∈([slice F.ao ps.length F.cap,int i64 py,string J,int i64 pl,int i64 pc]:List Value),u.oneCell'=true):=Gr (⟨ps,py,J,pl,pc⟩,F);go_region_law (refine bY X2 rfl (.tmp 77) (.tmp 79) 83 rfl iP (agg #[slice none 0 0,int i64 0,string ⟨#[]⟩,int i64 0,int i64 0]) 64 H (gK f) [slice F.ao ps.length F.cap,int i64 py,string J,int i64 pl,int i64 pc] underlying83 cu bf bg bj rfl (show 0<5 by omega) (by rw[co.o];simp[Act.eval]) al s5.o (by omega) (by simp[Act.eval]) rfl bp.o ?_;intro G y w5 N I)
     all_goals
      rw[show([slice F.ao ps.length F.cap,int i64 py,string J,int i64 pl,int i64 pc]:List Value)=Pb (⟨ps,py,J,pl,pc⟩,F) from rfl,qZ]at N;have c:Xr (xj w (w5.setCell ⟨v,3,none⟩ (slice G ((gK f).n+1) y)) v b x0 x1 (f++[(⟨ps,py,J,pl,pc⟩,F)]) ⟨G,y⟩ l A):=z.o.addP (⟨ps,py,J,pl,pc⟩,F) bc.o d2.o d3.o I N ((gK f).n+1) rfl;obtain⟨X5,L⟩:=bm (w5.setCell ⟨v,3,none⟩ (slice G ((gK f).n+1) y));have d5:=I.Yu.get z.o.d (fun B=>by have:=z.o.f1 _ (aR B);have:=z.o.lt;omega);have c5:w5.cell? ⟨v,3,none⟩=some (slice H.ao f.length H.cap):=by rw[ah d5];rfl
      have e5:=am d5 3;have ac:Xr (X5.heap[wr.heap.size+1]?=some (.cells #[string rl,int i64 rv,int i64 ry,string K,int i64 rn,int i64 rc] 38)):=by
       show _=_;rw[<-L.o];exact((ae.refl [v] _).sl1 _).get (I.Yu.get a6.o (fun B=>by have:=U.o.1 _ (aR B);omega)) (by have:=U.o.2.2.1;simp;omega)
      rw[L.o]at c;clear v3 bs p0 p1 p2 p3 p4 pz al N I d5;(go_upto_region 15 with fail);rw[L.o];clear c5 e5;obtain⟨⟨r0,r1,r2,r3,r4,r5⟩,-,rz⟩:=uB ac.o;have v4:X5.cell? ⟨v,4,none⟩=some (slice A.ao l.length A.cap):=by rw[ah c.o.d];rfl
      have bv:=aj c.o.d;have ai:=c.o.o2;have br:Xr (∀u∈([string rl,int i64 rv,int i64 ry,string K,int i64 rn,int i64 rc]:List Value),u.oneCell'=true):=GH ⟨rl,rv,ry,K,rn,rc⟩;go_region_law (refine bY X5 rfl (.tmp 89) (.tmp 91) 54 rfl iR (agg #[string ⟨#[]⟩,int i64 0,int i64 0,string ⟨#[]⟩,int i64 0,int i64 0]) 64 A (gD l) [string rl,int i64 rv,int i64 ry,string K,int i64 rn,int i64 rc] underlying54 cx bk bl bo rfl (show 0<6 by omega) (by rw[cp.o];simp[Act.eval]) ai s6.o (by omega) (by simp[Act.eval]) rfl br.o ?_;intro bd ag w6 O M;have d6:=M.Yu.get c.o.d (fun B=>by have:=c.o.f2 _ (aR B);have:=c.o.lt;omega);have f6:=am d6 4;have c6:w6.cell? ⟨v,4,none⟩=some (slice A.ao l.length A.cap):=(by rw[ah d6];rfl);have z6:=aj d6)
      all_goals
       rw[show([string rl,int i64 rv,int i64 ry,string K,int i64 rn,int i64 rc]:List Value)=ln ⟨rl,rv,ry,K,rn,rc⟩ from rfl,ti]at O;have ba:Xr _:=c.o.addR ⟨rl,rv,ry,K,rn,rc⟩ M O ((gD l).n+1) rfl;clear O M d6 f6 c6 z6 r0 r1 r2 r3 r4 r5 rz v4 bv ai;go_wp2;go_roundg (S.length-(k+1))
       ·exact⟨k+1,f++[(⟨ps,py,J,pl,pc⟩,F)],l++[⟨rl,rv,ry,K,rn,rc⟩],⟨G,y⟩,⟨bd,ag⟩,by omega,rfl,by go_num,ch.o _ _,cj.o _ ap.o.symm,ck.o _ V.o.symm,ba⟩
       omega
  ·rw[cz,Uf rfl]at V;have a3:=IX _ cz;rw[a3,Ud (by simp)]at ap;have cF:Xr _:=cE.o W Q.o.Yu;(go_upto_region 9 with (go_at_call 88;refine Ug cF.o ?_;rintro e w1 ⟨rfl,k1⟩;obtain⟨⟨r0,r1,r2,r3,r4,r5⟩,⟨t0,t1,t2,t3,t4,t5⟩,rz⟩:=uB (k1.get a5.o (by simp))));have B1:=ab (k1.get a5.o (by simp)) 0 (string lb);have B2:=ab B1 1 (int i64 1);obtain⟨X1,ar⟩:=bm (w1.setCell ⟨wr.heap.size+1,0,none⟩ (string lb));rw[ar.o]at B1 B2;obtain⟨X2,ax⟩:=bm (X1.setCell ⟨wr.heap.size+1,1,none⟩ (int i64 1));have E:Xr (ae [wr.heap.size+1] W X2):=(by show ae _ _ _;rw[<-ax.o,<-ar.o];exact((k1.mono (by simp)).sl1 _).sl1 _);have a6:Xr (X2.heap[wr.heap.size+1]?=some (.cells #[string lb,int i64 1,int i64 0,string ⟨#[]⟩,int i64 0,int i64 0] 38)):=cM (by rw[<-ax.o];exact B2);have a4:Xr _:=E.o.get bw.o (by simp)
   have cf:Xr (ae [] wr X2):=⟨E.o.os.trans ad.o.os,E.o.tape.trans ad.o.tape,E.o.output.trans ad.o.output,Un ad.o.size E.o.size,fun q B _=>by
    have:=ad.o.size;rw[E.o.block q (by omega) (by simp;omega),ad.o.block q B (by simp)]⟩
   have z:Xr _:=D.o.Yh cf.o;have bc:Xr (cN X2 (none:Xu) 6 lp ([]:List ci)):=(by intro j x hx;cases hx);have cX:Xr (∀g,(none:Xu)=some ⟨g,0,none⟩->g<X2.heap.size):=(by intro g e;cases e);rw[ar.o];clear r0 r1 r2 r3 r4 r5 t0 t1 t2 t3 t4 t5 rz k1 v2 vz aS s0 az q3;obtain⟨-,r1,-⟩:=JX B1;have t1:=am B1 1;have rz:=aj B1;clear B1 B2;(go_upto_region 10 with fail);rw[ax.o];clear r1 t1 rz;obtain⟨v2,vz⟩:=bx.o X2 _ _ _ _ z.o;obtain⟨eg,d7,aS,s0,az,q3⟩:=cq.o X2 z.o.Yu v2 vz;cases d7
   (go_upto_region 13 with fail);clear v2 vz aS s0 az q3;obtain⟨⟨p0,p1,p2,p3,p4⟩,-,pz⟩:=yB a4.o;have v3:X2.cell? ⟨v,3,none⟩=some (slice H.ao f.length H.cap):=by rw[ah z.o.d];rfl
   have bs:=aj z.o.d;have al:=z.o.o1;have bp:Xr (∀u∈([slice none 0 0,int i64 0,string ⟨#[]⟩,int i64 0,int i64 0]:List Value),u.oneCell'=true):=Gr (KY,⟨none,0⟩);go_region_law (refine bY X2 rfl (.tmp 77) (.tmp 79) 83 rfl iP (agg #[slice none 0 0,int i64 0,string ⟨#[]⟩,int i64 0,int i64 0]) 64 H (gK f) [slice none 0 0,int i64 0,string ⟨#[]⟩,int i64 0,int i64 0] underlying83 cu bf bg bj rfl (show 0<5 by omega) (by rw[co.o];simp[Act.eval]) al s5.o (by omega) (by simp[Act.eval]) rfl bp.o ?_;intro G y w5 N I)
   all_goals
    rw[show([slice none 0 0,int i64 0,string ⟨#[]⟩,int i64 0,int i64 0]:List Value)=Pb (KY,⟨none,0⟩) from rfl,qZ]at N;have c:Xr (xj w (w5.setCell ⟨v,3,none⟩ (slice G ((gK f).n+1) y)) v b x0 x1 (f++[(KY,⟨none,0⟩)]) ⟨G,y⟩ l A):=z.o.addP (KY,⟨none,0⟩) bc.o b6.o cX.o I N ((gK f).n+1) rfl;obtain⟨X5,L⟩:=bm (w5.setCell ⟨v,3,none⟩ (slice G ((gK f).n+1) y));have d5:=I.Yu.get z.o.d (fun B=>by have:=z.o.f1 _ (aR B);have:=z.o.lt;omega);have c5:w5.cell? ⟨v,3,none⟩=some (slice H.ao f.length H.cap):=by rw[ah d5];rfl
    have e5:=am d5 3;have ac:Xr (X5.heap[wr.heap.size+1]?=some (.cells #[string lb,int i64 1,int i64 0,string ⟨#[]⟩,int i64 0,int i64 0] 38)):=by
     show _=_;rw[<-L.o];exact((ae.refl [v] _).sl1 _).get (I.Yu.get a6.o (fun B=>by have:=U.o.1 _ (aR B);omega)) (by have:=U.o.2.2.1;simp;omega)
    rw[L.o]at c;clear v3 bs p0 p1 p2 p3 p4 pz al N I d5;(go_upto_region 15 with fail);rw[L.o];clear c5 e5;obtain⟨⟨r0,r1,r2,r3,r4,r5⟩,-,rz⟩:=uB ac.o;have v4:X5.cell? ⟨v,4,none⟩=some (slice A.ao l.length A.cap):=by rw[ah c.o.d];rfl
    have bv:=aj c.o.d;have ai:=c.o.o2;have br:Xr (∀u∈([string lb,int i64 1,int i64 0,string ⟨#[]⟩,int i64 0,int i64 0]:List Value),u.oneCell'=true):=GH ⟨lb,1,0,⟨#[]⟩,0,0⟩;go_region_law (refine bY X5 rfl (.tmp 89) (.tmp 91) 54 rfl iR (agg #[string ⟨#[]⟩,int i64 0,int i64 0,string ⟨#[]⟩,int i64 0,int i64 0]) 64 A (gD l) [string lb,int i64 1,int i64 0,string ⟨#[]⟩,int i64 0,int i64 0] underlying54 cx bk bl bo rfl (show 0<6 by omega) (by rw[cp.o];simp[Act.eval]) ai s6.o (by omega) (by simp[Act.eval]) rfl br.o ?_;intro bd ag w6 O M;have d6:=M.Yu.get c.o.d (fun B=>by have:=c.o.f2 _ (aR B);have:=c.o.lt;omega);have f6:=am d6 4;have c6:w6.cell? ⟨v,4,none⟩=some (slice A.ao l.length A.cap):=(by rw[ah d6];rfl);have z6:=aj d6)
    all_goals
     rw[show([string lb,int i64 1,int i64 0,string ⟨#[]⟩,int i64 0,int i64 0]:List Value)=ln ⟨lb,1,0,⟨#[]⟩,0,0⟩ from rfl,ti]at O;have ba:Xr _:=c.o.addR ⟨lb,1,0,⟨#[]⟩,0,0⟩ M O ((gD l).n+1) rfl;clear O M d6 f6 c6 z6 r0 r1 r2 r3 r4 r5 rz v4 bv ai;go_wp2;go_roundg (S.length-(k+1))
     ·exact⟨k+1,f++[(KY,⟨none,0⟩)],l++[⟨lb,1,0,⟨#[]⟩,0,0⟩],⟨G,y⟩,⟨bd,ag⟩,by omega,rfl,by go_num,ch.o _ _,cj.o _ ap.o.symm,ck.o _ V.o.symm,ba⟩
     omega
 ·have e:k=S.length:=by omega
  subst e;have dv:Xr (∀t,t<S.length->(g9 f t).1=pV S X t):=fun t ht=>by
   have H:=un f t (by rw[HL.o.1];exact ht);have A:(f.map (·.1))[t]?=some (pV S X t):=(by rw[cl.o,UL,V7 ht];rfl);rw[UL,H]at A;exact Vw A
  have dz:Xr (∀a,a<S.length->∀t,t<=a->(g9 f t).1.st.length<=100000000/\∀i,i<(g9 f t).1.st.length->(aQ (g9 f t).1.st i).ref<=(a:Int)):=fun a ha t ht=>by
   rw[dv.o t (by omega)];unfold pV;cases F:mG S t
   ·rw[Ud (by simp)];exact⟨UF _,fun i hi=>by cases hi⟩
   ·rw[Uf rfl];obtain⟨q1,q2⟩:=cP.o t (by omega) F;exact⟨q1,fun i hi=>by have:=q2 i hi;omega⟩
  have ds:Xr _:=HL.o.1;have cL:Xr _:=HL.o.2;have cA:Xr (pI S f l l 0):=⟨rfl,fun _ _=>rfl,fun a h=>absurd h (WU a),fun a h=>absurd h (WU a)⟩;have v2:wr.cell? ⟨v,2,none⟩=some (pointer (some ⟨b,0,none⟩)):=by rw[ah D.o.d];rfl
  have vz:=aj D.o.d;obtain⟨-,s0,az⟩:=(HD.o wr D.o.Yu).cells;have em:¬(S.length:Int)<S.length:=by omega
  clear b4 b5 cP c7 HL C hk;go_wp2;clear v2 vz s0 az
  go_loopg [6] l.length (fun g iv wr=>∃(k:Nat) (m:List iH),k<=l.length/\g=l.length-k/\iv=int i64 k/\Xr (pI S f l m k)/\Xr (xj w wr v b x0 x1 f H m A))
  ·exact⟨0,l,by omega,rfl,rfl,cA,D⟩
  clear D cA;obtain⟨k,m,hk,ej,rfl,HF,Q⟩:=hrel;have cH:Xr _:=HF.o.len;have vz:=aj Q.o.d;by_cases C:k<m.length
  ·have df:k<l.length:=(by rw[<-cH.o];exact C);have cy:k<S.length:=(by rw[<-cL.o];exact df);have ea:k<f.length:=(by rw[ds.o];exact cy);obtain⟨g2,e2,c9,cc⟩:=Q.o.jds.r k _ (Cp m k C);have a7:Xr _:=e2;have v4:wr.cell? ⟨v,4,none⟩=some (slice (some ⟨g2,0,none⟩) m.length A.cap):=(by rw[ah Q.o.d,<-e2];rfl);have c1:wr.cell? ⟨g2,k*6+1,none⟩=some (int i64 (eK m k).Yi):=cc 1 _ rfl;clear e2 cc;have dt:Xr (eK l k=eK m k):=(HF.o.old k (Ue _)).symm;have dT:Xr _:=(En v b k T ct cT S be cS x0 x1 f H.ao H.cap m A.ao A.cap wr (HD.o wr Q.o.Yu) Q.o.jds ea C cy (by omega) (fun j hj=>HA.o j (by omega)) (dz.o k cy));have eb:(k:Int)<m.length:=(by omega);have d9:(0:Int)<=(k:Int):=(by omega);have bz:Xr ((eK l k).Yi=(eK m k).Yi):=cM (by rw[dt.o]);generalize hvd:(eK m k).Yi=vd at *;clear hvd;cases h4:(vd==4)
   ·have HM:Xr _:=HF.o.same (fun q=>by rw[bz.o]at q;rw[q.1]at h4;cases h4);go_wp2;go_roundg (l.length-(k+1))
    ·exact⟨k+1,m,by omega,rfl,by go_num,HM,Q⟩
    omega
   ·have d1:Xr ((eK l k).Yi=4):=(by show _=_;rw[bz.o];exact WP h4);(go_upto_region 21 with (go_at_call 68;refine Ug dT.o ?_;rintro e w1 ⟨ec,n1,n2,db,he,a1,a2⟩;obtain⟨nb,c2⟩:∃nb,Xr ((Ft T S m ec (k+1)).length=nb):=⟨_,rfl⟩;rw[c2.o]at he;subst he));have HG:Xr _:=Pp (T:=T) HF.o db;rw[c2.o]at HG;have R:Xr _:=Q.o.Yh a1.Yu;clear db a1 a2 v4 c1 vz c9;cases nb with
    | zero =>
     have c9:=R.o.o2.lt (Bs a7.o);have vz:=aj R.o.d;have v4:w1.cell? ⟨v,4,none⟩=some (slice (some ⟨g2,0,none⟩) m.length A.cap):=(by rw[ah R.o.d,<-a7.o];rfl);obtain⟨g3,e3,-,cc⟩:=R.o.jds.r k _ (Cp m k C);have e3:g3=g2:=(by have:=e3.symm.trans a7.o;cases this;rfl);subst e3;have c1:w1.cell? ⟨g3,k*6+1,none⟩=some (int i64 (eK m k).Yi):=cc 1 _ rfl;have f1:w1.frozen? ⟨g3,k*6+1,none⟩=false:=Ed R.o.o2 a7.o _;have HM:Xr _:=HF.o.turn df d1.o (HG.o.1 rfl);have z:Xr _:=R.o.put a7.o k C 5;clear cc;go_wp2;go_roundg (l.length-(k+1))
     ·exact⟨k+1,_,by omega,rfl,by go_num,HM,z⟩
     omega
    | succ nb =>
     have HM:Xr _:=(HF.o.same (fun q=>by have:=HG.o.2 q.2;omega));go_wp2;go_roundg (l.length-(k+1))
     ·exact⟨k+1,m,by omega,rfl,by go_num,HM,R⟩
     omega
  ·have ek:k=l.length:=(by have:=cH.o;omega);subst ek;have el:¬(l.length:Int)<m.length:=by omega
   have v4:wr.cell? ⟨v,4,none⟩=some (slice A.ao m.length A.cap):=(by rw[ah Q.o.d];rfl);have dp:Xr (pI S f ((List.range S.length).map (mY T S jr)) m S.length):=by
    have:=HF.o;rw[cL.o]at this;rw[<-cR.o];exact this
   go_wp2;go_end0;exact⟨f,H,A,m,rfl,cl.o,dp.o,Q.o⟩
end Go.Proofs.YtnbhnocdhbcbcaaGreat
