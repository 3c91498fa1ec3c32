import Derived.Test.YtpdholcaobgofaaGreatP22
namespace Go.Proofs.YtpdholcaobgofaaGreat
open Go.RowKit Tryz
open Value IntKind Ending
set_option maxHeartbeats 0
variable{b:World}{w S:Nat}{x y v d k:Value}{n:List Sm}{H:List (lF×Hd)}{l f:List j4}
def OQ:lF:=⟨[],0,⟨#[]⟩,0,0⟩
def Vx(S:List Sm)(a:Nat):Bool:=(ay S a).k.toList == [36,97]
def xF(S:List Sm)(a:Nat):Bool:=(ay S a).k.toList == [36,112]
def Cl(S:List Sm)(pf:Nat->lF)(a:Nat):lF:=if xF S a=true then pf a else OQ
def rJ(T:List Tk)(S:List Sm)(jr:Nat->j4)(a:Nat):j4:=if Vx S a=true then⟨bP T (ay S a),1,0,⟨#[]⟩,0,0⟩ else if xF S a=true then jr a else Wm
theorem AV{α:Type}(f:Nat->α)(k:Nat):(List.range (k+1)).map f=(List.range k).map f++[f k]:=by
 rw[YG,Yj];rfl
theorem KC(x:lF×Hd):∀u∈VZ x,u.oneCell'=true:=by
 intro u a;unfold VZ at a;simp only[List.mem_cons,List.not_mem_nil,or_false]at a;rcases a with rfl | rfl | rfl | rfl | rfl <;> rfl
theorem La(x:j4):∀u∈lZ x,u.oneCell'=true:=by
 intro u a;unfold lZ at a;simp only[List.mem_cons,List.not_mem_nil,or_false]at a;rcases a with rfl | rfl | rfl | rfl | rfl | rfl <;> rfl
theorem AM(h:b.heap[w]?=some (.cells #[x,y,v,d,k] 122)) :
  (b.cell? ⟨w,0,none⟩=some x/\b.cell? ⟨w,1,none⟩=some y/\b.cell? ⟨w,2,none⟩=some v/\b.cell? ⟨w,3,none⟩=some d/\b.cell? ⟨w,4,none⟩=some k) /\
  (b.frozen? ⟨w,0,none⟩=false/\b.frozen? ⟨w,1,none⟩=false/\b.frozen? ⟨w,2,none⟩=false/\b.frozen? ⟨w,3,none⟩=false/\b.frozen? ⟨w,4,none⟩=false)/\w<b.heap.size:=by
 refine⟨⟨?_,?_,?_,?_,?_⟩,⟨zcW h 0,zcW h 1,zcW h 2,zcW h 3,zcW h 4⟩,ah h⟩
 all_goals (rw[ab h];rfl)
theorem wR{a:Value}(h:b.heap[w]?=some (.cells #[x,y,v,d,k,a] 38)) :
  (b.cell? ⟨w,0,none⟩=some x/\b.cell? ⟨w,1,none⟩=some y/\b.cell? ⟨w,2,none⟩=some v/\b.cell? ⟨w,3,none⟩=some d/\b.cell? ⟨w,4,none⟩=some k/\b.cell? ⟨w,5,none⟩=some a) /\
  (b.frozen? ⟨w,0,none⟩=false/\b.frozen? ⟨w,1,none⟩=false/\b.frozen? ⟨w,2,none⟩=false/\b.frozen? ⟨w,3,none⟩=false/\b.frozen? ⟨w,4,none⟩=false/\b.frozen? ⟨w,5,none⟩=false)/\w<b.heap.size:=by
 refine⟨⟨?_,?_,?_,?_,?_,?_⟩,⟨zcW h 0,zcW h 1,zcW h 2,zcW h 3,zcW h 4,zcW h 5⟩,ah h⟩
 all_goals (rw[ab h];rfl)
def zD(S:List Sm)(PS:List (lF×Hd))(RS:List j4)(a:Nat):Prop:=∀t,t<=a->kP PS RS a t->xF S t=true->il RS t=true
structure sD(S:List Sm)(PS:List (lF×Hd))(RS RS':List j4)(n:Nat):Prop where
 len:RS'.length=RS.length
 old:∀a,n<=a->gi RS' a=gi RS a
 yes:∀a,a<n->(gi RS a).Zbk=4->zD S PS RS a->gi RS' a={ gi RS a with Zbk:=5 }
 no:∀a,a<n->¬((gi RS a).Zbk=4/\zD S PS RS a)->gi RS' a=gi RS a
theorem Bk(b:List j4)(k a:Nat)(r:j4)(h:k<b.length):gi (b.set k r) a=if a=k then r else gi b a:=by
 unfold gi;rw[Xw,Yv,Xw];by_cases e:k=a
 ·subst e;rw[XA rfl,XA rfl,XA h];rfl
 ·rw[Xz e,Xz (fun q=>e q.symm)]
theorem sD.same(h:sD n H l f w)(i:¬((gi l w).Zbk=4/\zD n H l w)):sD n H l f (w+1) :=
 ⟨h.len,fun a d=>h.old a (by omega),fun a d c g=>by
  by_cases e:a=w
  ·subst e;exact absurd ⟨c,g⟩ i
  ·exact h.yes a (by omega) c g,fun a d b=>by
  by_cases e:a=w
  ·subst e;exact h.old a (Xy _)
  ·exact h.no a (by omega) b⟩
theorem sD.turn(h:sD n H l f w)(k:w<l.length)(i:(gi l w).Zbk=4)(j:zD n H l w):sD n H l (f.set w { gi f w with Zbk:=5 }) (w+1):=by
 have b:w<f.length:=by rw[h.len];exact k
 refine⟨by rw[Yq];exact h.len,fun a d=>?_,fun a d m o=>?_,fun a d c=>?_⟩
 ·rw[Bk _ _ _ _ b,Xz (by omega)];exact h.old a (by omega)
 ·rw[Bk _ _ _ _ b];by_cases e:a=w
  ·subst e;rw[XA rfl,h.old a (Xy _)]
  ·rw[Xz e];exact h.yes a (by omega) m o
 ·rw[Bk _ _ _ _ b];by_cases e:a=w
  ·subst e;exact absurd ⟨i,j⟩ c
  ·rw[Xz e];exact h.no a (by omega) c
theorem sD.sound(h:sD n H l f w)(t:Nat):il f t=il l t:=by
 by_cases a:t<w
 ·by_cases e:(gi l t).Zbk=4/\zD n H l t
  ·unfold il;rw[h.yes t a e.1 e.2,e.1];rfl
  ·unfold il;rw[h.no t a e]
 ·unfold il;rw[h.old t (by omega)]
theorem kP.of(d:∀t,il f t=il l t)(h:kP H f w S):kP H l w S:=by
 exact h _ kP.self (fun t S i e a b c=>kP.step e (by rw[<-d];exact a) b c)
theorem UP{T:List Tk}(h:sD n H l f w){b:List Bool}(i:∀k,b.getD k false=true ↔ kP H f S k):(JH T n f b (S+1)).length=0 ↔ zD n H l S:=by
 have c:=h.sound;unfold JH;rw[XZ,Zan,ZE];constructor
 ·intro o t g p j;have d:kP H f S t:=kP.of (fun t=>(c t).symm) p;have:=o t (XI.2 (by omega));unfold bdP at this;rw[(i t).2 d]at this;unfold xF at j;rw[j,c t]at this;cases e:il l t
  ·rw[e]at this;exact absurd rfl this
  ·rfl
 ·intro m t g a;have g:=XI.1 g;unfold bdP at a;rw[XU,XU]at a;have:=m t (by omega) (kP.of c ((i t).1 a.1)) a.2.1;rw[c t,this]at a;exact absurd a.2.2 (by simp)
theorem Hw{h:Hd}{r:eD}(o:aD b h r)(a:h.ao=some ⟨w,0,none⟩)(j:Nat):b.frozen? ⟨w,j,none⟩=false:=by
 rcases o.Zbu with ⟨e,-,-⟩ | ⟨d,f,e,c,-⟩
 ·rw[e]at a;cases a
 ·rw[e]at a;cases a;exact zcW c j
def Qv(T:List Tk)(S:List Sm)(v b:Nat)(x0 x1:Value)(pf:Nat->lF)(jr:Nat->j4)(w:World)(e:Ending)(w':World):Prop :=
 ∃(PS:List (lF×Hd)) (h1 h2:Hd) (RS':List j4),e=returned (tuple #[])/\PS.map (·.1)=(List.range S.length).map (Cl S pf)/\sD S PS ((List.range S.length).map (rJ T S jr)) RS' S.length/\zF w w' v b x0 x1 PS h1 RS' h2
set_option maxRecDepth 100000
theorem Kb(v b:Nat)(T:List Tk)(cj:Xt)(cT:Nat)(S:List Sm)(ba:Xt)(cS:Nat)(x0 x1 y3 y4:Value)(X:Nat->lF)(jr:Nat->j4)(w:World)(hv:w.heap[v]?=some (.cells #[x0,x1,pointer (some ⟨b,0,none⟩),y3,y4] 85))(hD:∀Z,aa [v] w Z->gM Z b T cj cT S ba cS)(hS:S.length<=10000)(hA:∀j,j<S.length->(ay S j).a<T.length)(b3:∀a,a<S.length->xF S a=true->∀Z,aa [v] w Z->Calls prog 87 #[pointer (some ⟨b,0,none⟩),int i64 a] Z fun e P=>rh Z (X a) e P)(b4:∀a,a<S.length->xF S a=true->∀(F:Hd) (Z:World),aa [v] w Z->cW Z F.ao 6 mG (X a).st->Calls prog 88 #[pointer (some ⟨b,0,none⟩),int i64 a,agg #[slice F.ao (X a).st.length F.cap,int i64 (X a).why,string (X a).ZbD,int i64 (X a).ZbE,int i64 (X a).ZbF]] Z fun e P=>QC Z (jr a) e P)(cP:∀a,a<S.length->xF S a=true->(X a).st.length<=100000000/\∀i,i<(X a).st.length->(cn (X a).st i).ref<=(a:Int)) :
  Calls prog 56 #[pointer (some ⟨v,0,none⟩)] w fun e P=>Qv T S v b x0 x1 X jr w e P:=by
 obtain⟨iP,ck,bc,bd,be⟩:=XV zaA;obtain⟨iR,cl,bf,bg,bj⟩:=XV Mx;have b1:=ae hv 4 (slice none 0 0);have b2:=ae b1 3 (slice none 0 0);obtain⟨W0,cg⟩:=aP ((w.setCell ⟨v,4,none⟩ (slice none 0 0)).setCell ⟨v,3,none⟩ (slice none 0 0));have cL:Xq (zF w W0 v b x0 x1 [] ⟨none,0⟩ [] ⟨none,0⟩):=by
  refine⟨by rw[<-cg.o];exact b2,ah hv,XE _ _ _ _,XE _ _ _ _,(by intro k hk;cases hk),(by intro k hk;cases hk),(by intro k hk;cases hk),by rw[<-cg.o];exact((aa.refl [v] w).sl1 _).sl1 _,(by intro x hx;cases hx),(by intro x hx;cases hx)⟩
 obtain⟨-,-,-,-,c4⟩:=nJ hv;have e4:=zcW hv 4;have c3:(w.setCell ⟨v,4,none⟩ (slice none 0 0)).cell? ⟨v,3,none⟩=some y3:=by rw[ab b1];rfl
 have e3:=zcW b1 3;have HD:Xq _:=hD;have HA:Xq _:=hA;have bx:Xq _:=b3;have bz:Xq _:=b4;have cz:Xq _:=cP;clear hD hA b3 b4 cP b1 b2 hv;go_enter func56,ntmps56;go_upto_region 2 with fail
 rw[cg.o];clear c4 e4 c3 e3;go_wp2
 go_loopg [2] S.length (fun g iv wr=>∃(k:Nat) (f:List (lF×Hd)) (l:List j4) (H A:Hd),k<=S.length/\g=S.length-k/\iv=int i64 k/\Xq (f.length=k/\l.length=k)/\Xq (f.map (·.1)=(List.range k).map (Cl S X))/\Xq (l=(List.range k).map (rJ T S jr))/\Xq (zF w wr v b x0 x1 f H l A))
 ·exact⟨0,[],[],⟨none,0⟩,⟨none,0⟩,by omega,rfl,rfl,⟨rfl,rfl⟩,rfl,rfl,cL⟩
 obtain⟨k,f,l,H,A,hk,hg,rfl,HL,ca,cA,D⟩:=hrel;rcases kn k S.length with ⟨C,d3⟩ | ⟨C,-⟩
 ·obtain⟨W,HW⟩:∃W,Xq ((wr.alloc (.cells #[slice none 0 0,int i64 0,string ⟨#[]⟩,int i64 0,int i64 0] 122)).alloc (.cells #[string ⟨#[]⟩,int i64 0,int i64 0,string ⟨#[]⟩,int i64 0,int i64 0] 38)=W):=⟨_,rfl⟩
  have ad:Xq (aa [] wr W):=by show aa [] wr W;rw[<-HW.o];exact(bH.alloc _).alloc _
  have bp:Xq (W.heap[wr.heap.size]?=some (.cells #[slice none 0 0,int i64 0,string ⟨#[]⟩,int i64 0,int i64 0] 122)):=by
   show _=_;rw[<-HW.o];exact(bH.alloc _).get (XD _ _) (by simp)
  have a0:Xq (W.heap[wr.heap.size+1]?=some (.cells #[string ⟨#[]⟩,int i64 0,int i64 0,string ⟨#[]⟩,int i64 0,int i64 0] 38)):=by
   show _=_;rw[<-HW.o];have:=XD (wr.alloc (.cells #[slice none 0 0,int i64 0,string ⟨#[]⟩,int i64 0,int i64 0] 122)) (.cells #[string ⟨#[]⟩,int i64 0,int i64 0,string ⟨#[]⟩,int i64 0,int i64 0] 38);simpa using this
  have Q:Xq _:=D.o.Zbj ad.o;have U:Xq ((∀q,H.Zbx=some q->q<wr.heap.size)/\(∀q,A.Zbx=some q->q<wr.heap.size)/\v<wr.heap.size/\w.heap.size<=wr.heap.size):=⟨fun q B=>D.o.o1.lt B,fun q B=>D.o.o2.lt B,ah D.o.d,D.o.Zbw.size⟩
  have cf:Xq (∀P:World,aa [v] w P->P.cell? ⟨v,2,none⟩=some (pointer (some ⟨b,0,none⟩))->v<P.heap.size->∃gs,ba=some ⟨gs,0,none⟩/\gs<P.heap.size/\P.cell? ⟨b,1,none⟩=some (slice ba S.length cS)/\b<P.heap.size/\P.cell? ⟨gs,k*4+3,none⟩=some (string (ay S k).k)):=fun P kw _ _=>by
   have hd:=HD.o P kw;obtain⟨-,s0,hb⟩:=hd.cells;obtain⟨gs,e3,av,-,-,-,q3⟩:=hd.s.2 k S[k] (Xv C);rw[bA S k C]at q3;exact⟨gs,e3,av,s0,hb,q3⟩
  have bq:Xq (∀(P:World) f H l A,zF w P v b x0 x1 f H l A->P.cell? ⟨v,2,none⟩=some (pointer (some ⟨b,0,none⟩))/\v<P.heap.size):=fun P f H l A a=>⟨by rw[ab a.d];rfl,ah a.d⟩
  have cu:Xq (∀Z,aa [v] w Z->Calls prog 86 #[pointer (some ⟨b,0,none⟩),int i64 k] Z fun e P=>e=returned (string (bP T (ay S k)))/\aa [] Z P):=fun Z kx=>by
   have:=oN b k T cj cT S ba cS Z (HD.o Z kx) C (by rw[bA S k C];exact HA.o k C);rw[bA S k C]at this;exact this
  have c7:Xq _:=bx.o k C;have br:Xq _:=bz.o k C;have an:Xq (Cl S X k=if((ay S k).k.toList == [36,112])=true then X k else OQ):=rfl;have V:Xq (rJ T S jr k=if((ay S k).k.toList == [36,97])=true then⟨bP T (ay S k),1,0,⟨#[]⟩,0,0⟩ else if((ay S k).k.toList == [36,112])=true then jr k else Wm):=rfl;have b7:Xq (∀x:lF×Hd,x.1=Cl S X k->(f++[x]).map (·.1)=(List.range (k+1)).map (Cl S X)):=fun x hx=>by rw[AV,Yj,ca.o,<-hx];rfl
  have b8:Xq (∀r,r=rJ T S jr k->l++[r]=(List.range (k+1)).map (rJ T S jr)):=fun r hr=>by rw[AV,hr,<-cA.o]
  have b6:Xq (∀(x:lF×Hd) (r:j4),(f++[x]).length=k+1/\(l++[r]).length=k+1):=fun x r=>⟨by rw[XC,HL.o.1];rfl,by rw[XC,HL.o.2];rfl⟩
  have ct:Xq (((ay S k).k.toList == [36,112])=true->xF S k=true):=fun h=>h;obtain⟨lb,dz⟩:=aP (bP T (ay S k));rw[dz.o]at cu V;obtain⟨v2,vz⟩:=bq.o W _ _ _ _ Q.o;obtain⟨c0,c2⟩:=bq.o wr _ _ _ _ D.o;obtain⟨gs,rfl,av,s0,ar,q3⟩:=cf.o W Q.o.Zbw v2 vz;obtain⟨d9,er,-,d7,d0,-⟩:=cf.o wr D.o.Zbw c0 c2;clear er;have d1:(0:Int)<=(k:Int):=by omega
  generalize (ay S k).k=sk at *;have s5:Xq ((ij f).n<=900000000):=by show f.length<=_;rw[HL.o.1];omega
  have s6:Xq ((ie l).n<=900000000):=by show l.length<=_;rw[HL.o.2];omega
  have cb:Xq ((ij f).n=f.length):=rfl;have cd:Xq ((ie l).n=l.length):=rfl;go_upto_region 7 with fail
  rw[HW.o];clear c0 c2 d7 d0;have cF:Xq (cW W (none:Xt) 6 mG ([]:List dV)):=by intro j x hx;cases hx
  have bT:Xq (Qt w H A (OQ,⟨none,0⟩)):=by intro g e;cases e
  have cB:Xq (∀g,(none:Xt)=some ⟨g,0,none⟩->g<W.heap.size):=by intro g e;cases e
  cases cq:(sk.toList == [36,97])
  ·rw[cq,Xz (by simp)]at V;cases aS:(sk.toList == [36,112])
   ·rw[aS,Xz (by simp)]at V an;(go_upto_region 13 with fail);clear v2 vz av s0 ar q3;obtain⟨⟨p0,p1,p2,p3,p4⟩,-,pz⟩:=AM bp.o;have v3:W.cell? ⟨v,3,none⟩=some (slice H.ao f.length H.cap):=by rw[ab Q.o.d];rfl
    have bm:=ah Q.o.d;have al:=Q.o.o1;have bk:Xq (∀u∈([slice none 0 0,int i64 0,string ⟨#[]⟩,int i64 0,int i64 0]:List Value),u.oneCell'=true):=KC (OQ,⟨none,0⟩);go_region_law (refine ci W rfl (.tmp 77) (.tmp 79) 83 rfl iP (agg #[slice none 0 0,int i64 0,string ⟨#[]⟩,int i64 0,int i64 0]) 64 H (ij f) [slice none 0 0,int i64 0,string ⟨#[]⟩,int i64 0,int i64 0] underlying83 ck bc bd be rfl (show 0<5 by omega) (by rw[cb.o];simp[Act.eval]) al s5.o (by omega) (by simp[Act.eval]) rfl bk.o ?_;intro G y w5 N I)
    all_goals
     rw[show([slice none 0 0,int i64 0,string ⟨#[]⟩,int i64 0,int i64 0]:List Value)=VZ (OQ,⟨none,0⟩) from rfl,tF]at N;have c:Xq (zF w (w5.setCell ⟨v,3,none⟩ (slice G ((ij f).n+1) y)) v b x0 x1 (f++[(OQ,⟨none,0⟩)]) ⟨G,y⟩ l A):=Q.o.addP (OQ,⟨none,0⟩) cF.o bT.o cB.o I N ((ij f).n+1) rfl;obtain⟨X5,L⟩:=aP (w5.setCell ⟨v,3,none⟩ (slice G ((ij f).n+1) y));have d5:=I.Zbw.get Q.o.d (fun B=>by have:=Q.o.f1 _ (aX B);have:=Q.o.lt;omega);have c5:w5.cell? ⟨v,3,none⟩=some (slice H.ao f.length H.cap):=by rw[ab d5];rfl
     have e5:=zcW d5 3;have ac:Xq (X5.heap[wr.heap.size+1]?=some (.cells #[string ⟨#[]⟩,int i64 0,int i64 0,string ⟨#[]⟩,int i64 0,int i64 0] 38)):=by
      show _=_;rw[<-L.o];exact((aa.refl [v] _).sl1 _).get (I.Zbw.get a0.o (fun B=>by have:=U.o.1 _ (aX B);omega)) (by have:=U.o.2.2.1;simp;omega)
     rw[L.o]at c;clear v3 bm p0 p1 p2 p3 p4 pz al N I d5;(go_upto_region 15 with fail);rw[L.o];clear c5 e5;obtain⟨⟨r0,r1,r2,r3,r4,r5⟩,-,rz⟩:=wR ac.o;have v4:X5.cell? ⟨v,4,none⟩=some (slice A.ao l.length A.cap):=by rw[ab c.o.d];rfl
     have bo:=ah c.o.d;have ai:=c.o.o2;have bl:Xq (∀u∈([string ⟨#[]⟩,int i64 0,int i64 0,string ⟨#[]⟩,int i64 0,int i64 0]:List Value),u.oneCell'=true):=La Wm;go_region_law (refine ci X5 rfl (.tmp 89) (.tmp 91) 54 rfl iR (agg #[string ⟨#[]⟩,int i64 0,int i64 0,string ⟨#[]⟩,int i64 0,int i64 0]) 64 A (ie l) [string ⟨#[]⟩,int i64 0,int i64 0,string ⟨#[]⟩,int i64 0,int i64 0] underlying54 cl bf bg bj rfl (show 0<6 by omega) (by rw[cd.o];simp[Act.eval]) ai s6.o (by omega) (by simp[Act.eval]) rfl bl.o ?_;intro a7 ag w6 O M;have d6:=M.Zbw.get c.o.d (fun B=>by have:=c.o.f2 _ (aX B);have:=c.o.lt;omega);have f6:=zcW d6 4;have c6:w6.cell? ⟨v,4,none⟩=some (slice A.ao l.length A.cap):=(by rw[ab d6];rfl);have z6:=ah d6)
     all_goals
      rw[show([string ⟨#[]⟩,int i64 0,int i64 0,string ⟨#[]⟩,int i64 0,int i64 0]:List Value)=lZ Wm from rfl,vC]at O;have a5:Xq _:=c.o.addR Wm M O ((ie l).n+1) rfl;clear O M d6 f6 c6 z6 r0 r1 r2 r3 r4 r5 rz v4 bo ai;go_wp2;go_roundg (S.length-(k+1))
      ·exact⟨k+1,f++[(OQ,⟨none,0⟩)],l++[Wm],⟨G,y⟩,⟨a7,ag⟩,by omega,rfl,by go_num,b6.o _ _,b7.o _ an.o.symm,b8.o _ V.o.symm,a5⟩
      omega
   ·rw[aS,XA rfl]at V an;have bw:Xq _:=c7.o (ct.o aS) W Q.o.Zbw;have az:Xq _:=br.o (ct.o aS);obtain⟨p,Hp⟩:=aP (X k);obtain⟨r,Hr⟩:=aP (jr k);rw[Hp.o]at bw az an;rw[Hr.o]at az V;obtain⟨ps,py,J,pl,pc⟩:=p;obtain⟨rl,rv,ry,K,rn,rc⟩:=r;simp only at az;(go_upto_region 12 with (go_at_call 87;refine Xx bw.o ?_;rintro e w1 ⟨F,he,n1⟩;replace he:e=returned (agg #[slice F.ao ps.length F.cap,int i64 py,string J,int i64 pl,int i64 pc]):=he;subst he;obtain⟨⟨p0,p1,p2,p3,p4⟩,⟨f0,f1,f2,f3,f4⟩,pz⟩:=AM (n1.Zbw.get bp.o (by simp))));have B1:=ae (ae (ae (ae (ae (n1.Zbw.get bp.o (by simp)) 0 (slice F.ao ps.length F.cap)) 1 (int i64 py)) 2 (string J)) 3 (int i64 pl)) 4 (int i64 pc);obtain⟨X1,ap⟩:=aP (((((w1.setCell ⟨wr.heap.size,0,none⟩ (slice F.ao ps.length F.cap)).setCell ⟨wr.heap.size,1,none⟩ (int i64 py)).setCell ⟨wr.heap.size,2,none⟩ (string J)).setCell ⟨wr.heap.size,3,none⟩ (int i64 pl)).setCell ⟨wr.heap.size,4,none⟩ (int i64 pc));have af:Xq (aa [wr.heap.size] w1 X1):=(by show aa _ _ _;rw[<-ap.o];exact(((((aa.refl _ _).sl1 _).sl1 _).sl1 _).sl1 _).sl1 _);have bs:Xq (X1.heap[wr.heap.size]?=some (.cells #[slice F.ao ps.length F.cap,int i64 py,string J,int i64 pl,int i64 pc] 122)):=cm (by rw[<-ap.o];exact B1);have am:Xq (aa [] wr X1):=by
     have k:=ad.o.trans n1.Zbw
     exact⟨af.o.os.trans k.os,af.o.tape.trans k.tape,af.o.output.trans k.output,XF k.size af.o.size,fun q B _=>by
      have:=k.size;rw[af.o.block q (by omega) (by simp;omega),k.block q B (by simp)]⟩
    have R:Xq _:=D.o.Zbj am.o;have bv:Xq (X1.heap[wr.heap.size+1]?=some (.cells #[string ⟨#[]⟩,int i64 0,int i64 0,string ⟨#[]⟩,int i64 0,int i64 0] 38)):=af.o.get (n1.Zbw.get a0.o (by simp)) (by simp);have ax:Xq (∀g,F.ao=some ⟨g,0,none⟩->W.heap.size<=g/\g<w1.heap.size):=fun g e=>⟨n1.far g (xk e),n1.ZbH.lt (xk e)⟩
    have ch:Xq (wr.heap.size+1<W.heap.size):=ah a0.o;have b0:Xq (cW X1 F.ao 6 mG ps):=(n1.ZbH.srcG TM).keptS af.o (fun g e B=>by have:=ax.o g e;have:=ch.o;simp at B;omega);have dt:Xq (Qt w H A (⟨ps,py,J,pl,pc⟩,F)):=fun g e=>by
     have h:=ax.o g e;have h':=ch.o;have ea:=U.o.2.2.2;exact⟨by omega,fun B=>by have:=U.o.1 g B;omega,fun B=>by have:=U.o.2.1 g B;omega⟩
    clear n1 B1 p0 p1 p2 p3 p4 f0 f1 f2 f3 f4 pz v2 vz av s0 ar q3;rw[ap.o];obtain⟨⟨p0,p1,p2,p3,p4⟩,-,pz⟩:=AM bs.o;obtain⟨v2,vz⟩:=bq.o X1 _ _ _ _ R.o;have dp:Xq (∀Y,aa [] X1 Y->(Y.cell? ⟨wr.heap.size+1,0,none⟩=some (string ⟨#[]⟩)/\Y.cell? ⟨wr.heap.size+1,1,none⟩=some (int i64 0)/\Y.cell? ⟨wr.heap.size+1,2,none⟩=some (int i64 0)/\Y.cell? ⟨wr.heap.size+1,3,none⟩=some (string ⟨#[]⟩)/\Y.cell? ⟨wr.heap.size+1,4,none⟩=some (int i64 0)/\Y.cell? ⟨wr.heap.size+1,5,none⟩=some (int i64 0))/\(Y.frozen? ⟨wr.heap.size+1,0,none⟩=false/\Y.frozen? ⟨wr.heap.size+1,1,none⟩=false/\Y.frozen? ⟨wr.heap.size+1,2,none⟩=false/\Y.frozen? ⟨wr.heap.size+1,3,none⟩=false/\Y.frozen? ⟨wr.heap.size+1,4,none⟩=false/\Y.frozen? ⟨wr.heap.size+1,5,none⟩=false)/\wr.heap.size+1<Y.heap.size):=fun Y k2=>wR (k2.get bv.o (by simp));go_region_with (go_at_call 88;refine(az.o F _ (by exact R.o.Zbw.drew) (by exact b0.o.keptS (aa.refl [] X1).drew (by simp))).mono ?_;rintro e Y ⟨he,k2⟩;replace he:e=returned (agg #[string rl,int i64 rv,int i64 ry,string K,int i64 rn,int i64 rc]):=he;subst he;replace k2:=((aa.refl [] X1).drew).trans k2;obtain⟨⟨r0,r1,r2,r3,r4,r5⟩,⟨t0,t1,t2,t3,t4,t5⟩,rz⟩:=dp.o Y k2)
    all_goals
     have B2:=ae (ae (ae (ae (ae (ae (k2.get bv.o (by simp)) 0 (string rl)) 1 (int i64 rv)) 2 (int i64 ry)) 3 (string K)) 4 (int i64 rn)) 5 (int i64 rc);obtain⟨X2,aq⟩:=aP ((((((Y.setCell ⟨wr.heap.size+1,0,none⟩ (string rl)).setCell ⟨wr.heap.size+1,1,none⟩ (int i64 rv)).setCell ⟨wr.heap.size+1,2,none⟩ (int i64 ry)).setCell ⟨wr.heap.size+1,3,none⟩ (string K)).setCell ⟨wr.heap.size+1,4,none⟩ (int i64 rn)).setCell ⟨wr.heap.size+1,5,none⟩ (int i64 rc));have E:Xq (aa [wr.heap.size+1] X1 X2):=(by show aa _ _ _;rw[<-aq.o];exact((((((k2.mono (by simp)).sl1 _).sl1 _).sl1 _).sl1 _).sl1 _).sl1 _);have a3:Xq (X2.heap[wr.heap.size+1]?=some (.cells #[string rl,int i64 rv,int i64 ry,string K,int i64 rn,int i64 rc] 38)):=cm (by rw[<-aq.o];exact B2);have aT:Xq _:=E.o.get bs.o (by simp)
     have b5:Xq (aa [] wr X2):=⟨E.o.os.trans am.o.os,E.o.tape.trans am.o.tape,E.o.output.trans am.o.output,XF am.o.size E.o.size,fun q B _=>by
      have:=am.o.size;rw[E.o.block q (by omega) (by simp;omega),am.o.block q B (by simp)]⟩
     have z:Xq _:=D.o.Zbj b5.o;have a6:Xq (cW X2 F.ao 6 mG ps):=b0.o.keptS E.o (fun g e B=>by have:=ax.o g e;have:=ch.o;simp at B;omega);have dv:Xq (∀g,F.ao=some ⟨g,0,none⟩->g<X2.heap.size):=fun g e=>by have:=(ax.o g e).2;have:=af.o.size;have:=E.o.size;omega
     clear k2 B2 r0 r1 r2 r3 r4 r5 t0 t1 t2 t3 t4 t5 rz p0 p1 p2 p3 p4 pz v2 vz;(go_upto_region 13 with fail);rw[aq.o];obtain⟨⟨p0,p1,p2,p3,p4⟩,-,pz⟩:=AM aT.o;have v3:X2.cell? ⟨v,3,none⟩=some (slice H.ao f.length H.cap):=by rw[ab z.o.d];rfl
     have bm:=ah z.o.d;have al:=z.o.o1;have bk:Xq (∀u∈([slice F.ao ps.length F.cap,int i64 py,string J,int i64 pl,int i64 pc]:List Value),u.oneCell'=true):=KC (⟨ps,py,J,pl,pc⟩,F);go_region_law (refine ci X2 rfl (.tmp 77) (.tmp 79) 83 rfl iP (agg #[slice none 0 0,int i64 0,string ⟨#[]⟩,int i64 0,int i64 0]) 64 H (ij f) [slice F.ao ps.length F.cap,int i64 py,string J,int i64 pl,int i64 pc] underlying83 ck bc bd be rfl (show 0<5 by omega) (by rw[cb.o];simp[Act.eval]) al s5.o (by omega) (by simp[Act.eval]) rfl bk.o ?_;intro G y w5 N I)
     all_goals
      rw[show([slice F.ao ps.length F.cap,int i64 py,string J,int i64 pl,int i64 pc]:List Value)=VZ (⟨ps,py,J,pl,pc⟩,F) from rfl,tF]at N;have c:Xq (zF w (w5.setCell ⟨v,3,none⟩ (slice G ((ij f).n+1) y)) v b x0 x1 (f++[(⟨ps,py,J,pl,pc⟩,F)]) ⟨G,y⟩ l A):=z.o.addP (⟨ps,py,J,pl,pc⟩,F) a6.o dt.o dv.o I N ((ij f).n+1) rfl;obtain⟨X5,L⟩:=aP (w5.setCell ⟨v,3,none⟩ (slice G ((ij f).n+1) y));have d5:=I.Zbw.get z.o.d (fun B=>by have:=z.o.f1 _ (aX B);have:=z.o.lt;omega);have c5:w5.cell? ⟨v,3,none⟩=some (slice H.ao f.length H.cap):=by rw[ab d5];rfl
      have e5:=zcW d5 3;have ac:Xq (X5.heap[wr.heap.size+1]?=some (.cells #[string rl,int i64 rv,int i64 ry,string K,int i64 rn,int i64 rc] 38)):=by
       show _=_;rw[<-L.o];exact((aa.refl [v] _).sl1 _).get (I.Zbw.get a3.o (fun B=>by have:=U.o.1 _ (aX B);omega)) (by have:=U.o.2.2.1;simp;omega)
      rw[L.o]at c;clear v3 bm p0 p1 p2 p3 p4 pz al N I d5;(go_upto_region 15 with fail);rw[L.o];clear c5 e5;obtain⟨⟨r0,r1,r2,r3,r4,r5⟩,-,rz⟩:=wR ac.o;have v4:X5.cell? ⟨v,4,none⟩=some (slice A.ao l.length A.cap):=by rw[ab c.o.d];rfl
      have bo:=ah c.o.d;have ai:=c.o.o2;have bl:Xq (∀u∈([string rl,int i64 rv,int i64 ry,string K,int i64 rn,int i64 rc]:List Value),u.oneCell'=true):=La ⟨rl,rv,ry,K,rn,rc⟩;go_region_law (refine ci X5 rfl (.tmp 89) (.tmp 91) 54 rfl iR (agg #[string ⟨#[]⟩,int i64 0,int i64 0,string ⟨#[]⟩,int i64 0,int i64 0]) 64 A (ie l) [string rl,int i64 rv,int i64 ry,string K,int i64 rn,int i64 rc] underlying54 cl bf bg bj rfl (show 0<6 by omega) (by rw[cd.o];simp[Act.eval]) ai s6.o (by omega) (by simp[Act.eval]) rfl bl.o ?_;intro a7 ag w6 O M;have d6:=M.Zbw.get c.o.d (fun B=>by have:=c.o.f2 _ (aX B);have:=c.o.lt;omega);have f6:=zcW d6 4;have c6:w6.cell? ⟨v,4,none⟩=some (slice A.ao l.length A.cap):=(by rw[ab d6];rfl);have z6:=ah d6)
      all_goals
       rw[show([string rl,int i64 rv,int i64 ry,string K,int i64 rn,int i64 rc]:List Value)=lZ ⟨rl,rv,ry,K,rn,rc⟩ from rfl,vC]at O;have a5:Xq _:=c.o.addR ⟨rl,rv,ry,K,rn,rc⟩ M O ((ie l).n+1) rfl;clear O M d6 f6 c6 z6 r0 r1 r2 r3 r4 r5 rz v4 bo ai;go_wp2;go_roundg (S.length-(k+1))
       ·exact⟨k+1,f++[(⟨ps,py,J,pl,pc⟩,F)],l++[⟨rl,rv,ry,K,rn,rc⟩],⟨G,y⟩,⟨a7,ag⟩,by omega,rfl,by go_num,b6.o _ _,b7.o _ an.o.symm,b8.o _ V.o.symm,a5⟩
       omega
  ·rw[cq,XA rfl]at V;have aS:=MA _ cq;rw[aS,Xz (by simp)]at an;have cv:Xq _:=cu.o W Q.o.Zbw;(go_upto_region 9 with (go_at_call 86;refine Xx cv.o ?_;rintro e w1 ⟨rfl,k1⟩;obtain⟨⟨r0,r1,r2,r3,r4,r5⟩,⟨t0,t1,t2,t3,t4,t5⟩,rz⟩:=wR (k1.get a0.o (by simp))));have B1:=ae (k1.get a0.o (by simp)) 0 (string lb);have B2:=ae B1 1 (int i64 1);obtain⟨X1,ap⟩:=aP (w1.setCell ⟨wr.heap.size+1,0,none⟩ (string lb));rw[ap.o]at B1 B2;obtain⟨X2,aq⟩:=aP (X1.setCell ⟨wr.heap.size+1,1,none⟩ (int i64 1));have E:Xq (aa [wr.heap.size+1] W X2):=(by show aa _ _ _;rw[<-aq.o,<-ap.o];exact((k1.mono (by simp)).sl1 _).sl1 _);have a3:Xq (X2.heap[wr.heap.size+1]?=some (.cells #[string lb,int i64 1,int i64 0,string ⟨#[]⟩,int i64 0,int i64 0] 38)):=cm (by rw[<-aq.o];exact B2);have aT:Xq _:=E.o.get bp.o (by simp)
   have b5:Xq (aa [] wr X2):=⟨E.o.os.trans ad.o.os,E.o.tape.trans ad.o.tape,E.o.output.trans ad.o.output,XF ad.o.size E.o.size,fun q B _=>by
    have:=ad.o.size;rw[E.o.block q (by omega) (by simp;omega),ad.o.block q B (by simp)]⟩
   have z:Xq _:=D.o.Zbj b5.o;have a6:Xq (cW X2 (none:Xt) 6 mG ([]:List dV)):=(by intro j x hx;cases hx);have cE:Xq (∀g,(none:Xt)=some ⟨g,0,none⟩->g<X2.heap.size):=(by intro g e;cases e);rw[ap.o];clear r0 r1 r2 r3 r4 r5 t0 t1 t2 t3 t4 t5 rz k1 v2 vz av s0 ar q3;obtain⟨-,r1,-⟩:=NP B1;have t1:=zcW B1 1;have rz:=ah B1;clear B1 B2;(go_upto_region 10 with fail);rw[aq.o];clear r1 t1 rz;obtain⟨v2,vz⟩:=bq.o X2 _ _ _ _ z.o;obtain⟨d8,dT,av,s0,ar,q3⟩:=cf.o X2 z.o.Zbw v2 vz;cases dT
   (go_upto_region 13 with fail);clear v2 vz av s0 ar q3;obtain⟨⟨p0,p1,p2,p3,p4⟩,-,pz⟩:=AM aT.o;have v3:X2.cell? ⟨v,3,none⟩=some (slice H.ao f.length H.cap):=by rw[ab z.o.d];rfl
   have bm:=ah z.o.d;have al:=z.o.o1;have bk:Xq (∀u∈([slice none 0 0,int i64 0,string ⟨#[]⟩,int i64 0,int i64 0]:List Value),u.oneCell'=true):=KC (OQ,⟨none,0⟩);go_region_law (refine ci X2 rfl (.tmp 77) (.tmp 79) 83 rfl iP (agg #[slice none 0 0,int i64 0,string ⟨#[]⟩,int i64 0,int i64 0]) 64 H (ij f) [slice none 0 0,int i64 0,string ⟨#[]⟩,int i64 0,int i64 0] underlying83 ck bc bd be rfl (show 0<5 by omega) (by rw[cb.o];simp[Act.eval]) al s5.o (by omega) (by simp[Act.eval]) rfl bk.o ?_;intro G y w5 N I)
   all_goals
    rw[show([slice none 0 0,int i64 0,string ⟨#[]⟩,int i64 0,int i64 0]:List Value)=VZ (OQ,⟨none,0⟩) from rfl,tF]at N;have c:Xq (zF w (w5.setCell ⟨v,3,none⟩ (slice G ((ij f).n+1) y)) v b x0 x1 (f++[(OQ,⟨none,0⟩)]) ⟨G,y⟩ l A):=z.o.addP (OQ,⟨none,0⟩) a6.o bT.o cE.o I N ((ij f).n+1) rfl;obtain⟨X5,L⟩:=aP (w5.setCell ⟨v,3,none⟩ (slice G ((ij f).n+1) y));have d5:=I.Zbw.get z.o.d (fun B=>by have:=z.o.f1 _ (aX B);have:=z.o.lt;omega);have c5:w5.cell? ⟨v,3,none⟩=some (slice H.ao f.length H.cap):=by rw[ab d5];rfl
    have e5:=zcW d5 3;have ac:Xq (X5.heap[wr.heap.size+1]?=some (.cells #[string lb,int i64 1,int i64 0,string ⟨#[]⟩,int i64 0,int i64 0] 38)):=by
     show _=_;rw[<-L.o];exact((aa.refl [v] _).sl1 _).get (I.Zbw.get a3.o (fun B=>by have:=U.o.1 _ (aX B);omega)) (by have:=U.o.2.2.1;simp;omega)
    rw[L.o]at c;clear v3 bm p0 p1 p2 p3 p4 pz al N I d5;(go_upto_region 15 with fail);rw[L.o];clear c5 e5;obtain⟨⟨r0,r1,r2,r3,r4,r5⟩,-,rz⟩:=wR ac.o;have v4:X5.cell? ⟨v,4,none⟩=some (slice A.ao l.length A.cap):=by rw[ab c.o.d];rfl
    have bo:=ah c.o.d;have ai:=c.o.o2;have bl:Xq (∀u∈([string lb,int i64 1,int i64 0,string ⟨#[]⟩,int i64 0,int i64 0]:List Value),u.oneCell'=true):=La ⟨lb,1,0,⟨#[]⟩,0,0⟩;go_region_law (refine ci X5 rfl (.tmp 89) (.tmp 91) 54 rfl iR (agg #[string ⟨#[]⟩,int i64 0,int i64 0,string ⟨#[]⟩,int i64 0,int i64 0]) 64 A (ie l) [string lb,int i64 1,int i64 0,string ⟨#[]⟩,int i64 0,int i64 0] underlying54 cl bf bg bj rfl (show 0<6 by omega) (by rw[cd.o];simp[Act.eval]) ai s6.o (by omega) (by simp[Act.eval]) rfl bl.o ?_;intro a7 ag w6 O M;have d6:=M.Zbw.get c.o.d (fun B=>by have:=c.o.f2 _ (aX B);have:=c.o.lt;omega);have f6:=zcW d6 4;have c6:w6.cell? ⟨v,4,none⟩=some (slice A.ao l.length A.cap):=(by rw[ab d6];rfl);have z6:=ah d6)
    all_goals
     rw[show([string lb,int i64 1,int i64 0,string ⟨#[]⟩,int i64 0,int i64 0]:List Value)=lZ ⟨lb,1,0,⟨#[]⟩,0,0⟩ from rfl,vC]at O;have a5:Xq _:=c.o.addR ⟨lb,1,0,⟨#[]⟩,0,0⟩ M O ((ie l).n+1) rfl;clear O M d6 f6 c6 z6 r0 r1 r2 r3 r4 r5 rz v4 bo ai;go_wp2;go_roundg (S.length-(k+1))
     ·exact⟨k+1,f++[(OQ,⟨none,0⟩)],l++[⟨lb,1,0,⟨#[]⟩,0,0⟩],⟨G,y⟩,⟨a7,ag⟩,by omega,rfl,by go_num,b6.o _ _,b7.o _ an.o.symm,b8.o _ V.o.symm,a5⟩
     omega
 ·have e:k=S.length:=by omega
  subst e;have df:Xq (∀t,t<S.length->(mZ f t).1=Cl S X t):=fun t ht=>by
   have H:=E0 f t (by rw[HL.o.1];exact ht);have A:(f.map (·.1))[t]?=some (Cl S X t):=(by rw[ca.o,Yi,Zp ht];rfl);rw[Yi,H]at A;exact Zaj A
  have dk:Xq (∀a,a<S.length->∀t,t<=a->(mZ f t).1.st.length<=100000000/\∀i,i<(mZ f t).1.st.length->(cn (mZ f t).1.st i).ref<=(a:Int)):=fun a ha t ht=>by
   rw[df.o t (by omega)];unfold Cl;cases F:xF S t
   ·rw[Xz (by simp)];exact⟨XX _,fun i hi=>by cases hi⟩
   ·rw[XA rfl];obtain⟨q1,q2⟩:=cz.o t (by omega) F;exact⟨q1,fun i hi=>by have:=q2 i hi;omega⟩
  have c9:Xq _:=HL.o.1;have cy:Xq _:=HL.o.2;have cs:Xq (sD S f l l 0):=⟨rfl,fun _ _=>rfl,fun a h=>absurd h (Zh a),fun a h=>absurd h (Zh a)⟩;have v2:wr.cell? ⟨v,2,none⟩=some (pointer (some ⟨b,0,none⟩)):=by rw[ab D.o.d];rfl
  have vz:=ah D.o.d;obtain⟨-,s0,ar⟩:=(HD.o wr D.o.Zbw).cells;have ed:¬(S.length:Int)<S.length:=by omega
  clear bx bz cz cL HL C hk;go_wp2;clear v2 vz s0 ar
  go_loopg [6] l.length (fun g iv wr=>∃(k:Nat) (m:List j4),k<=l.length/\g=l.length-k/\iv=int i64 k/\Xq (sD S f l m k)/\Xq (zF w wr v b x0 x1 f H m A))
  ·exact⟨0,l,by omega,rfl,rfl,cs,D⟩
  clear D cs;obtain⟨k,m,hk,eb,rfl,HF,Q⟩:=hrel;have cx:Xq _:=HF.o.len;have vz:=ah Q.o.d;by_cases C:k<m.length
  ·have cX:k<l.length:=(by rw[<-cx.o];exact C);have co:k<S.length:=(by rw[<-cy.o];exact cX);have d2:k<f.length:=(by rw[c9.o];exact co);obtain⟨g2,e2,cR,cc⟩:=Q.o.jds.r k _ (Fd m k C);have a4:Xq _:=e2;have v4:wr.cell? ⟨v,4,none⟩=some (slice (some ⟨g2,0,none⟩) m.length A.cap):=(by rw[ab Q.o.d,<-e2];rfl);have c1:wr.cell? ⟨g2,k*6+1,none⟩=some (int i64 (gi m k).Zbk):=cc 1 _ rfl;clear e2 cc;have db:Xq (gi l k=gi m k):=(HF.o.old k (Xy _)).symm;have dl:Xq _:=(Ir v b k T cj cT S ba cS x0 x1 f H.ao H.cap m A.ao A.cap wr (HD.o wr Q.o.Zbw) Q.o.jds d2 C co (by omega) (fun j hj=>HA.o j (by omega)) (dk.o k co));have d3:(k:Int)<m.length:=(by omega);have d1:(0:Int)<=(k:Int):=(by omega);have br:Xq ((gi l k).Zbk=(gi m k).Zbk):=cm (by rw[db.o]);generalize hvd:(gi m k).Zbk=vd at *;clear hvd;cases h4:(vd==4)
   ·have HM:Xq _:=HF.o.same (fun q=>by rw[br.o]at q;rw[q.1]at h4;cases h4);go_wp2;go_roundg (l.length-(k+1))
    ·exact⟨k+1,m,by omega,rfl,by go_num,HM,Q⟩
    omega
   ·have ds:Xq ((gi l k).Zbk=4):=(by show _=_;rw[br.o];exact ZR h4);(go_upto_region 21 with (go_at_call 66;refine Xx dl.o ?_;rintro e w1 ⟨d4,n1,n2,cV,he,a1,a2⟩;obtain⟨nb,cH⟩:∃nb,Xq ((JH T S m d4 (k+1)).length=nb):=⟨_,rfl⟩;rw[cH.o]at he;subst he));have HG:Xq _:=UP (T:=T) HF.o cV;rw[cH.o]at HG;have R:Xq _:=Q.o.Zbj a1.Zbw;clear cV a1 a2 v4 c1 vz cR;cases nb with
    | zero =>
     have cR:=R.o.o2.lt (xk a4.o);have vz:=ah R.o.d;have v4:w1.cell? ⟨v,4,none⟩=some (slice (some ⟨g2,0,none⟩) m.length A.cap):=(by rw[ab R.o.d,<-a4.o];rfl);obtain⟨g3,e3,-,cc⟩:=R.o.jds.r k _ (Fd m k C);have e3:g3=g2:=(by have:=e3.symm.trans a4.o;cases this;rfl);subst e3;have c1:w1.cell? ⟨g3,k*6+1,none⟩=some (int i64 (gi m k).Zbk):=cc 1 _ rfl;have f1:w1.frozen? ⟨g3,k*6+1,none⟩=false:=Hw R.o.o2 a4.o _;have HM:Xq _:=HF.o.turn cX ds.o (HG.o.1 rfl);have z:Xq _:=R.o.put a4.o k C 5;clear cc;go_wp2;go_roundg (l.length-(k+1))
     ·exact⟨k+1,_,by omega,rfl,by go_num,HM,z⟩
     omega
    | succ nb =>
     have HM:Xq _:=(HF.o.same (fun q=>by have:=HG.o.2 q.2;omega));go_wp2;go_roundg (l.length-(k+1))
     ·exact⟨k+1,m,by omega,rfl,by go_num,HM,R⟩
     omega
  ·have ek:k=l.length:=(by have:=cx.o;omega);subst ek;have ec:¬(l.length:Int)<m.length:=by omega
   have v4:wr.cell? ⟨v,4,none⟩=some (slice A.ao m.length A.cap):=(by rw[ab Q.o.d];rfl);have c8:Xq (sD S f ((List.range S.length).map (rJ T S jr)) m S.length):=by
    have:=HF.o;rw[cy.o]at this;rw[<-cA.o];exact this
   go_wp2;go_end0;exact⟨f,H,A,m,rfl,ca.o,c8.o,Q.o⟩
end Go.Proofs.YtpdholcaobgofaaGreat
