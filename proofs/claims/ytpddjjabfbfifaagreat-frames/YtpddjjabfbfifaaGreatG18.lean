import Derived.Test.YtpddjjabfbfifaaGreatG17
namespace Go.Proofs.YtpddjjabfbfifaaGreat
open Go.RowKit Tryz
set_option maxRecDepth 100000
set_option maxHeartbeats 40000000
variable{b:World}{w T:Nat}{S x y v d:Value}{n:List Sm}{H:List (jS×Hd)}{l f:List ik}
def Je:jS:=⟨[],0,⟨#[]⟩,0,0⟩
def NA(S:List Sm)(a:Nat):Bool:=(au S a).k.toList == [36,97]
def tX(S:List Sm)(a:Nat):Bool:=(au S a).k.toList == [36,112]
def xK(S:List Sm)(pf:Nat->jS)(a:Nat):jS:=if tX S a=true then pf a else Je
def oN(T:List Tk)(S:List Sm)(jr:Nat->ik)(a:Nat):ik:=if NA S a=true then⟨bG T (au S a),1,0,⟨#[]⟩,0,0⟩ else if tX S a=true then jr a else N7
theorem wO{α:Type}(f:Nat->α)(k:Nat):(List.range (k+1)).map f=(List.range k).map f++[f k]:=by
 rw[R4,Rx];rfl
theorem EQ(x:jS×Hd):∀u∈NR x,u.oneCell'=true:=by
 intro u a;unfold NR at a;simp only[Ri,RN,SO]at a;rcases a with rfl | rfl | rfl | rfl | rfl <;> rfl
theorem E8(x:ik):∀u∈jJ x,u.oneCell'=true:=by
 intro u a;unfold jJ at a;simp only[Ri,RN,SO]at a;rcases a with rfl | rfl | rfl | rfl | rfl | rfl <;> rfl
theorem wJ(h:b.heap[w]?=some (.cells #[S,x,y,v,d] 122 (0,0))) :
  (b.cell? ⟨w,0,none⟩=some S/\b.cell? ⟨w,1,none⟩=some x/\b.cell? ⟨w,2,none⟩=some y/\b.cell? ⟨w,3,none⟩=some v/\b.cell? ⟨w,4,none⟩=some d) /\
  (b.frozen? ⟨w,0,none⟩=false/\b.frozen? ⟨w,1,none⟩=false/\b.frozen? ⟨w,2,none⟩=false/\b.frozen? ⟨w,3,none⟩=false/\b.frozen? ⟨w,4,none⟩=false)/\w<b.heap.size:=by
 refine⟨⟨?_,?_,?_,?_,?_⟩,⟨am h 0,am h 1,am h 2,am h 3,am h 4⟩,ae h⟩
 all_goals (rw[aa h];rfl)
theorem tn{a:Value}(h:b.heap[w]?=some (.cells #[S,x,y,v,d,a] 38 (0,0))) :
  (b.cell? ⟨w,0,none⟩=some S/\b.cell? ⟨w,1,none⟩=some x/\b.cell? ⟨w,2,none⟩=some y/\b.cell? ⟨w,3,none⟩=some v/\b.cell? ⟨w,4,none⟩=some d/\b.cell? ⟨w,5,none⟩=some a) /\
  (b.frozen? ⟨w,0,none⟩=false/\b.frozen? ⟨w,1,none⟩=false/\b.frozen? ⟨w,2,none⟩=false/\b.frozen? ⟨w,3,none⟩=false/\b.frozen? ⟨w,4,none⟩=false/\b.frozen? ⟨w,5,none⟩=false)/\w<b.heap.size:=by
 refine⟨⟨?_,?_,?_,?_,?_,?_⟩,⟨am h 0,am h 1,am h 2,am h 3,am h 4,am h 5⟩,ae h⟩
 all_goals (rw[aa h];rfl)
def vA(S:List Sm)(PS:List (jS×Hd))(RS:List ik)(a:Nat):Prop:=∀t,t<=a->jp PS RS a t->tX S t=true->fR RS t=true
structure pu(S:List Sm)(PS:List (jS×Hd))(RS RS':List ik)(n:Nat):Prop where
 len:RS'.length=RS.length
 old:∀a,n<=a->ff RS' a=ff RS a
 yes:∀a,a<n->(ff RS a).Vb=4->vA S PS RS a->ff RS' a={ ff RS a with Vb:=5 }
 no:∀a,a<n->¬((ff RS a).Vb=4/\vA S PS RS a)->ff RS' a=ff RS a
theorem xd(b:List ik)(k a:Nat)(r:ik)(h:k<b.length):ff (b.set k r) a=if a=k then r else ff b a:=by
 unfold ff;rw[QP,RT,QP]
 by_cases e:k=a
 ·subst e;rw[QV rfl,QV rfl,QV h];rfl
 ·rw[QS e,QS (fun q=>e q.symm)]
theorem pu.same(h:pu n H l f w)(i:¬((ff l w).Vb=4/\vA n H l w)):pu n H l f (w+1) :=
 ⟨h.len,fun a d=>h.old a (by omega),fun a d g c=>by
  by_cases e:a=w
  ·subst e;exact absurd ⟨g,c⟩ i
  ·exact h.yes a (by omega) g c,fun a d b=>by
  by_cases e:a=w
  ·subst e;exact h.old a (QQ _)
  ·exact h.no a (by omega) b⟩
theorem pu.turn(h:pu n H l f w)(k:w<l.length)(m:(ff l w).Vb=4)(i:vA n H l w):pu n H l (f.set w { ff f w with Vb:=5 }) (w+1):=by
 have b:w<f.length:=by rw[h.len];exact k
 refine⟨by rw[Ru];exact h.len,fun a d=>?_,fun a d j g=>?_,fun a d c=>?_⟩
 ·rw[xd _ _ _ _ b,QS (by omega)];exact h.old a (by omega)
 ·rw[xd _ _ _ _ b]
  by_cases e:a=w
  ·subst e;rw[QV rfl,h.old a (QQ _)]
  ·rw[QS e];exact h.yes a (by omega) j g
 ·rw[xd _ _ _ _ b]
  by_cases e:a=w
  ·subst e;exact absurd ⟨m,i⟩ c
  ·rw[QS e];exact h.no a (by omega) c
theorem pu.sound(h:pu n H l f w)(t:Nat):fR f t=fR l t:=by
 by_cases a:t<w
 ·by_cases e:(ff l t).Vb=4/\vA n H l t
  ·unfold fR;rw[h.yes t a e.1 e.2,e.1];rfl
  ·unfold fR;rw[h.no t a e]
 ·unfold fR;rw[h.old t (by omega)]
theorem jp.of(b:∀t,fR f t=fR l t)(h:jp H f w T):jp H l w T:=by
 exact h _ jp.self (fun t T i d a e c=>jp.step d (by rw[<-b];exact a) e c)
theorem Nc{T:List Tk}(h:pu n H l f w){b:List Bool}(j:∀k,b.getD k false=true ↔ jp H f T k):(DI T n f b (T+1)).length=0 ↔ vA n H l T:=by
 have c:=h.sound;unfold DI;rw[Rh,Uc,Tg]
 constructor
 ·intro o t d m i
  have g:jp H f T t:=jp.of (fun t=>(c t).symm) m;have:=o t (Q9.2 (by omega));unfold PV at this;rw[(j t).2 g]at this;unfold tX at i;rw[i,c t]at this
  cases e:fR l t
  ·rw[e]at this;exact absurd rfl this
  ·rfl
 ·intro p t d a
  have d:=Q9.1 d;unfold PV at a;rw[Rf,Rf]at a;have:=p t (by omega) (jp.of c ((j t).1 a.1)) a.2.1;rw[c t,this]at a;exact absurd a.2.2 (by simp)
theorem Cx{h:Hd}{r:dN}(o:aw b h r)(a:h.ao=some ⟨w,0,none⟩)(j:Nat):b.frozen? ⟨w,j,none⟩=false:=by
 rcases o.ways with ⟨e,-,-⟩ | ⟨f,d,e,c,-⟩
 ·rw[e]at a;cases a
 ·rw[e]at a;cases a;exact am c j
def Kl(T:List Tk)(S:List Sm)(v b:Nat)(x0 x1:Value)(pf:Nat->jS)(jr:Nat->ik)(w:World)(e:Ending)(w':World):Prop :=
 ∃(PS:List (jS×Hd)) (h1 h2:Hd) (RS':List ik),e=.returned (.tuple #[])/\PS.map (·.1)=(List.range S.length).map (xK S pf)/\pu S PS ((List.range S.length).map (oN T S jr)) RS' S.length/\vC w w' v b x0 x1 PS h1 RS' h2
theorem El(v b:Nat)(T:List Tk)(ct:Option Addr)(cT:Nat)(S:List Sm)(bj:Option Addr)(cS:Nat)(x0 x1 y3 y4:Value)(X:Nat->jS)(jr:Nat->ik)(w:World)(hv:w.heap[v]?=some (.cells #[x0,x1,.pointer (some ⟨b,0,c⟩),y3,y4] 85 (0,0)))(hD:∀Z,ab [v] w Z->fz Z b T ct cT S bj cS)(hS:S.length<=10000)(hA:∀j,j<S.length->(au S j).a<T.length)(bT:∀a,a<S.length->tX S a=true->∀Z,ab [v] w Z->Calls prog 88 #[.pointer (some ⟨b,0,c⟩),.int .i64 a] Z fun e P=>oj Z (X a) e P)(b4:∀a,a<S.length->tX S a=true->∀(C:Hd) (Z:World),ab [v] w Z->cm Z C.ao 6 kU (X a).st->Calls prog 89 #[.pointer (some ⟨b,0,c⟩),.int .i64 a,.agg #[.slice C.ao (X a).st.length C.cap,.int .i64 (X a).why,.string (X a).file,.int .i64 (X a).line,.int .i64 (X a).col]] Z fun e P=>Kq Z (jr a) e P)(c8:∀a,a<S.length->tX S a=true->(X a).st.length<=100000000/\∀i,i<(X a).st.length->(bO (X a).st i).ref<=(a:Int)) :
  Calls prog 57 #[.pointer (some ⟨v,0,c⟩)] w fun e P=>Kl T S v b x0 x1 X jr w e P:=by
 obtain⟨iP,ch,a7,ba,be⟩:=Rd OV;obtain⟨iR,co,bd,bo,bg⟩:=Rd Gm;have b1:=ah hv 4 (.slice c 0 0);have b2:=ah b1 3 (.slice c 0 0);obtain⟨W0,cy⟩:∃W0,Hid ((w.setCell ⟨v,4,c⟩ (.slice c 0 0)).setCell ⟨v,3,c⟩ (.slice c 0 0)=W0):=⟨_,rfl⟩
 have cP:Hid (vC w W0 v b x0 x1 [] ⟨c,0⟩ [] ⟨c,0⟩):=by
  refine⟨by rw[<-cy.out];exact b2,ae hv,QY _ _ _ _,QY _ _ _ _,(by intro k hk;cases hk),(by intro k hk;cases hk),(by intro k hk;cases hk),by rw[<-cy.out];exact((ab.refl [v] w).setCell (Q0 (by simp)) _).setCell (Q0 (by simp)) _,(by intro x hx;cases hx),(by intro x hx;cases hx)⟩
 have c4:w.cell? ⟨v,4,c⟩=some y4:=by rw[aa hv];rfl
 have e4:=am hv 4;have c3:(w.setCell ⟨v,4,c⟩ (.slice c 0 0)).cell? ⟨v,3,c⟩=some y3:=by rw[aa b1];rfl
 have e3:=am b1 3;have hz:=ae hv;have d3:=ae b1;have HD:=hI hD;have HA:=hI hA;have b6:=hI bT;have ca:=hI b4;have cF:=hI c8;have es:=hI (ae hv);clear hD hA bT b4 c8 b1 b2 hv;go_enter func57,ntmps57
 go_upto_region 2 with fail
 rw[cy.out];clear c4 e4 c3 e3 hz d3;go_wp2
 go_loopg [2] S.length (fun g iv wr=>∃(k:Nat) (l:List (jS×Hd)) (m:List ik) (G A:Hd),k<=S.length/\g=S.length-k/\iv=.int .i64 k/\Hid (l.length=k/\m.length=k)/\Hid (l.map (·.1)=(List.range k).map (xK S X))/\Hid (m=(List.range k).map (oN T S jr))/\Hid (vC w wr v b x0 x1 l G m A))
 case atStart=>exact⟨0,[],[],⟨c,0⟩,⟨c,0⟩,by omega,rfl,rfl,⟨rfl,rfl⟩,rfl,rfl,cP⟩
 case round =>
  obtain⟨k,l,m,G,A,hk,hg,rfl,HL,ck,c9,F⟩:=hrel
  by_cases E:k<S.length
  ·have dT:(k:Int)<(S.length:Int):=by omega
   obtain⟨W,HW⟩:∃W,Hid ((wr.alloc (.cells #[.slice c 0 0,.int .i64 0,.string ⟨#[]⟩,.int .i64 0,.int .i64 0] 122)).alloc (.cells #[.string ⟨#[]⟩,.int .i64 0,.int .i64 0,.string ⟨#[]⟩,.int .i64 0,.int .i64 0] 38)=W):=⟨_,rfl⟩
   have ac:Hid (ab [] wr W):=by show ab [] wr W;rw[<-HW.out];exact((ab.refl [] _).alloc _).alloc _
   have bz:Hid (W.heap[wr.heap.size]?=some (.cells #[.slice c 0 0,.int .i64 0,.string ⟨#[]⟩,.int .i64 0,.int .i64 0] 122 (0,0))):=by
    show _=_
    rw[<-HW.out];exact((ab.refl [] _).alloc _).get (QR _ _) (by simp)
   have br:Hid (W.heap[wr.heap.size+1]?=some (.cells #[.string ⟨#[]⟩,.int .i64 0,.int .i64 0,.string ⟨#[]⟩,.int .i64 0,.int .i64 0] 38 (0,0))):=by
    show _=_
    rw[<-HW.out];have:=QR (wr.alloc (.cells #[.slice c 0 0,.int .i64 0,.string ⟨#[]⟩,.int .i64 0,.int .i64 0] 122)) (.cells #[.string ⟨#[]⟩,.int .i64 0,.int .i64 0,.string ⟨#[]⟩,.int .i64 0,.int .i64 0] 38);simpa using this
   have U:=hI (F.out.Va ac.out);have Y:Hid ((∀q,G.blk=some q->q<wr.heap.size)/\(∀q,A.blk=some q->q<wr.heap.size)/\v<wr.heap.size/\w.heap.size<=wr.heap.size):=⟨fun q B=>F.out.o1.lt B,fun q B=>F.out.o2.lt B,ae F.out.d,F.out.kept.size⟩
   have cu:Hid (∀P:World,ab [v] w P->P.cell? ⟨v,2,c⟩=some (.pointer (some ⟨b,0,c⟩))->v<P.heap.size->∃gs,bj=some ⟨gs,0,c⟩/\gs<P.heap.size/\P.cell? ⟨b,1,c⟩=some (.slice bj S.length cS)/\b<P.heap.size/\P.cell? ⟨gs,k*4+3,c⟩=some (.string (au S k).k)):=fun P kw _ _=>by
    have hd:=HD.out P kw;obtain⟨-,s0,hb⟩:=hd.cells;obtain⟨gs,e3,ap,-,-,-,q3⟩:=hd.s.2 k S[k] (QO E);rw[bM S k E]at q3;exact⟨gs,e3,ap,s0,hb,q3⟩
   have bw:Hid (∀(P:World) l G m A,vC w P v b x0 x1 l G m A->P.cell? ⟨v,2,c⟩=some (.pointer (some ⟨b,0,c⟩))/\v<P.heap.size):=fun P l G m A a=>⟨by rw[aa a.d];rfl,ae a.d⟩
   have df:Hid (∀Z,ab [v] w Z->Calls prog 87 #[.pointer (some ⟨b,0,c⟩),.int .i64 k] Z fun e P=>e=.returned (.string (bG T (au S k)))/\ab [] Z P):=fun Z kx=>by
    have:=nP b k T ct cT S bj cS Z (HD.out Z kx) E (by rw[bM S k E];exact HA.out k E);rw[bM S k E]at this;exact this
   have ej:=hI (b6.out k E);have bx:=hI (ca.out k E);have an:Hid (xK S X k=if((au S k).k.toList == [36,112])=true then X k else Je):=rfl;have V:Hid (oN T S jr k=if((au S k).k.toList == [36,97])=true then⟨bG T (au S k),1,0,⟨#[]⟩,0,0⟩ else if((au S k).k.toList == [36,112])=true then jr k else N7):=rfl;have cA:Hid (∀x:jS×Hd,x.1=xK S X k->(l++[x]).map (·.1)=(List.range (k+1)).map (xK S X)):=fun x hx=>by rw[wO,Rx,ck.out,<-hx];rfl
   have cj:Hid (∀r,r=oN T S jr k->m++[r]=(List.range (k+1)).map (oN T S jr)):=fun r hr=>by rw[wO,hr,<-c9.out]
   have cz:Hid (∀(x:jS×Hd) (r:ik),(l++[x]).length=k+1/\(m++[r]).length=k+1):=fun x r=>⟨by rw[QZ,HL.out.1];rfl,by rw[QZ,HL.out.2];rfl⟩
   have cE:Hid (((au S k).k.toList == [36,112])=true->tX S k=true):=fun h=>h
   obtain⟨lb,ec⟩:∃lb,Hid (bG T (au S k)=lb):=⟨_,rfl⟩
   rw[ec.out]at df V;obtain⟨v2,vz⟩:=bw.out W _ _ _ _ U.out;obtain⟨ds,cV⟩:=bw.out wr _ _ _ _ F.out;obtain⟨gs,rfl,ap,s0,az,q3⟩:=cu.out W U.out.kept v2 vz;obtain⟨ep,er,-,d1,d2,-⟩:=cu.out wr F.out.kept ds cV;clear er;have dv:(0:Int)<=(k:Int):=by omega
   generalize (au S k).k=sk at *;have s5:Hid ((fP l).n<=900000000):=by show l.length<=_;rw[HL.out.1];omega
   have s6:Hid ((fM m).n<=900000000):=by show m.length<=_;rw[HL.out.2];omega
   have cp:Hid ((fP l).n=l.length):=rfl;have cB:Hid ((fM m).n=m.length):=rfl
   go_upto_region 7 with fail
   rw[HW.out];clear ds cV d1 d2;have db:Hid (cm W (c:Option Addr) 6 kU ([]:List dj)):=by intro j x hx;cases hx
   have cf:Hid (Kj w G A (Je,⟨c,0⟩)):=by intro g e;cases e
   have cX:Hid (∀g,(c:Option Addr)=some ⟨g,0,c⟩->g<W.heap.size):=by intro g e;cases e
   cases cx:(sk.toList == [36,97])
   ·rw[cx,QS (by simp)]at V
    cases a3:(sk.toList == [36,112])
    ·rw[a3,QS (by simp)]at V an
     go_upto_region 13 with fail
     clear v2 vz ap s0 az q3;obtain⟨⟨p0,p1,p2,p3,p4⟩,-,pz⟩:=wJ bz.out;have v3:W.cell? ⟨v,3,c⟩=some (.slice G.ao l.length G.cap):=by rw[aa U.out.d];rfl
     have bl:=ae U.out.d;have af:=U.out.o1;have bf:Hid (∀u∈([.slice c 0 0,.int .i64 0,.string ⟨#[]⟩,.int .i64 0,.int .i64 0]:List Value),u.oneCell'=true):=EQ (Je,⟨c,0⟩)
     go_region_law (refine bH W rfl (.tmp 77) (.tmp 79) 83 rfl iP (.agg #[.slice c 0 0,.int .i64 0,.string ⟨#[]⟩,.int .i64 0,.int .i64 0]) 64 G (fP l) [.slice c 0 0,.int .i64 0,.string ⟨#[]⟩,.int .i64 0,.int .i64 0] underlying83 ch a7 ba be rfl (show 0<5 by omega) (by rw[cp.out];simp[Act.eval]) af s5.out (by omega) (by simp[Act.eval]) rfl bf.out ?_;intro I y w5 L H)
     all_goals
      rw[show([.slice c 0 0,.int .i64 0,.string ⟨#[]⟩,.int .i64 0,.int .i64 0]:List Value)=NR (Je,⟨c,0⟩) from rfl,pU]at L;have f:Hid (vC w (w5.setCell ⟨v,3,c⟩ (.slice I ((fP l).n+1) y)) v b x0 x1 (l++[(Je,⟨c,0⟩)]) ⟨I,y⟩ m A):=U.out.addP (Je,⟨c,0⟩) db.out cf.out cX.out H L ((fP l).n+1) rfl;obtain⟨X5,M⟩:∃X5,Hid (w5.setCell ⟨v,3,c⟩ (.slice I ((fP l).n+1) y)=X5):=⟨_,rfl⟩
      have d5:=H.kept.get U.out.d (fun B=>by have:=U.out.f1 _ (aN B);have:=U.out.lt;omega);have c5:w5.cell? ⟨v,3,c⟩=some (.slice G.ao l.length G.cap):=by rw[aa d5];rfl
      have e5:=am d5 3;have z5:=ae d5
      have ad:Hid (X5.heap[wr.heap.size+1]?=some (.cells #[.string ⟨#[]⟩,.int .i64 0,.int .i64 0,.string ⟨#[]⟩,.int .i64 0,.int .i64 0] 38 (0,0))):=by
       show _=_
       rw[<-M.out];exact((ab.refl [v] _).setCell (Q0 (by simp)) _).get (H.kept.get br.out (fun B=>by have:=Y.out.1 _ (aN B);omega)) (by have:=Y.out.2.2.1;simp;omega)
      rw[M.out]at f;clear v3 bl p0 p1 p2 p3 p4 pz af L H d5
      go_upto_region 15 with fail
      rw[M.out];clear c5 e5 z5;obtain⟨⟨r0,r1,r2,r3,r4,r5⟩,-,rz⟩:=tn ad.out;have v4:X5.cell? ⟨v,4,c⟩=some (.slice A.ao m.length A.cap):=by rw[aa f.out.d];rfl
      have bc:=ae f.out.d;have ag:=f.out.o2;have a6:Hid (∀u∈([.string ⟨#[]⟩,.int .i64 0,.int .i64 0,.string ⟨#[]⟩,.int .i64 0,.int .i64 0]:List Value),u.oneCell'=true):=E8 N7
      go_region_law (refine bH X5 rfl (.tmp 89) (.tmp 91) 54 rfl iR (.agg #[.string ⟨#[]⟩,.int .i64 0,.int .i64 0,.string ⟨#[]⟩,.int .i64 0,.int .i64 0]) 64 A (fM m) [.string ⟨#[]⟩,.int .i64 0,.int .i64 0,.string ⟨#[]⟩,.int .i64 0,.int .i64 0] underlying54 co bd bo bg rfl (show 0<6 by omega) (by rw[cB.out];simp[Act.eval]) ag s6.out (by omega) (by simp[Act.eval]) rfl a6.out ?_;intro a4 ai w6 N O;have d6:=O.kept.get f.out.d (fun B=>by have:=f.out.f2 _ (aN B);have:=f.out.lt;omega);have f6:=am d6 4;have c6:w6.cell? ⟨v,4,c⟩=some (.slice A.ao m.length A.cap):=(by rw[aa d6];rfl);have z6:=ae d6)
      all_goals
       rw[show([.string ⟨#[]⟩,.int .i64 0,.int .i64 0,.string ⟨#[]⟩,.int .i64 0,.int .i64 0]:List Value)=jJ N7 from rfl,rK]at N;have bv:=hI (f.out.addR N7 O N ((fM m).n+1) rfl);clear N O d6 f6 c6 z6 r0 r1 r2 r3 r4 r5 rz v4 bc ag;go_wp2
       go_roundg (S.length-(k+1))
       case measure=>omega
       case rel=>exact⟨k+1,l++[(Je,⟨c,0⟩)],m++[N7],⟨I,y⟩,⟨a4,ai⟩,by omega,rfl,by go_num,cz.out _ _,cA.out _ an.out.symm,cj.out _ V.out.symm,bv⟩
    ·rw[a3,QV rfl]at V an
     have b3:=hI (ej.out (cE.out a3) W U.out.kept);have aT:=hI (bx.out (cE.out a3));obtain⟨p,Hp⟩:∃p,Hid (X k=p):=⟨_,rfl⟩
     obtain⟨r,Hr⟩:∃r,Hid (jr k=r):=⟨_,rfl⟩
     rw[Hp.out]at b3 aT an;rw[Hr.out]at aT V;obtain⟨ps,py,J,pl,pc⟩:=p;obtain⟨rl,rv,ry,K,rn,rc⟩:=r;simp only at aT
     go_upto_region 12 with (go_at_call 88;refine QT b3.out ?_;rintro e w1 ⟨C,he,n1⟩;replace he:e=.returned (.agg #[.slice C.ao ps.length C.cap,.int .i64 py,.string J,.int .i64 pl,.int .i64 pc]):=he;subst he;obtain⟨⟨p0,p1,p2,p3,p4⟩,⟨f0,f1,f2,f3,f4⟩,pz⟩:=wJ (n1.kept.get bz.out (by simp)))
     have el:=hI n1;have B1:=ah (ah (ah (ah (ah (n1.kept.get bz.out (by simp)) 0 (.slice C.ao ps.length C.cap)) 1 (.int .i64 py)) 2 (.string J)) 3 (.int .i64 pl)) 4 (.int .i64 pc);obtain⟨X1,aS⟩:∃X1,Hid (((((w1.setCell ⟨wr.heap.size,0,c⟩ (.slice C.ao ps.length C.cap)).setCell ⟨wr.heap.size,1,c⟩ (.int .i64 py)).setCell ⟨wr.heap.size,2,c⟩ (.string J)).setCell ⟨wr.heap.size,3,c⟩ (.int .i64 pl)).setCell ⟨wr.heap.size,4,c⟩ (.int .i64 pc)=X1):=⟨_,rfl⟩
     have al:Hid (ab [wr.heap.size] w1 X1):=by show ab _ _ _;rw[<-aS.out];exact(((((ab.refl _ _).setCell (Q0 (by simp)) _).setCell (Q0 (by simp)) _).setCell (Q0 (by simp)) _).setCell (Q0 (by simp)) _).setCell (Q0 (by simp)) _
     have cb:Hid (X1.heap[wr.heap.size]?=some (.cells #[.slice C.ao ps.length C.cap,.int .i64 py,.string J,.int .i64 pl,.int .i64 pc] 122 (0,0))):=by show _=_;rw[<-aS.out];exact B1
     have ax:Hid (ab [] wr X1):=by
      have k:=ac.out.trans n1.kept
      exact⟨al.out.os.trans k.os,al.out.tape.trans k.tape,al.out.output.trans k.output,Q1 k.size al.out.size,fun q B _=>by
       have:=k.size;rw[al.out.block q (by omega) (by simp;omega),k.block q B (by simp)]⟩
     have Q:=hI (F.out.Va ax.out);have b5:Hid (X1.heap[wr.heap.size+1]?=some (.cells #[.string ⟨#[]⟩,.int .i64 0,.int .i64 0,.string ⟨#[]⟩,.int .i64 0,.int .i64 0] 38 (0,0))):=al.out.get (n1.kept.get br.out (by simp)) (by simp);have a0:Hid (∀g,C.ao=some ⟨g,0,c⟩->W.heap.size<=g/\g<w1.heap.size):=fun g e=>⟨n1.far g (tJ e),n1.own.lt (tJ e)⟩
     have cs:Hid (wr.heap.size+1<W.heap.size):=ae br.out;have b0:Hid (cm X1 C.ao 6 kU ps):=(n1.own.srcG Mw).keptS al.out (fun g e B=>by have:=a0.out g e;have:=cs.out;simp at B;omega)
     have dt:Hid (Kj w G A (⟨ps,py,J,pl,pc⟩,C)):=fun g e=>by
      have h:=a0.out g e;have h':=cs.out;have ev:=Y.out.2.2.2;exact⟨by omega,fun B=>by have:=Y.out.1 g B;omega,fun B=>by have:=Y.out.2.1 g B;omega⟩
     clear n1 B1 p0 p1 p2 p3 p4 f0 f1 f2 f3 f4 pz v2 vz ap s0 az q3;rw[aS.out];obtain⟨⟨p0,p1,p2,p3,p4⟩,-,pz⟩:=wJ cb.out;obtain⟨v2,vz⟩:=bw.out X1 _ _ _ _ Q.out;have d4:Hid (∀w2,ab [] X1 w2->(w2.cell? ⟨wr.heap.size+1,0,c⟩=some (.string ⟨#[]⟩)/\w2.cell? ⟨wr.heap.size+1,1,c⟩=some (.int .i64 0)/\w2.cell? ⟨wr.heap.size+1,2,c⟩=some (.int .i64 0)/\w2.cell? ⟨wr.heap.size+1,3,c⟩=some (.string ⟨#[]⟩)/\w2.cell? ⟨wr.heap.size+1,4,c⟩=some (.int .i64 0)/\w2.cell? ⟨wr.heap.size+1,5,c⟩=some (.int .i64 0))/\(w2.frozen? ⟨wr.heap.size+1,0,c⟩=false/\w2.frozen? ⟨wr.heap.size+1,1,c⟩=false/\w2.frozen? ⟨wr.heap.size+1,2,c⟩=false/\w2.frozen? ⟨wr.heap.size+1,3,c⟩=false/\w2.frozen? ⟨wr.heap.size+1,4,c⟩=false/\w2.frozen? ⟨wr.heap.size+1,5,c⟩=false)/\wr.heap.size+1<w2.heap.size):=fun w2 k2=>tn (k2.get b5.out (by simp))
     go_region_with (go_at_call 89;refine(aT.out C _ (by exact Q.out.kept.drew) (by exact b0.out.keptS (ab.refl [] X1).drew (by simp))).mono ?_;rintro e w2 ⟨he,k2⟩;replace he:e=.returned (.agg #[.string rl,.int .i64 rv,.int .i64 ry,.string K,.int .i64 rn,.int .i64 rc]):=he;subst he;replace k2:=((ab.refl [] X1).drew).trans k2;obtain⟨⟨r0,r1,r2,r3,r4,r5⟩,⟨t0,t1,t2,t3,t4,t5⟩,rz⟩:=d4.out w2 k2)
     all_goals
      have B2:=ah (ah (ah (ah (ah (ah (k2.get b5.out (by simp)) 0 (.string rl)) 1 (.int .i64 rv)) 2 (.int .i64 ry)) 3 (.string K)) 4 (.int .i64 rn)) 5 (.int .i64 rc);obtain⟨R,ar⟩:∃R,Hid ((((((w2.setCell ⟨wr.heap.size+1,0,c⟩ (.string rl)).setCell ⟨wr.heap.size+1,1,c⟩ (.int .i64 rv)).setCell ⟨wr.heap.size+1,2,c⟩ (.int .i64 ry)).setCell ⟨wr.heap.size+1,3,c⟩ (.string K)).setCell ⟨wr.heap.size+1,4,c⟩ (.int .i64 rn)).setCell ⟨wr.heap.size+1,5,c⟩ (.int .i64 rc)=R):=⟨_,rfl⟩
      have D:Hid (ab [wr.heap.size+1] X1 R):=by show ab _ _ _;rw[<-ar.out];exact((((((k2.mono (by simp)).setCell (Q0 (by simp)) _).setCell (Q0 (by simp)) _).setCell (Q0 (by simp)) _).setCell (Q0 (by simp)) _).setCell (Q0 (by simp)) _).setCell (Q0 (by simp)) _
      have bs:Hid (R.heap[wr.heap.size+1]?=some (.cells #[.string rl,.int .i64 rv,.int .i64 ry,.string K,.int .i64 rn,.int .i64 rc] 38 (0,0))):=by show _=_;rw[<-ar.out];exact B2
      have bp:=hI (D.out.get cb.out (by simp))
      have cl:Hid (ab [] wr R):=⟨D.out.os.trans ax.out.os,D.out.tape.trans ax.out.tape,D.out.output.trans ax.out.output,Q1 ax.out.size D.out.size,fun q B _=>by
       have:=ax.out.size;rw[D.out.block q (by omega) (by simp;omega),ax.out.block q B (by simp)]⟩
      have z:=hI (F.out.Va cl.out);have bk:Hid (cm R C.ao 6 kU ps):=b0.out.keptS D.out (fun g e B=>by have:=a0.out g e;have:=cs.out;simp at B;omega);have d8:Hid (∀g,C.ao=some ⟨g,0,c⟩->g<R.heap.size):=fun g e=>by have:=(a0.out g e).2;have:=al.out.size;have:=D.out.size;omega
      clear k2 B2 r0 r1 r2 r3 r4 r5 t0 t1 t2 t3 t4 t5 rz p0 p1 p2 p3 p4 pz v2 vz
      go_upto_region 13 with fail
      rw[ar.out];obtain⟨⟨p0,p1,p2,p3,p4⟩,-,pz⟩:=wJ bp.out;have v3:R.cell? ⟨v,3,c⟩=some (.slice G.ao l.length G.cap):=by rw[aa z.out.d];rfl
      have bl:=ae z.out.d;have af:=z.out.o1;have bf:Hid (∀u∈([.slice C.ao ps.length C.cap,.int .i64 py,.string J,.int .i64 pl,.int .i64 pc]:List Value),u.oneCell'=true):=EQ (⟨ps,py,J,pl,pc⟩,C)
      go_region_law (refine bH R rfl (.tmp 77) (.tmp 79) 83 rfl iP (.agg #[.slice c 0 0,.int .i64 0,.string ⟨#[]⟩,.int .i64 0,.int .i64 0]) 64 G (fP l) [.slice C.ao ps.length C.cap,.int .i64 py,.string J,.int .i64 pl,.int .i64 pc] underlying83 ch a7 ba be rfl (show 0<5 by omega) (by rw[cp.out];simp[Act.eval]) af s5.out (by omega) (by simp[Act.eval]) rfl bf.out ?_;intro I y w5 L H)
      all_goals
       rw[show([.slice C.ao ps.length C.cap,.int .i64 py,.string J,.int .i64 pl,.int .i64 pc]:List Value)=NR (⟨ps,py,J,pl,pc⟩,C) from rfl,pU]at L;have f:Hid (vC w (w5.setCell ⟨v,3,c⟩ (.slice I ((fP l).n+1) y)) v b x0 x1 (l++[(⟨ps,py,J,pl,pc⟩,C)]) ⟨I,y⟩ m A):=z.out.addP (⟨ps,py,J,pl,pc⟩,C) bk.out dt.out d8.out H L ((fP l).n+1) rfl;obtain⟨X5,M⟩:∃X5,Hid (w5.setCell ⟨v,3,c⟩ (.slice I ((fP l).n+1) y)=X5):=⟨_,rfl⟩
       have d5:=H.kept.get z.out.d (fun B=>by have:=z.out.f1 _ (aN B);have:=z.out.lt;omega);have c5:w5.cell? ⟨v,3,c⟩=some (.slice G.ao l.length G.cap):=by rw[aa d5];rfl
       have e5:=am d5 3;have z5:=ae d5
       have ad:Hid (X5.heap[wr.heap.size+1]?=some (.cells #[.string rl,.int .i64 rv,.int .i64 ry,.string K,.int .i64 rn,.int .i64 rc] 38 (0,0))):=by
        show _=_
        rw[<-M.out];exact((ab.refl [v] _).setCell (Q0 (by simp)) _).get (H.kept.get bs.out (fun B=>by have:=Y.out.1 _ (aN B);omega)) (by have:=Y.out.2.2.1;simp;omega)
       rw[M.out]at f;clear v3 bl p0 p1 p2 p3 p4 pz af L H d5
       go_upto_region 15 with fail
       rw[M.out];clear c5 e5 z5;obtain⟨⟨r0,r1,r2,r3,r4,r5⟩,-,rz⟩:=tn ad.out;have v4:X5.cell? ⟨v,4,c⟩=some (.slice A.ao m.length A.cap):=by rw[aa f.out.d];rfl
       have bc:=ae f.out.d;have ag:=f.out.o2;have a6:Hid (∀u∈([.string rl,.int .i64 rv,.int .i64 ry,.string K,.int .i64 rn,.int .i64 rc]:List Value),u.oneCell'=true):=E8 ⟨rl,rv,ry,K,rn,rc⟩
       go_region_law (refine bH X5 rfl (.tmp 89) (.tmp 91) 54 rfl iR (.agg #[.string ⟨#[]⟩,.int .i64 0,.int .i64 0,.string ⟨#[]⟩,.int .i64 0,.int .i64 0]) 64 A (fM m) [.string rl,.int .i64 rv,.int .i64 ry,.string K,.int .i64 rn,.int .i64 rc] underlying54 co bd bo bg rfl (show 0<6 by omega) (by rw[cB.out];simp[Act.eval]) ag s6.out (by omega) (by simp[Act.eval]) rfl a6.out ?_;intro a4 ai w6 N O;have d6:=O.kept.get f.out.d (fun B=>by have:=f.out.f2 _ (aN B);have:=f.out.lt;omega);have f6:=am d6 4;have c6:w6.cell? ⟨v,4,c⟩=some (.slice A.ao m.length A.cap):=(by rw[aa d6];rfl);have z6:=ae d6)
       all_goals
        rw[show([.string rl,.int .i64 rv,.int .i64 ry,.string K,.int .i64 rn,.int .i64 rc]:List Value)=jJ ⟨rl,rv,ry,K,rn,rc⟩ from rfl,rK]at N;have bv:=hI (f.out.addR ⟨rl,rv,ry,K,rn,rc⟩ O N ((fM m).n+1) rfl);clear N O d6 f6 c6 z6 r0 r1 r2 r3 r4 r5 rz v4 bc ag;go_wp2
        go_roundg (S.length-(k+1))
        case measure=>omega
        case rel=>exact⟨k+1,l++[(⟨ps,py,J,pl,pc⟩,C)],m++[⟨rl,rv,ry,K,rn,rc⟩],⟨I,y⟩,⟨a4,ai⟩,by omega,rfl,by go_num,cz.out _ _,cA.out _ an.out.symm,cj.out _ V.out.symm,bv⟩
   ·rw[cx,QV rfl]at V
    have a3:=Gp _ cx;rw[a3,QS (by simp)]at an;have dp:=hI (df.out W U.out.kept)
    go_upto_region 9 with (go_at_call 87;refine QT dp.out ?_;rintro e w1 ⟨rfl,k1⟩;obtain⟨⟨r0,r1,r2,r3,r4,r5⟩,⟨t0,t1,t2,t3,t4,t5⟩,rz⟩:=tn (k1.get br.out (by simp)))
    have B1:=ah (k1.get br.out (by simp)) 0 (.string lb);have B2:=ah B1 1 (.int .i64 1);obtain⟨X1,aS⟩:∃X1,Hid (w1.setCell ⟨wr.heap.size+1,0,c⟩ (.string lb)=X1):=⟨_,rfl⟩
    rw[aS.out]at B1 B2;obtain⟨R,ar⟩:∃R,Hid (X1.setCell ⟨wr.heap.size+1,1,c⟩ (.int .i64 1)=R):=⟨_,rfl⟩
    have D:Hid (ab [wr.heap.size+1] W R):=by show ab _ _ _;rw[<-ar.out,<-aS.out];exact((k1.mono (by simp)).setCell (Q0 (by simp)) _).setCell (Q0 (by simp)) _
    have bs:Hid (R.heap[wr.heap.size+1]?=some (.cells #[.string lb,.int .i64 1,.int .i64 0,.string ⟨#[]⟩,.int .i64 0,.int .i64 0] 38 (0,0))):=by show _=_;rw[<-ar.out];exact B2
    have bp:=hI (D.out.get bz.out (by simp))
    have cl:Hid (ab [] wr R):=⟨D.out.os.trans ac.out.os,D.out.tape.trans ac.out.tape,D.out.output.trans ac.out.output,Q1 ac.out.size D.out.size,fun q B _=>by
     have:=ac.out.size;rw[D.out.block q (by omega) (by simp;omega),ac.out.block q B (by simp)]⟩
    have z:=hI (F.out.Va cl.out);have bk:Hid (cm R (c:Option Addr) 6 kU ([]:List dj)):=by intro j x hx;cases hx
    have c7:Hid (∀g,(c:Option Addr)=some ⟨g,0,c⟩->g<R.heap.size):=by intro g e;cases e
    rw[aS.out];clear r0 r1 r2 r3 r4 r5 t0 t1 t2 t3 t4 t5 rz k1 v2 vz ap s0 az q3;have r1:X1.cell? ⟨wr.heap.size+1,1,c⟩=some (.int .i64 0):=by rw[aa B1];rfl
    have t1:=am B1 1;have rz:=ae B1;clear B1 B2
    go_upto_region 10 with fail
    rw[ar.out];clear r1 t1 rz;obtain⟨v2,vz⟩:=bw.out R _ _ _ _ z.out;obtain⟨eq,eg,ap,s0,az,q3⟩:=cu.out R z.out.kept v2 vz
    cases eg
    go_upto_region 13 with fail
    clear v2 vz ap s0 az q3;obtain⟨⟨p0,p1,p2,p3,p4⟩,-,pz⟩:=wJ bp.out;have v3:R.cell? ⟨v,3,c⟩=some (.slice G.ao l.length G.cap):=by rw[aa z.out.d];rfl
    have bl:=ae z.out.d;have af:=z.out.o1;have bf:Hid (∀u∈([.slice c 0 0,.int .i64 0,.string ⟨#[]⟩,.int .i64 0,.int .i64 0]:List Value),u.oneCell'=true):=EQ (Je,⟨c,0⟩)
    go_region_law (refine bH R rfl (.tmp 77) (.tmp 79) 83 rfl iP (.agg #[.slice c 0 0,.int .i64 0,.string ⟨#[]⟩,.int .i64 0,.int .i64 0]) 64 G (fP l) [.slice c 0 0,.int .i64 0,.string ⟨#[]⟩,.int .i64 0,.int .i64 0] underlying83 ch a7 ba be rfl (show 0<5 by omega) (by rw[cp.out];simp[Act.eval]) af s5.out (by omega) (by simp[Act.eval]) rfl bf.out ?_;intro I y w5 L H)
    all_goals
     rw[show([.slice c 0 0,.int .i64 0,.string ⟨#[]⟩,.int .i64 0,.int .i64 0]:List Value)=NR (Je,⟨c,0⟩) from rfl,pU]at L;have f:Hid (vC w (w5.setCell ⟨v,3,c⟩ (.slice I ((fP l).n+1) y)) v b x0 x1 (l++[(Je,⟨c,0⟩)]) ⟨I,y⟩ m A):=z.out.addP (Je,⟨c,0⟩) bk.out cf.out c7.out H L ((fP l).n+1) rfl;obtain⟨X5,M⟩:∃X5,Hid (w5.setCell ⟨v,3,c⟩ (.slice I ((fP l).n+1) y)=X5):=⟨_,rfl⟩
     have d5:=H.kept.get z.out.d (fun B=>by have:=z.out.f1 _ (aN B);have:=z.out.lt;omega);have c5:w5.cell? ⟨v,3,c⟩=some (.slice G.ao l.length G.cap):=by rw[aa d5];rfl
     have e5:=am d5 3;have z5:=ae d5
     have ad:Hid (X5.heap[wr.heap.size+1]?=some (.cells #[.string lb,.int .i64 1,.int .i64 0,.string ⟨#[]⟩,.int .i64 0,.int .i64 0] 38 (0,0))):=by
      show _=_
      rw[<-M.out];exact((ab.refl [v] _).setCell (Q0 (by simp)) _).get (H.kept.get bs.out (fun B=>by have:=Y.out.1 _ (aN B);omega)) (by have:=Y.out.2.2.1;simp;omega)
     rw[M.out]at f;clear v3 bl p0 p1 p2 p3 p4 pz af L H d5
     go_upto_region 15 with fail
     rw[M.out];clear c5 e5 z5;obtain⟨⟨r0,r1,r2,r3,r4,r5⟩,-,rz⟩:=tn ad.out;have v4:X5.cell? ⟨v,4,c⟩=some (.slice A.ao m.length A.cap):=by rw[aa f.out.d];rfl
     have bc:=ae f.out.d;have ag:=f.out.o2;have a6:Hid (∀u∈([.string lb,.int .i64 1,.int .i64 0,.string ⟨#[]⟩,.int .i64 0,.int .i64 0]:List Value),u.oneCell'=true):=E8 ⟨lb,1,0,⟨#[]⟩,0,0⟩
     go_region_law (refine bH X5 rfl (.tmp 89) (.tmp 91) 54 rfl iR (.agg #[.string ⟨#[]⟩,.int .i64 0,.int .i64 0,.string ⟨#[]⟩,.int .i64 0,.int .i64 0]) 64 A (fM m) [.string lb,.int .i64 1,.int .i64 0,.string ⟨#[]⟩,.int .i64 0,.int .i64 0] underlying54 co bd bo bg rfl (show 0<6 by omega) (by rw[cB.out];simp[Act.eval]) ag s6.out (by omega) (by simp[Act.eval]) rfl a6.out ?_;intro a4 ai w6 N O;have d6:=O.kept.get f.out.d (fun B=>by have:=f.out.f2 _ (aN B);have:=f.out.lt;omega);have f6:=am d6 4;have c6:w6.cell? ⟨v,4,c⟩=some (.slice A.ao m.length A.cap):=(by rw[aa d6];rfl);have z6:=ae d6)
     all_goals
      rw[show([.string lb,.int .i64 1,.int .i64 0,.string ⟨#[]⟩,.int .i64 0,.int .i64 0]:List Value)=jJ ⟨lb,1,0,⟨#[]⟩,0,0⟩ from rfl,rK]at N;have bv:=hI (f.out.addR ⟨lb,1,0,⟨#[]⟩,0,0⟩ O N ((fM m).n+1) rfl);clear N O d6 f6 c6 z6 r0 r1 r2 r3 r4 r5 rz v4 bc ag;go_wp2
      go_roundg (S.length-(k+1))
      case measure=>omega
      case rel=>exact⟨k+1,l++[(Je,⟨c,0⟩)],m++[⟨lb,1,0,⟨#[]⟩,0,0⟩],⟨I,y⟩,⟨a4,ai⟩,by omega,rfl,by go_num,cz.out _ _,cA.out _ an.out.symm,cj.out _ V.out.symm,bv⟩
  ·have e:k=S.length:=by omega
   subst e
   have eh:Hid (∀t,t<S.length->(lq l t).1=xK S X t):=fun t ht=>by
    have G:=Aq l t (by rw[HL.out.1];exact ht);have A:(l.map (·.1))[t]?=some (xK S X t):=by rw[ck.out,Rp,Ux ht];rfl
    rw[Rp,G]at A;exact Option.some.inj A
   have d0:Hid (∀a,a<S.length->∀t,t<=a->(lq l t).1.st.length<=100000000/\∀i,i<(lq l t).1.st.length->(bO (lq l t).1.st i).ref<=(a:Int)):=fun a ha t ht=>by
    rw[eh.out t (by omega)];unfold xK
    cases C:tX S t
    ·rw[QS (by simp)]
     exact⟨Rn _,fun i hi=>by cases hi⟩
    ·rw[QV rfl]
     obtain⟨q1,q2⟩:=cF.out t (by omega) C;exact⟨q1,fun i hi=>by have:=q2 i hi;omega⟩
   have ef:=hI HL.out.1;have c0:=hI HL.out.2;have dl:Hid (pu S l m m 0):=⟨rfl,fun _ _=>rfl,fun a h=>absurd h (TZ a),fun a h=>absurd h (TZ a)⟩;have v2:wr.cell? ⟨v,2,c⟩=some (.pointer (some ⟨b,0,c⟩)):=by rw[aa F.out.d];rfl
   have vz:=ae F.out.d;obtain⟨-,s0,az⟩:=(HD.out wr F.out.kept).cells;have et:¬(S.length:Int)<(S.length:Int):=by omega
   clear b6 ca cF cP HL E hk;go_wp2;clear v2 vz s0 az
   go_loopg [6] m.length (fun g iv wr=>∃(k:Nat) (o:List ik),k<=m.length/\g=m.length-k/\iv=.int .i64 k/\Hid (pu S l m o k)/\Hid (vC w wr v b x0 x1 l G o A))
   case atStart=>exact⟨0,m,by omega,rfl,rfl,dl,F⟩
   case round =>
    clear F dl;obtain⟨k,o,hk,em,rfl,HF,U⟩:=hrel;have c2:=hI HF.out.len;have vz:=ae U.out.d
    by_cases E:k<o.length
    ·have cL:k<m.length:=by rw[<-c2.out];exact E
     have cq:k<S.length:=by rw[<-c0.out];exact cL
     have eb:k<l.length:=by rw[ef.out];exact cq
     obtain⟨g2,e2,dk,cc⟩:=U.out.jds.r k _ (Ax o k E);have a5:=hI e2;have v4:wr.cell? ⟨v,4,c⟩=some (.slice (some ⟨g2,0,c⟩) o.length A.cap):=by rw[aa U.out.d,<-e2];rfl
     have c1:wr.cell? ⟨g2,k*6+1,c⟩=some (.int .i64 (ff o k).Vb):=cc 1 _ rfl;clear e2 cc;have dz:Hid (ff m k=ff o k):=(HF.out.old k (QQ _)).symm;have ei:=hI (CL v b k T ct cT S bj cS x0 x1 l G.ao G.cap o A.ao A.cap wr (HD.out wr U.out.kept) U.out.jds eb E cq (by omega) (fun j hj=>HA.out j (by omega)) (d0.out k cq));have dT:(k:Int)<(o.length:Int):=by omega
     have dv:(0:Int)<=(k:Int):=by omega
     have bx:Hid ((ff m k).Vb=(ff o k).Vb):=by show _=_;rw[dz.out]
     generalize hvd:(ff o k).Vb=vd at *;clear hvd
     cases h4:(vd==4)
     ·have HM:=hI (HF.out.same (fun q=>by rw[bx.out]at q;rw[q.1]at h4;cases h4))
      go_wp2
      go_roundg (m.length-(k+1))
      case measure=>omega
      case rel=>exact⟨k+1,o,by omega,rfl,by go_num,HM,U⟩
     ·have ea:Hid ((ff m k).Vb=4):=by show _=_;rw[bx.out];exact TQ h4
      go_upto_region 21 with (go_at_call 67;refine QT ei.out ?_;rintro e w1 ⟨d9,n1,n2,cR,he,a1,a2⟩;obtain⟨nb,cH⟩:∃nb,Hid ((DI T S o d9 (k+1)).length=nb):=⟨_,rfl⟩;rw[cH.out]at he;subst he)
      have HG:=hI (Nc (T:=T) HF.out cR);rw[cH.out]at HG;have Q:=hI (U.out.Va a1.kept);clear cR a1 a2 v4 c1 vz dk
      cases nb with
      | zero =>
       have dk:=Q.out.o2.lt (tJ a5.out);have vz:=ae Q.out.d;have v4:w1.cell? ⟨v,4,c⟩=some (.slice (some ⟨g2,0,c⟩) o.length A.cap):=by rw[aa Q.out.d,<-a5.out];rfl
       obtain⟨g3,e3,-,cc⟩:=Q.out.jds.r k _ (Ax o k E);have e3:g3=g2:=by have:=e3.symm.trans a5.out;cases this;rfl
       subst e3;have c1:w1.cell? ⟨g3,k*6+1,c⟩=some (.int .i64 (ff o k).Vb):=cc 1 _ rfl;have f1:w1.frozen? ⟨g3,k*6+1,c⟩=false:=Cx Q.out.o2 a5.out _;have HM:=hI (HF.out.turn cL ea.out (HG.out.1 rfl));have z:=hI (Q.out.put a5.out k E 5);clear cc;go_wp2
       go_roundg (m.length-(k+1))
       case measure=>omega
       case rel=>exact⟨k+1,_,by omega,rfl,by go_num,HM,z⟩
      | succ nb =>
       have HM:=hI (HF.out.same (fun q=>by have:=HG.out.2 q.2;omega));have eo:(((nb+1:Nat):Int)==0)=false:=by simp;omega
       go_wp2
       go_roundg (m.length-(k+1))
       case measure=>omega
       case rel=>exact⟨k+1,o,by omega,rfl,by go_num,HM,Q⟩
    ·have ek:k=m.length:=by have:=c2.out;omega
     subst ek;have en:¬(m.length:Int)<(o.length:Int):=by omega
     have v4:wr.cell? ⟨v,4,c⟩=some (.slice A.ao o.length A.cap):=by rw[aa U.out.d];rfl
     have d7:Hid (pu S l ((List.range S.length).map (oN T S jr)) o S.length):=by
      have:=HF.out;rw[c0.out]at this;rw[<-c9.out];exact this
     go_wp2;go_end0;exact⟨l,G,A,o,rfl,ck.out,d7.out,U.out⟩
end Go.Proofs.YtpddjjabfbfifaaGreat
