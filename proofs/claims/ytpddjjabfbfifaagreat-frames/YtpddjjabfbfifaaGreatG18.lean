import Derived.Test.YtpddjjabfbfifaaGreatG17
namespace Go.Proofs.YtpddjjabfbfifaaGreat
open Go.RowKit Tryz
set_option maxRecDepth 100000
set_option maxHeartbeats 40000000
variable{b:World}{w T:Nat}{S x y v d:Value}{n:List Sm}{H:List (jS×Hd)}{l f:List ik}
def Jg:jS:=⟨[],0,⟨#[]⟩,0,0⟩
def NB(S:List Sm)(a:Nat):Bool:=(au S a).k.toList == [36,97]
def tY(S:List Sm)(a:Nat):Bool:=(au S a).k.toList == [36,112]
def xM(S:List Sm)(pf:Nat->jS)(a:Nat):jS:=if tY S a=true then pf a else Jg
def oO(T:List Tk)(S:List Sm)(jr:Nat->ik)(a:Nat):ik:=if NB S a=true then⟨bG T (au S a),1,0,⟨#[]⟩,0,0⟩ else if tY S a=true then jr a else N8
theorem wP{α:Type}(f:Nat->α)(k:Nat):(List.range (k+1)).map f=(List.range k).map f++[f k]:=by
 rw[R6,Ry];rfl
theorem EU(x:jS×Hd):∀u∈NS x,u.oneCell'=true:=by
 intro u a;unfold NS at a;simp only[List.mem_cons,List.not_mem_nil,or_false]at a;rcases a with rfl | rfl | rfl | rfl | rfl <;> rfl
theorem Fb(x:ik):∀u∈jJ x,u.oneCell'=true:=by
 intro u a;unfold jJ at a;simp only[List.mem_cons,List.not_mem_nil,or_false]at a;rcases a with rfl | rfl | rfl | rfl | rfl | rfl <;> rfl
theorem wK(h:b.heap[w]?=some (.cells #[S,x,y,v,d] 122 (0,0))) :
  (b.cell? ⟨w,0,none⟩=some S/\b.cell? ⟨w,1,none⟩=some x/\b.cell? ⟨w,2,none⟩=some y/\b.cell? ⟨w,3,none⟩=some v/\b.cell? ⟨w,4,none⟩=some d) /\
  (b.frozen? ⟨w,0,none⟩=false/\b.frozen? ⟨w,1,none⟩=false/\b.frozen? ⟨w,2,none⟩=false/\b.frozen? ⟨w,3,none⟩=false/\b.frozen? ⟨w,4,none⟩=false)/\w<b.heap.size:=by
 refine⟨⟨?_,?_,?_,?_,?_⟩,⟨am h 0,am h 1,am h 2,am h 3,am h 4⟩,ae h⟩
 all_goals (rw[aa h];rfl)
theorem tp{a:Value}(h:b.heap[w]?=some (.cells #[S,x,y,v,d,a] 38 (0,0))) :
  (b.cell? ⟨w,0,none⟩=some S/\b.cell? ⟨w,1,none⟩=some x/\b.cell? ⟨w,2,none⟩=some y/\b.cell? ⟨w,3,none⟩=some v/\b.cell? ⟨w,4,none⟩=some d/\b.cell? ⟨w,5,none⟩=some a) /\
  (b.frozen? ⟨w,0,none⟩=false/\b.frozen? ⟨w,1,none⟩=false/\b.frozen? ⟨w,2,none⟩=false/\b.frozen? ⟨w,3,none⟩=false/\b.frozen? ⟨w,4,none⟩=false/\b.frozen? ⟨w,5,none⟩=false)/\w<b.heap.size:=by
 refine⟨⟨?_,?_,?_,?_,?_,?_⟩,⟨am h 0,am h 1,am h 2,am h 3,am h 4,am h 5⟩,ae h⟩
 all_goals (rw[aa h];rfl)
def vB(S:List Sm)(PS:List (jS×Hd))(RS:List ik)(a:Nat):Prop:=∀t,t<=a->jp PS RS a t->tY S t=true->fR RS t=true
structure pv(S:List Sm)(PS:List (jS×Hd))(RS RS':List ik)(n:Nat):Prop where
 len:RS'.length=RS.length
 old:∀a,n<=a->ff RS' a=ff RS a
 yes:∀a,a<n->(ff RS a).Vc=4->vB S PS RS a->ff RS' a={ ff RS a with Vc:=5 }
 no:∀a,a<n->¬((ff RS a).Vc=4/\vB S PS RS a)->ff RS' a=ff RS a
theorem xe(b:List ik)(k a:Nat)(r:ik)(h:k<b.length):ff (b.set k r) a=if a=k then r else ff b a:=by
 unfold ff;rw[QQ,RU,QQ]
 by_cases e:k=a
 ·subst e;rw[QW rfl,QW rfl,QW h];rfl
 ·rw[QT e,QT (fun q=>e q.symm)]
theorem pv.same(h:pv n H l f w)(i:¬((ff l w).Vc=4/\vB n H l w)):pv n H l f (w+1) :=
 ⟨h.len,fun a g=>h.old a (by omega),fun a g d c=>by
  by_cases e:a=w
  ·subst e;exact absurd ⟨d,c⟩ i
  ·exact h.yes a (by omega) d c,fun a g b=>by
  by_cases e:a=w
  ·subst e;exact h.old a (QR _)
  ·exact h.no a (by omega) b⟩
theorem pv.turn(h:pv n H l f w)(g:w<l.length)(k:(ff l w).Vc=4)(m:vB n H l w):pv n H l (f.set w { ff f w with Vc:=5 }) (w+1):=by
 have b:w<f.length:=by rw[h.len];exact g
 refine⟨by rw[Rv];exact h.len,fun a d=>?_,fun a d j i=>?_,fun a d c=>?_⟩
 ·rw[xe _ _ _ _ b,QT (by omega)];exact h.old a (by omega)
 ·rw[xe _ _ _ _ b]
  by_cases e:a=w
  ·subst e;rw[QW rfl,h.old a (QR _)]
  ·rw[QT e];exact h.yes a (by omega) j i
 ·rw[xe _ _ _ _ b]
  by_cases e:a=w
  ·subst e;exact absurd ⟨k,m⟩ c
  ·rw[QT e];exact h.no a (by omega) c
theorem pv.sound(h:pv n H l f w)(t:Nat):fR f t=fR l t:=by
 by_cases a:t<w
 ·by_cases e:(ff l t).Vc=4/\vB n H l t
  ·unfold fR;rw[h.yes t a e.1 e.2,e.1];rfl
  ·unfold fR;rw[h.no t a e]
 ·unfold fR;rw[h.old t (by omega)]
theorem jp.of(e:∀t,fR f t=fR l t)(h:jp H f w T):jp H l w T:=by
 exact h _ jp.self (fun t T i d a c b=>jp.step d (by rw[<-e];exact a) c b)
theorem Nd{T:List Tk}(h:pv n H l f w){b:List Bool}(j:∀k,b.getD k false=true ↔ jp H f T k):(DK T n f b (T+1)).length=0 ↔ vB n H l T:=by
 have c:=h.sound;unfold DK;rw[Ri,Ud,Th]
 constructor
 ·intro o t d p i
  have g:jp H f T t:=jp.of (fun t=>(c t).symm) p;have:=o t (Ra.2 (by omega));unfold PY at this;rw[(j t).2 g]at this;unfold tY at i;rw[i,c t]at this
  cases e:fR l t
  ·rw[e]at this;exact absurd rfl this
  ·rfl
 ·intro m t d a
  have d:=Ra.1 d;unfold PY at a;rw[Rg,Rg]at a;have:=m t (by omega) (jp.of c ((j t).1 a.1)) a.2.1;rw[c t,this]at a;exact absurd a.2.2 (by simp)
theorem Cz{h:Hd}{r:dN}(o:aw b h r)(a:h.ao=some ⟨w,0,none⟩)(j:Nat):b.frozen? ⟨w,j,none⟩=false:=by
 rcases o.Vm with ⟨e,-,-⟩ | ⟨d,f,e,c,-⟩
 ·rw[e]at a;cases a
 ·rw[e]at a;cases a;exact am c j
def Kn(T:List Tk)(S:List Sm)(v b:Nat)(x0 x1:Value)(pf:Nat->jS)(jr:Nat->ik)(w:World)(e:Ending)(w':World):Prop :=
 ∃(PS:List (jS×Hd)) (h1 h2:Hd) (RS':List ik),e=.returned (.tuple #[])/\PS.map (·.1)=(List.range S.length).map (xM S pf)/\pv S PS ((List.range S.length).map (oO T S jr)) RS' S.length/\vD w w' v b x0 x1 PS h1 RS' h2
theorem En(v b:Nat)(T:List Tk)(ch:Option Addr)(cT:Nat)(S:List Sm)(be:Option Addr)(cS:Nat)(x0 x1 y3 y4:Value)(Y:Nat->jS)(jr:Nat->ik)(w:World)(hv:w.heap[v]?=some (.cells #[x0,x1,.pointer (some ⟨b,0,c⟩),y3,y4] 85 (0,0)))(hD:∀wx,ab [v] w wx->fz wx b T ch cT S be cS)(hS:S.length<=10000)(hA:∀j,j<S.length->(au S j).a<T.length)(bT:∀a,a<S.length->tY S a=true->∀wx,ab [v] w wx->Calls prog 88 #[.pointer (some ⟨b,0,c⟩),.int .i64 a] wx fun e P=>om wx (Y a) e P)(cb:∀a,a<S.length->tY S a=true->∀(C:Hd) (wx:World),ab [v] w wx->cm wx C.ao 6 kV (Y a).st->Calls prog 89 #[.pointer (some ⟨b,0,c⟩),.int .i64 a,.agg #[.slice C.ao (Y a).st.length C.cap,.int .i64 (Y a).why,.string (Y a).file,.int .i64 (Y a).line,.int .i64 (Y a).col]] wx fun e P=>Ks wx (jr a) e P)(cF:∀a,a<S.length->tY S a=true->(Y a).st.length<=100000000/\∀i,i<(Y a).st.length->(bO (Y a).st i).ref<=(a:Int)) :
  Calls prog 57 #[.pointer (some ⟨v,0,c⟩)] w fun e P=>Kn T S v b x0 x1 Y jr w e P:=by
 obtain⟨iP,co,bg,a5,bd⟩:=Re OW;obtain⟨iR,cl,bf,a4,bp⟩:=Re Gp;have b1:=ah hv 4 (.slice c 0 0);have b2:=ah b1 3 (.slice c 0 0);obtain⟨W0,cs⟩:∃W0,Hid ((w.setCell ⟨v,4,c⟩ (.slice c 0 0)).setCell ⟨v,3,c⟩ (.slice c 0 0)=W0):=⟨_,rfl⟩
 have cX:Hid (vD w W0 v b x0 x1 [] ⟨c,0⟩ [] ⟨c,0⟩):=by
  refine⟨by rw[<-cs.out];exact b2,ae hv,QZ _ _ _ _,QZ _ _ _ _,(by intro k hk;cases hk),(by intro k hk;cases hk),(by intro k hk;cases hk),by rw[<-cs.out];exact((ab.refl [v] w).setCell (Q1 (by simp)) _).setCell (Q1 (by simp)) _,(by intro x hx;cases hx),(by intro x hx;cases hx)⟩
 have c4:w.cell? ⟨v,4,c⟩=some y4:=by rw[aa hv];rfl
 have e4:=am hv 4;have c3:(w.setCell ⟨v,4,c⟩ (.slice c 0 0)).cell? ⟨v,3,c⟩=some y3:=by rw[aa b1];rfl
 have e3:=am b1 3;have hz:=ae hv;have d9:=ae b1;have HD:=hI hD;have HA:=hI hA;have b0:=hI bT;have b3:=hI cb;have cR:=hI cF;have eo:=hI (ae hv);clear hD hA bT cb cF b1 b2 hv;go_enter func57,ntmps57
 go_upto_region 2 with fail
 rw[cs.out];clear c4 e4 c3 e3 hz d9;go_wp2
 go_loopg [2] S.length (fun g iv wr=>∃(k:Nat) (l:List (jS×Hd)) (m:List ik) (G A:Hd),k<=S.length/\g=S.length-k/\iv=.int .i64 k/\Hid (l.length=k/\m.length=k)/\Hid (l.map (·.1)=(List.range k).map (xM S Y))/\Hid (m=(List.range k).map (oO T S jr))/\Hid (vD w wr v b x0 x1 l G m A))
 case atStart=>exact⟨0,[],[],⟨c,0⟩,⟨c,0⟩,by omega,rfl,rfl,⟨rfl,rfl⟩,rfl,rfl,cX⟩
 case round =>
  obtain⟨k,l,m,G,A,hk,hg,rfl,HL,cz,cE,E⟩:=hrel
  by_cases D:k<S.length
  ·have ec:(k:Int)<(S.length:Int):=by omega
   obtain⟨W,HW⟩:∃W,Hid ((wr.alloc (.cells #[.slice c 0 0,.int .i64 0,.string ⟨#[]⟩,.int .i64 0,.int .i64 0] 122)).alloc (.cells #[.string ⟨#[]⟩,.int .i64 0,.int .i64 0,.string ⟨#[]⟩,.int .i64 0,.int .i64 0] 38)=W):=⟨_,rfl⟩
   have ag:Hid (ab [] wr W):=by show ab [] wr W;rw[<-HW.out];exact((ab.refl [] _).alloc _).alloc _
   have bx:Hid (W.heap[wr.heap.size]?=some (.cells #[.slice c 0 0,.int .i64 0,.string ⟨#[]⟩,.int .i64 0,.int .i64 0] 122 (0,0))):=by
    show _=_
    rw[<-HW.out];exact((ab.refl [] _).alloc _).get (QS _ _) (by simp)
   have ba:Hid (W.heap[wr.heap.size+1]?=some (.cells #[.string ⟨#[]⟩,.int .i64 0,.int .i64 0,.string ⟨#[]⟩,.int .i64 0,.int .i64 0] 38 (0,0))):=by
    show _=_
    rw[<-HW.out];have:=QS (wr.alloc (.cells #[.slice c 0 0,.int .i64 0,.string ⟨#[]⟩,.int .i64 0,.int .i64 0] 122)) (.cells #[.string ⟨#[]⟩,.int .i64 0,.int .i64 0,.string ⟨#[]⟩,.int .i64 0,.int .i64 0] 38);simpa using this
   have Q:=hI (E.out.Vb ag.out);have X:Hid ((∀q,G.blk=some q->q<wr.heap.size)/\(∀q,A.blk=some q->q<wr.heap.size)/\v<wr.heap.size/\w.heap.size<=wr.heap.size):=⟨fun q B=>E.out.o1.lt B,fun q B=>E.out.o2.lt B,ae E.out.d,E.out.kept.size⟩
   have cx:Hid (∀P:World,ab [v] w P->P.cell? ⟨v,2,c⟩=some (.pointer (some ⟨b,0,c⟩))->v<P.heap.size->∃gs,be=some ⟨gs,0,c⟩/\gs<P.heap.size/\P.cell? ⟨b,1,c⟩=some (.slice be S.length cS)/\b<P.heap.size/\P.cell? ⟨gs,k*4+3,c⟩=some (.string (au S k).k)):=fun P kw _ _=>by
    have hd:=HD.out P kw;obtain⟨-,s0,hb⟩:=hd.cells;obtain⟨gs,e3,aS,-,-,-,q3⟩:=hd.s.2 k S[k] (QP D);rw[bM S k D]at q3;exact⟨gs,e3,aS,s0,hb,q3⟩
   have bz:Hid (∀(P:World) l G m A,vD w P v b x0 x1 l G m A->P.cell? ⟨v,2,c⟩=some (.pointer (some ⟨b,0,c⟩))/\v<P.heap.size):=fun P l G m A a=>⟨by rw[aa a.d];rfl,ae a.d⟩
   have db:Hid (∀wx,ab [v] w wx->Calls prog 87 #[.pointer (some ⟨b,0,c⟩),.int .i64 k] wx fun e P=>e=.returned (.string (bG T (au S k)))/\ab [] wx P):=fun wx kx=>by
    have:=nQ b k T ch cT S be cS wx (HD.out wx kx) D (by rw[bM S k D];exact HA.out k D);rw[bM S k D]at this;exact this
   have dt:=hI (b0.out k D);have bw:=hI (b3.out k D);have az:Hid (xM S Y k=if((au S k).k.toList == [36,112])=true then Y k else Jg):=rfl;have V:Hid (oO T S jr k=if((au S k).k.toList == [36,97])=true then⟨bG T (au S k),1,0,⟨#[]⟩,0,0⟩ else if((au S k).k.toList == [36,112])=true then jr k else N8):=rfl;have cy:Hid (∀x:jS×Hd,x.1=xM S Y k->(l++[x]).map (·.1)=(List.range (k+1)).map (xM S Y)):=fun x hx=>by rw[wP,Ry,cz.out,<-hx];rfl
   have ck:Hid (∀r,r=oO T S jr k->m++[r]=(List.range (k+1)).map (oO T S jr)):=fun r hr=>by rw[wP,hr,<-cE.out]
   have cA:Hid (∀(x:jS×Hd) (r:ik),(l++[x]).length=k+1/\(m++[r]).length=k+1):=fun x r=>⟨by rw[Q0,HL.out.1];rfl,by rw[Q0,HL.out.2];rfl⟩
   have c7:Hid (((au S k).k.toList == [36,112])=true->tY S k=true):=fun h=>h
   obtain⟨lb,dv⟩:∃lb,Hid (bG T (au S k)=lb):=⟨_,rfl⟩
   rw[dv.out]at db V;obtain⟨v2,vz⟩:=bz.out W _ _ _ _ Q.out;obtain⟨c0,cH⟩:=bz.out wr _ _ _ _ E.out;obtain⟨gs,rfl,aS,s0,ap,q3⟩:=cx.out W Q.out.kept v2 vz;obtain⟨en,er,-,ej,ea,-⟩:=cx.out wr E.out.kept c0 cH;clear er;have dT:(0:Int)<=(k:Int):=by omega
   generalize (au S k).k=sk at *;have s5:Hid ((fP l).n<=900000000):=by show l.length<=_;rw[HL.out.1];omega
   have s6:Hid ((fM m).n<=900000000):=by show m.length<=_;rw[HL.out.2];omega
   have cq:Hid ((fP l).n=l.length):=rfl;have ct:Hid ((fM m).n=m.length):=rfl
   go_upto_region 7 with fail
   rw[HW.out];clear c0 cH ej ea;have dl:Hid (cm W (c:Option Addr) 6 kV ([]:List dj)):=by intro j x hx;cases hx
   have b4:Hid (Kl w G A (Jg,⟨c,0⟩)):=by intro g e;cases e
   have cP:Hid (∀g,(c:Option Addr)=some ⟨g,0,c⟩->g<W.heap.size):=by intro g e;cases e
   cases cu:(sk.toList == [36,97])
   ·rw[cu,QT (by simp)]at V
    cases a3:(sk.toList == [36,112])
    ·rw[a3,QT (by simp)]at V az
     go_upto_region 13 with fail
     clear v2 vz aS s0 ap q3;obtain⟨⟨p0,p1,p2,p3,p4⟩,-,pz⟩:=wK bx.out;have v3:W.cell? ⟨v,3,c⟩=some (.slice G.ao l.length G.cap):=by rw[aa Q.out.d];rfl
     have bj:=ae Q.out.d;have ai:=Q.out.o1;have br:Hid (∀u∈([.slice c 0 0,.int .i64 0,.string ⟨#[]⟩,.int .i64 0,.int .i64 0]:List Value),u.oneCell'=true):=EU (Jg,⟨c,0⟩)
     go_region_law (refine bH W rfl (.tmp 77) (.tmp 79) 83 rfl iP (.agg #[.slice c 0 0,.int .i64 0,.string ⟨#[]⟩,.int .i64 0,.int .i64 0]) 64 G (fP l) [.slice c 0 0,.int .i64 0,.string ⟨#[]⟩,.int .i64 0,.int .i64 0] underlying83 co bg a5 bd rfl (show 0<5 by omega) (by rw[cq.out];simp[Act.eval]) ai s5.out (by omega) (by simp[Act.eval]) rfl br.out ?_;intro H y w5 O I)
     all_goals
      rw[show([.slice c 0 0,.int .i64 0,.string ⟨#[]⟩,.int .i64 0,.int .i64 0]:List Value)=NS (Jg,⟨c,0⟩) from rfl,pV]at O;have f:Hid (vD w (w5.setCell ⟨v,3,c⟩ (.slice H ((fP l).n+1) y)) v b x0 x1 (l++[(Jg,⟨c,0⟩)]) ⟨H,y⟩ m A):=Q.out.addP (Jg,⟨c,0⟩) dl.out b4.out cP.out I O ((fP l).n+1) rfl;obtain⟨X5,N⟩:∃X5,Hid (w5.setCell ⟨v,3,c⟩ (.slice H ((fP l).n+1) y)=X5):=⟨_,rfl⟩
      have d5:=I.kept.get Q.out.d (fun B=>by have:=Q.out.f1 _ (aN B);have:=Q.out.lt;omega);have c5:w5.cell? ⟨v,3,c⟩=some (.slice G.ao l.length G.cap):=by rw[aa d5];rfl
      have e5:=am d5 3;have z5:=ae d5
      have ac:Hid (X5.heap[wr.heap.size+1]?=some (.cells #[.string ⟨#[]⟩,.int .i64 0,.int .i64 0,.string ⟨#[]⟩,.int .i64 0,.int .i64 0] 38 (0,0))):=by
       show _=_
       rw[<-N.out];exact((ab.refl [v] _).setCell (Q1 (by simp)) _).get (I.kept.get ba.out (fun B=>by have:=X.out.1 _ (aN B);omega)) (by have:=X.out.2.2.1;simp;omega)
      rw[N.out]at f;clear v3 bj p0 p1 p2 p3 p4 pz ai O I d5
      go_upto_region 15 with fail
      rw[N.out];clear c5 e5 z5;obtain⟨⟨r0,r1,r2,r3,r4,r5⟩,-,rz⟩:=tp ac.out;have v4:X5.cell? ⟨v,4,c⟩=some (.slice A.ao m.length A.cap):=by rw[aa f.out.d];rfl
      have bv:=ae f.out.d;have al:=f.out.o2;have bc:Hid (∀u∈([.string ⟨#[]⟩,.int .i64 0,.int .i64 0,.string ⟨#[]⟩,.int .i64 0,.int .i64 0]:List Value),u.oneCell'=true):=Fb N8
      go_region_law (refine bH X5 rfl (.tmp 89) (.tmp 91) 54 rfl iR (.agg #[.string ⟨#[]⟩,.int .i64 0,.int .i64 0,.string ⟨#[]⟩,.int .i64 0,.int .i64 0]) 64 A (fM m) [.string ⟨#[]⟩,.int .i64 0,.int .i64 0,.string ⟨#[]⟩,.int .i64 0,.int .i64 0] underlying54 cl bf a4 bp rfl (show 0<6 by omega) (by rw[ct.out];simp[Act.eval]) al s6.out (by omega) (by simp[Act.eval]) rfl bc.out ?_;intro bl ad w6 M L;have d6:=L.kept.get f.out.d (fun B=>by have:=f.out.f2 _ (aN B);have:=f.out.lt;omega);have f6:=am d6 4;have c6:w6.cell? ⟨v,4,c⟩=some (.slice A.ao m.length A.cap):=(by rw[aa d6];rfl);have z6:=ae d6)
      all_goals
       rw[show([.string ⟨#[]⟩,.int .i64 0,.int .i64 0,.string ⟨#[]⟩,.int .i64 0,.int .i64 0]:List Value)=jJ N8 from rfl,rL]at M;have a7:=hI (f.out.addR N8 L M ((fM m).n+1) rfl);clear M L d6 f6 c6 z6 r0 r1 r2 r3 r4 r5 rz v4 bv al;go_wp2
       go_roundg (S.length-(k+1))
       case measure=>omega
       case rel=>exact⟨k+1,l++[(Jg,⟨c,0⟩)],m++[N8],⟨H,y⟩,⟨bl,ad⟩,by omega,rfl,by go_num,cA.out _ _,cy.out _ az.out.symm,ck.out _ V.out.symm,a7⟩
    ·rw[a3,QW rfl]at V az
     have ca:=hI (dt.out (c7.out a3) W Q.out.kept);have a0:=hI (bw.out (c7.out a3));obtain⟨p,Hp⟩:∃p,Hid (Y k=p):=⟨_,rfl⟩
     obtain⟨r,Hr⟩:∃r,Hid (jr k=r):=⟨_,rfl⟩
     rw[Hp.out]at ca a0 az;rw[Hr.out]at a0 V;obtain⟨ps,py,J,pl,pc⟩:=p;obtain⟨rl,rv,ry,K,rn,rc⟩:=r;simp only at a0
     go_upto_region 12 with (go_at_call 88;refine QU ca.out ?_;rintro e w1 ⟨C,he,n1⟩;replace he:e=.returned (.agg #[.slice C.ao ps.length C.cap,.int .i64 py,.string J,.int .i64 pl,.int .i64 pc]):=he;subst he;obtain⟨⟨p0,p1,p2,p3,p4⟩,⟨f0,f1,f2,f3,f4⟩,pz⟩:=wK (n1.kept.get bx.out (by simp)))
     have ev:=hI n1;have B1:=ah (ah (ah (ah (ah (n1.kept.get bx.out (by simp)) 0 (.slice C.ao ps.length C.cap)) 1 (.int .i64 py)) 2 (.string J)) 3 (.int .i64 pl)) 4 (.int .i64 pc);obtain⟨X1,an⟩:∃X1,Hid (((((w1.setCell ⟨wr.heap.size,0,c⟩ (.slice C.ao ps.length C.cap)).setCell ⟨wr.heap.size,1,c⟩ (.int .i64 py)).setCell ⟨wr.heap.size,2,c⟩ (.string J)).setCell ⟨wr.heap.size,3,c⟩ (.int .i64 pl)).setCell ⟨wr.heap.size,4,c⟩ (.int .i64 pc)=X1):=⟨_,rfl⟩
     have af:Hid (ab [wr.heap.size] w1 X1):=by show ab _ _ _;rw[<-an.out];exact(((((ab.refl _ _).setCell (Q1 (by simp)) _).setCell (Q1 (by simp)) _).setCell (Q1 (by simp)) _).setCell (Q1 (by simp)) _).setCell (Q1 (by simp)) _
     have cf:Hid (X1.heap[wr.heap.size]?=some (.cells #[.slice C.ao ps.length C.cap,.int .i64 py,.string J,.int .i64 pl,.int .i64 pc] 122 (0,0))):=by show _=_;rw[<-an.out];exact B1
     have ar:Hid (ab [] wr X1):=by
      have k:=ag.out.trans n1.kept
      exact⟨af.out.os.trans k.os,af.out.tape.trans k.tape,af.out.output.trans k.output,Q3 k.size af.out.size,fun q B _=>by
       have:=k.size;rw[af.out.block q (by omega) (by simp;omega),k.block q B (by simp)]⟩
     have U:=hI (E.out.Vb ar.out);have b5:Hid (X1.heap[wr.heap.size+1]?=some (.cells #[.string ⟨#[]⟩,.int .i64 0,.int .i64 0,.string ⟨#[]⟩,.int .i64 0,.int .i64 0] 38 (0,0))):=af.out.get (n1.kept.get ba.out (by simp)) (by simp);have aT:Hid (∀g,C.ao=some ⟨g,0,c⟩->W.heap.size<=g/\g<w1.heap.size):=fun g e=>⟨n1.far g (tK e),n1.own.lt (tK e)⟩
     have cp:Hid (wr.heap.size+1<W.heap.size):=ae ba.out;have b6:Hid (cm X1 C.ao 6 kV ps):=(n1.own.srcG Mx).keptS af.out (fun g e B=>by have:=aT.out g e;have:=cp.out;simp at B;omega)
     have ei:Hid (Kl w G A (⟨ps,py,J,pl,pc⟩,C)):=fun g e=>by
      have h:=aT.out g e;have h':=cp.out;have ep:=X.out.2.2.2;exact⟨by omega,fun B=>by have:=X.out.1 g B;omega,fun B=>by have:=X.out.2.1 g B;omega⟩
     clear n1 B1 p0 p1 p2 p3 p4 f0 f1 f2 f3 f4 pz v2 vz aS s0 ap q3;rw[an.out];obtain⟨⟨p0,p1,p2,p3,p4⟩,-,pz⟩:=wK cf.out;obtain⟨v2,vz⟩:=bz.out X1 _ _ _ _ U.out;have d3:Hid (∀Z,ab [] X1 Z->(Z.cell? ⟨wr.heap.size+1,0,c⟩=some (.string ⟨#[]⟩)/\Z.cell? ⟨wr.heap.size+1,1,c⟩=some (.int .i64 0)/\Z.cell? ⟨wr.heap.size+1,2,c⟩=some (.int .i64 0)/\Z.cell? ⟨wr.heap.size+1,3,c⟩=some (.string ⟨#[]⟩)/\Z.cell? ⟨wr.heap.size+1,4,c⟩=some (.int .i64 0)/\Z.cell? ⟨wr.heap.size+1,5,c⟩=some (.int .i64 0))/\(Z.frozen? ⟨wr.heap.size+1,0,c⟩=false/\Z.frozen? ⟨wr.heap.size+1,1,c⟩=false/\Z.frozen? ⟨wr.heap.size+1,2,c⟩=false/\Z.frozen? ⟨wr.heap.size+1,3,c⟩=false/\Z.frozen? ⟨wr.heap.size+1,4,c⟩=false/\Z.frozen? ⟨wr.heap.size+1,5,c⟩=false)/\wr.heap.size+1<Z.heap.size):=fun Z k2=>tp (k2.get b5.out (by simp))
     go_region_with (go_at_call 89;refine(a0.out C _ (by exact U.out.kept.drew) (by exact b6.out.keptS (ab.refl [] X1).drew (by simp))).mono ?_;rintro e Z ⟨he,k2⟩;replace he:e=.returned (.agg #[.string rl,.int .i64 rv,.int .i64 ry,.string K,.int .i64 rn,.int .i64 rc]):=he;subst he;replace k2:=((ab.refl [] X1).drew).trans k2;obtain⟨⟨r0,r1,r2,r3,r4,r5⟩,⟨t0,t1,t2,t3,t4,t5⟩,rz⟩:=d3.out Z k2)
     all_goals
      have B2:=ah (ah (ah (ah (ah (ah (k2.get b5.out (by simp)) 0 (.string rl)) 1 (.int .i64 rv)) 2 (.int .i64 ry)) 3 (.string K)) 4 (.int .i64 rn)) 5 (.int .i64 rc);obtain⟨R,ax⟩:∃R,Hid ((((((Z.setCell ⟨wr.heap.size+1,0,c⟩ (.string rl)).setCell ⟨wr.heap.size+1,1,c⟩ (.int .i64 rv)).setCell ⟨wr.heap.size+1,2,c⟩ (.int .i64 ry)).setCell ⟨wr.heap.size+1,3,c⟩ (.string K)).setCell ⟨wr.heap.size+1,4,c⟩ (.int .i64 rn)).setCell ⟨wr.heap.size+1,5,c⟩ (.int .i64 rc)=R):=⟨_,rfl⟩
      have F:Hid (ab [wr.heap.size+1] X1 R):=by show ab _ _ _;rw[<-ax.out];exact((((((k2.mono (by simp)).setCell (Q1 (by simp)) _).setCell (Q1 (by simp)) _).setCell (Q1 (by simp)) _).setCell (Q1 (by simp)) _).setCell (Q1 (by simp)) _).setCell (Q1 (by simp)) _
      have bk:Hid (R.heap[wr.heap.size+1]?=some (.cells #[.string rl,.int .i64 rv,.int .i64 ry,.string K,.int .i64 rn,.int .i64 rc] 38 (0,0))):=by show _=_;rw[<-ax.out];exact B2
      have bo:=hI (F.out.get cf.out (by simp))
      have cj:Hid (ab [] wr R):=⟨F.out.os.trans ar.out.os,F.out.tape.trans ar.out.tape,F.out.output.trans ar.out.output,Q3 ar.out.size F.out.size,fun q B _=>by
       have:=ar.out.size;rw[F.out.block q (by omega) (by simp;omega),ar.out.block q B (by simp)]⟩
      have z:=hI (E.out.Vb cj.out);have bs:Hid (cm R C.ao 6 kV ps):=b6.out.keptS F.out (fun g e B=>by have:=aT.out g e;have:=cp.out;simp at B;omega);have d1:Hid (∀g,C.ao=some ⟨g,0,c⟩->g<R.heap.size):=fun g e=>by have:=(aT.out g e).2;have:=af.out.size;have:=F.out.size;omega
      clear k2 B2 r0 r1 r2 r3 r4 r5 t0 t1 t2 t3 t4 t5 rz p0 p1 p2 p3 p4 pz v2 vz
      go_upto_region 13 with fail
      rw[ax.out];obtain⟨⟨p0,p1,p2,p3,p4⟩,-,pz⟩:=wK bo.out;have v3:R.cell? ⟨v,3,c⟩=some (.slice G.ao l.length G.cap):=by rw[aa z.out.d];rfl
      have bj:=ae z.out.d;have ai:=z.out.o1;have br:Hid (∀u∈([.slice C.ao ps.length C.cap,.int .i64 py,.string J,.int .i64 pl,.int .i64 pc]:List Value),u.oneCell'=true):=EU (⟨ps,py,J,pl,pc⟩,C)
      go_region_law (refine bH R rfl (.tmp 77) (.tmp 79) 83 rfl iP (.agg #[.slice c 0 0,.int .i64 0,.string ⟨#[]⟩,.int .i64 0,.int .i64 0]) 64 G (fP l) [.slice C.ao ps.length C.cap,.int .i64 py,.string J,.int .i64 pl,.int .i64 pc] underlying83 co bg a5 bd rfl (show 0<5 by omega) (by rw[cq.out];simp[Act.eval]) ai s5.out (by omega) (by simp[Act.eval]) rfl br.out ?_;intro H y w5 O I)
      all_goals
       rw[show([.slice C.ao ps.length C.cap,.int .i64 py,.string J,.int .i64 pl,.int .i64 pc]:List Value)=NS (⟨ps,py,J,pl,pc⟩,C) from rfl,pV]at O;have f:Hid (vD w (w5.setCell ⟨v,3,c⟩ (.slice H ((fP l).n+1) y)) v b x0 x1 (l++[(⟨ps,py,J,pl,pc⟩,C)]) ⟨H,y⟩ m A):=z.out.addP (⟨ps,py,J,pl,pc⟩,C) bs.out ei.out d1.out I O ((fP l).n+1) rfl;obtain⟨X5,N⟩:∃X5,Hid (w5.setCell ⟨v,3,c⟩ (.slice H ((fP l).n+1) y)=X5):=⟨_,rfl⟩
       have d5:=I.kept.get z.out.d (fun B=>by have:=z.out.f1 _ (aN B);have:=z.out.lt;omega);have c5:w5.cell? ⟨v,3,c⟩=some (.slice G.ao l.length G.cap):=by rw[aa d5];rfl
       have e5:=am d5 3;have z5:=ae d5
       have ac:Hid (X5.heap[wr.heap.size+1]?=some (.cells #[.string rl,.int .i64 rv,.int .i64 ry,.string K,.int .i64 rn,.int .i64 rc] 38 (0,0))):=by
        show _=_
        rw[<-N.out];exact((ab.refl [v] _).setCell (Q1 (by simp)) _).get (I.kept.get bk.out (fun B=>by have:=X.out.1 _ (aN B);omega)) (by have:=X.out.2.2.1;simp;omega)
       rw[N.out]at f;clear v3 bj p0 p1 p2 p3 p4 pz ai O I d5
       go_upto_region 15 with fail
       rw[N.out];clear c5 e5 z5;obtain⟨⟨r0,r1,r2,r3,r4,r5⟩,-,rz⟩:=tp ac.out;have v4:X5.cell? ⟨v,4,c⟩=some (.slice A.ao m.length A.cap):=by rw[aa f.out.d];rfl
       have bv:=ae f.out.d;have al:=f.out.o2;have bc:Hid (∀u∈([.string rl,.int .i64 rv,.int .i64 ry,.string K,.int .i64 rn,.int .i64 rc]:List Value),u.oneCell'=true):=Fb ⟨rl,rv,ry,K,rn,rc⟩
       go_region_law (refine bH X5 rfl (.tmp 89) (.tmp 91) 54 rfl iR (.agg #[.string ⟨#[]⟩,.int .i64 0,.int .i64 0,.string ⟨#[]⟩,.int .i64 0,.int .i64 0]) 64 A (fM m) [.string rl,.int .i64 rv,.int .i64 ry,.string K,.int .i64 rn,.int .i64 rc] underlying54 cl bf a4 bp rfl (show 0<6 by omega) (by rw[ct.out];simp[Act.eval]) al s6.out (by omega) (by simp[Act.eval]) rfl bc.out ?_;intro bl ad w6 M L;have d6:=L.kept.get f.out.d (fun B=>by have:=f.out.f2 _ (aN B);have:=f.out.lt;omega);have f6:=am d6 4;have c6:w6.cell? ⟨v,4,c⟩=some (.slice A.ao m.length A.cap):=(by rw[aa d6];rfl);have z6:=ae d6)
       all_goals
        rw[show([.string rl,.int .i64 rv,.int .i64 ry,.string K,.int .i64 rn,.int .i64 rc]:List Value)=jJ ⟨rl,rv,ry,K,rn,rc⟩ from rfl,rL]at M;have a7:=hI (f.out.addR ⟨rl,rv,ry,K,rn,rc⟩ L M ((fM m).n+1) rfl);clear M L d6 f6 c6 z6 r0 r1 r2 r3 r4 r5 rz v4 bv al;go_wp2
        go_roundg (S.length-(k+1))
        case measure=>omega
        case rel=>exact⟨k+1,l++[(⟨ps,py,J,pl,pc⟩,C)],m++[⟨rl,rv,ry,K,rn,rc⟩],⟨H,y⟩,⟨bl,ad⟩,by omega,rfl,by go_num,cA.out _ _,cy.out _ az.out.symm,ck.out _ V.out.symm,a7⟩
   ·rw[cu,QW rfl]at V
    have a3:=Gr _ cu;rw[a3,QT (by simp)]at az;have df:=hI (db.out W Q.out.kept)
    go_upto_region 9 with (go_at_call 87;refine QU df.out ?_;rintro e w1 ⟨rfl,k1⟩;obtain⟨⟨r0,r1,r2,r3,r4,r5⟩,⟨t0,t1,t2,t3,t4,t5⟩,rz⟩:=tp (k1.get ba.out (by simp)))
    have B1:=ah (k1.get ba.out (by simp)) 0 (.string lb);have B2:=ah B1 1 (.int .i64 1);obtain⟨X1,an⟩:∃X1,Hid (w1.setCell ⟨wr.heap.size+1,0,c⟩ (.string lb)=X1):=⟨_,rfl⟩
    rw[an.out]at B1 B2;obtain⟨R,ax⟩:∃R,Hid (X1.setCell ⟨wr.heap.size+1,1,c⟩ (.int .i64 1)=R):=⟨_,rfl⟩
    have F:Hid (ab [wr.heap.size+1] W R):=by show ab _ _ _;rw[<-ax.out,<-an.out];exact((k1.mono (by simp)).setCell (Q1 (by simp)) _).setCell (Q1 (by simp)) _
    have bk:Hid (R.heap[wr.heap.size+1]?=some (.cells #[.string lb,.int .i64 1,.int .i64 0,.string ⟨#[]⟩,.int .i64 0,.int .i64 0] 38 (0,0))):=by show _=_;rw[<-ax.out];exact B2
    have bo:=hI (F.out.get bx.out (by simp))
    have cj:Hid (ab [] wr R):=⟨F.out.os.trans ag.out.os,F.out.tape.trans ag.out.tape,F.out.output.trans ag.out.output,Q3 ag.out.size F.out.size,fun q B _=>by
     have:=ag.out.size;rw[F.out.block q (by omega) (by simp;omega),ag.out.block q B (by simp)]⟩
    have z:=hI (E.out.Vb cj.out);have bs:Hid (cm R (c:Option Addr) 6 kV ([]:List dj)):=by intro j x hx;cases hx
    have cL:Hid (∀g,(c:Option Addr)=some ⟨g,0,c⟩->g<R.heap.size):=by intro g e;cases e
    rw[an.out];clear r0 r1 r2 r3 r4 r5 t0 t1 t2 t3 t4 t5 rz k1 v2 vz aS s0 ap q3;have r1:X1.cell? ⟨wr.heap.size+1,1,c⟩=some (.int .i64 0):=by rw[aa B1];rfl
    have t1:=am B1 1;have rz:=ae B1;clear B1 B2
    go_upto_region 10 with fail
    rw[ax.out];clear r1 t1 rz;obtain⟨v2,vz⟩:=bz.out R _ _ _ _ z.out;obtain⟨em,eh,aS,s0,ap,q3⟩:=cx.out R z.out.kept v2 vz
    cases eh
    go_upto_region 13 with fail
    clear v2 vz aS s0 ap q3;obtain⟨⟨p0,p1,p2,p3,p4⟩,-,pz⟩:=wK bo.out;have v3:R.cell? ⟨v,3,c⟩=some (.slice G.ao l.length G.cap):=by rw[aa z.out.d];rfl
    have bj:=ae z.out.d;have ai:=z.out.o1;have br:Hid (∀u∈([.slice c 0 0,.int .i64 0,.string ⟨#[]⟩,.int .i64 0,.int .i64 0]:List Value),u.oneCell'=true):=EU (Jg,⟨c,0⟩)
    go_region_law (refine bH R rfl (.tmp 77) (.tmp 79) 83 rfl iP (.agg #[.slice c 0 0,.int .i64 0,.string ⟨#[]⟩,.int .i64 0,.int .i64 0]) 64 G (fP l) [.slice c 0 0,.int .i64 0,.string ⟨#[]⟩,.int .i64 0,.int .i64 0] underlying83 co bg a5 bd rfl (show 0<5 by omega) (by rw[cq.out];simp[Act.eval]) ai s5.out (by omega) (by simp[Act.eval]) rfl br.out ?_;intro H y w5 O I)
    all_goals
     rw[show([.slice c 0 0,.int .i64 0,.string ⟨#[]⟩,.int .i64 0,.int .i64 0]:List Value)=NS (Jg,⟨c,0⟩) from rfl,pV]at O;have f:Hid (vD w (w5.setCell ⟨v,3,c⟩ (.slice H ((fP l).n+1) y)) v b x0 x1 (l++[(Jg,⟨c,0⟩)]) ⟨H,y⟩ m A):=z.out.addP (Jg,⟨c,0⟩) bs.out b4.out cL.out I O ((fP l).n+1) rfl;obtain⟨X5,N⟩:∃X5,Hid (w5.setCell ⟨v,3,c⟩ (.slice H ((fP l).n+1) y)=X5):=⟨_,rfl⟩
     have d5:=I.kept.get z.out.d (fun B=>by have:=z.out.f1 _ (aN B);have:=z.out.lt;omega);have c5:w5.cell? ⟨v,3,c⟩=some (.slice G.ao l.length G.cap):=by rw[aa d5];rfl
     have e5:=am d5 3;have z5:=ae d5
     have ac:Hid (X5.heap[wr.heap.size+1]?=some (.cells #[.string lb,.int .i64 1,.int .i64 0,.string ⟨#[]⟩,.int .i64 0,.int .i64 0] 38 (0,0))):=by
      show _=_
      rw[<-N.out];exact((ab.refl [v] _).setCell (Q1 (by simp)) _).get (I.kept.get bk.out (fun B=>by have:=X.out.1 _ (aN B);omega)) (by have:=X.out.2.2.1;simp;omega)
     rw[N.out]at f;clear v3 bj p0 p1 p2 p3 p4 pz ai O I d5
     go_upto_region 15 with fail
     rw[N.out];clear c5 e5 z5;obtain⟨⟨r0,r1,r2,r3,r4,r5⟩,-,rz⟩:=tp ac.out;have v4:X5.cell? ⟨v,4,c⟩=some (.slice A.ao m.length A.cap):=by rw[aa f.out.d];rfl
     have bv:=ae f.out.d;have al:=f.out.o2;have bc:Hid (∀u∈([.string lb,.int .i64 1,.int .i64 0,.string ⟨#[]⟩,.int .i64 0,.int .i64 0]:List Value),u.oneCell'=true):=Fb ⟨lb,1,0,⟨#[]⟩,0,0⟩
     go_region_law (refine bH X5 rfl (.tmp 89) (.tmp 91) 54 rfl iR (.agg #[.string ⟨#[]⟩,.int .i64 0,.int .i64 0,.string ⟨#[]⟩,.int .i64 0,.int .i64 0]) 64 A (fM m) [.string lb,.int .i64 1,.int .i64 0,.string ⟨#[]⟩,.int .i64 0,.int .i64 0] underlying54 cl bf a4 bp rfl (show 0<6 by omega) (by rw[ct.out];simp[Act.eval]) al s6.out (by omega) (by simp[Act.eval]) rfl bc.out ?_;intro bl ad w6 M L;have d6:=L.kept.get f.out.d (fun B=>by have:=f.out.f2 _ (aN B);have:=f.out.lt;omega);have f6:=am d6 4;have c6:w6.cell? ⟨v,4,c⟩=some (.slice A.ao m.length A.cap):=(by rw[aa d6];rfl);have z6:=ae d6)
     all_goals
      rw[show([.string lb,.int .i64 1,.int .i64 0,.string ⟨#[]⟩,.int .i64 0,.int .i64 0]:List Value)=jJ ⟨lb,1,0,⟨#[]⟩,0,0⟩ from rfl,rL]at M;have a7:=hI (f.out.addR ⟨lb,1,0,⟨#[]⟩,0,0⟩ L M ((fM m).n+1) rfl);clear M L d6 f6 c6 z6 r0 r1 r2 r3 r4 r5 rz v4 bv al;go_wp2
      go_roundg (S.length-(k+1))
      case measure=>omega
      case rel=>exact⟨k+1,l++[(Jg,⟨c,0⟩)],m++[⟨lb,1,0,⟨#[]⟩,0,0⟩],⟨H,y⟩,⟨bl,ad⟩,by omega,rfl,by go_num,cA.out _ _,cy.out _ az.out.symm,ck.out _ V.out.symm,a7⟩
  ·have e:k=S.length:=by omega
   subst e
   have d2:Hid (∀t,t<S.length->(lr l t).1=xM S Y t):=fun t ht=>by
    have G:=As l t (by rw[HL.out.1];exact ht);have A:(l.map (·.1))[t]?=some (xM S Y t):=by rw[cz.out,Rq,Uy ht];rfl
    rw[Rq,G]at A;exact Option.some.inj A
   have d0:Hid (∀a,a<S.length->∀t,t<=a->(lr l t).1.st.length<=100000000/\∀i,i<(lr l t).1.st.length->(bO (lr l t).1.st i).ref<=(a:Int)):=fun a ha t ht=>by
    rw[d2.out t (by omega)];unfold xM
    cases C:tY S t
    ·rw[QT (by simp)]
     exact⟨Ro _,fun i hi=>by cases hi⟩
    ·rw[QW rfl]
     obtain⟨q1,q2⟩:=cR.out t (by omega) C;exact⟨q1,fun i hi=>by have:=q2 i hi;omega⟩
   have d4:=hI HL.out.1;have c9:=hI HL.out.2;have ds:Hid (pv S l m m 0):=⟨rfl,fun _ _=>rfl,fun a h=>absurd h (T0 a),fun a h=>absurd h (T0 a)⟩;have v2:wr.cell? ⟨v,2,c⟩=some (.pointer (some ⟨b,0,c⟩)):=by rw[aa E.out.d];rfl
   have vz:=ae E.out.d;obtain⟨-,s0,ap⟩:=(HD.out wr E.out.kept).cells;have eq:¬(S.length:Int)<(S.length:Int):=by omega
   clear b0 b3 cR cX HL D hk;go_wp2;clear v2 vz s0 ap
   go_loopg [6] m.length (fun g iv wr=>∃(k:Nat) (o:List ik),k<=m.length/\g=m.length-k/\iv=.int .i64 k/\Hid (pv S l m o k)/\Hid (vD w wr v b x0 x1 l G o A))
   case atStart=>exact⟨0,m,by omega,rfl,rfl,ds,E⟩
   case round =>
    clear E ds;obtain⟨k,o,hk,et,rfl,HF,Q⟩:=hrel;have c2:=hI HF.out.len;have vz:=ae Q.out.d
    by_cases D:k<o.length
    ·have dp:k<m.length:=by rw[<-c2.out];exact D
     have cB:k<S.length:=by rw[<-c9.out];exact dp
     have d8:k<l.length:=by rw[d4.out];exact cB
     obtain⟨g2,e2,cV,cc⟩:=Q.out.jds.r k _ (Az o k D);have a6:=hI e2;have v4:wr.cell? ⟨v,4,c⟩=some (.slice (some ⟨g2,0,c⟩) o.length A.cap):=by rw[aa Q.out.d,<-e2];rfl
     have c1:wr.cell? ⟨g2,k*6+1,c⟩=some (.int .i64 (ff o k).Vc):=cc 1 _ rfl;clear e2 cc;have dz:Hid (ff m k=ff o k):=(HF.out.old k (QR _)).symm;have d7:=hI (CO v b k T ch cT S be cS x0 x1 l G.ao G.cap o A.ao A.cap wr (HD.out wr Q.out.kept) Q.out.jds d8 D cB (by omega) (fun j hj=>HA.out j (by omega)) (d0.out k cB));have ec:(k:Int)<(o.length:Int):=by omega
     have dT:(0:Int)<=(k:Int):=by omega
     have bw:Hid ((ff m k).Vc=(ff o k).Vc):=by show _=_;rw[dz.out]
     generalize hvd:(ff o k).Vc=vd at *;clear hvd
     cases h4:(vd==4)
     ·have HM:=hI (HF.out.same (fun q=>by rw[bw.out]at q;rw[q.1]at h4;cases h4))
      go_wp2
      go_roundg (m.length-(k+1))
      case measure=>omega
      case rel=>exact⟨k+1,o,by omega,rfl,by go_num,HM,Q⟩
     ·have ef:Hid ((ff m k).Vc=4):=by show _=_;rw[bw.out];exact TR h4
      go_upto_region 21 with (go_at_call 67;refine QU d7.out ?_;rintro e w1 ⟨eg,n1,n2,dk,he,a1,a2⟩;obtain⟨nb,c8⟩:∃nb,Hid ((DK T S o eg (k+1)).length=nb):=⟨_,rfl⟩;rw[c8.out]at he;subst he)
      have HG:=hI (Nd (T:=T) HF.out dk);rw[c8.out]at HG;have U:=hI (Q.out.Vb a1.kept);clear dk a1 a2 v4 c1 vz cV
      cases nb with
      | zero =>
       have cV:=U.out.o2.lt (tK a6.out);have vz:=ae U.out.d;have v4:w1.cell? ⟨v,4,c⟩=some (.slice (some ⟨g2,0,c⟩) o.length A.cap):=by rw[aa U.out.d,<-a6.out];rfl
       obtain⟨g3,e3,-,cc⟩:=U.out.jds.r k _ (Az o k D);have e3:g3=g2:=by have:=e3.symm.trans a6.out;cases this;rfl
       subst e3;have c1:w1.cell? ⟨g3,k*6+1,c⟩=some (.int .i64 (ff o k).Vc):=cc 1 _ rfl;have f1:w1.frozen? ⟨g3,k*6+1,c⟩=false:=Cz U.out.o2 a6.out _;have HM:=hI (HF.out.turn dp ef.out (HG.out.1 rfl));have z:=hI (U.out.put a6.out k D 5);clear cc;go_wp2
       go_roundg (m.length-(k+1))
       case measure=>omega
       case rel=>exact⟨k+1,_,by omega,rfl,by go_num,HM,z⟩
      | succ nb =>
       have HM:=hI (HF.out.same (fun q=>by have:=HG.out.2 q.2;omega));have es:(((nb+1:Nat):Int)==0)=false:=by simp;omega
       go_wp2
       go_roundg (m.length-(k+1))
       case measure=>omega
       case rel=>exact⟨k+1,o,by omega,rfl,by go_num,HM,U⟩
    ·have ek:k=m.length:=by have:=c2.out;omega
     subst ek;have el:¬(m.length:Int)<(o.length:Int):=by omega
     have v4:wr.cell? ⟨v,4,c⟩=some (.slice A.ao o.length A.cap):=by rw[aa Q.out.d];rfl
     have eb:Hid (pv S l ((List.range S.length).map (oO T S jr)) o S.length):=by
      have:=HF.out;rw[c9.out]at this;rw[<-cE.out];exact this
     go_wp2;go_end0;exact⟨l,G,A,o,rfl,cz.out,eb.out,Q.out⟩
end Go.Proofs.YtpddjjabfbfifaaGreat
