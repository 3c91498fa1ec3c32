import Derived.Test.YtnbhnocdhbcbcaaGreatG22
namespace Go.Proofs.YtnbhnocdhbcbcaaGreat
open Go.RowKit Tryz
open Value IntKind Ending
set_option maxHeartbeats 0
variable{b:World}{w S:Nat}{x y v d k:Value}{n:List Sm}{H:List (jM×Hd)}{l f:List fO}
def JI:jM:=⟨[],0,⟨#[]⟩,0,0⟩
def Mk(S:List Sm)(a:Nat):Bool:=(aq S a).k.toList == [36,97]
def mR(S:List Sm)(a:Nat):Bool:=(aq S a).k.toList == [36,112]
def sg(S:List Sm)(pf:Nat->jM)(a:Nat):jM:=if mR S a=true then pf a else JI
def mS(T:List Tk)(S:List Sm)(jr:Nat->fO)(a:Nat):fO:=if Mk S a=true then⟨bN T (aq S a),1,0,⟨#[]⟩,0,0⟩ else if mR S a=true then jr a else OZ
theorem xw{α:Type}(f:Nat->α)(k:Nat):(List.range (k+1)).map f=(List.range k).map f++[f k]:=by
 rw[Ty,SF];rfl
theorem Fd(x:jM×Hd):∀u∈OI x,u.oneCell'=true:=by
 intro u a;unfold OI at a;simp only[List.mem_cons,List.not_mem_nil,or_false]at a;rcases a with rfl | rfl | rfl | rfl | rfl <;> rfl
theorem Fw(x:fO):∀u∈gx x,u.oneCell'=true:=by
 intro u a;unfold gx at a;simp only[List.mem_cons,List.not_mem_nil,or_false]at a;rcases a with rfl | rfl | rfl | rfl | rfl | rfl <;> rfl
theorem xp(h:b.heap[w]?=some (.cells #[x,y,v,d,k] 122)) :
  (b.cell? ⟨w,0,none⟩=some x/\b.cell? ⟨w,1,none⟩=some y/\b.cell? ⟨w,2,none⟩=some v/\b.cell? ⟨w,3,none⟩=some d/\b.cell? ⟨w,4,none⟩=some k) /\
  (b.frozen? ⟨w,0,none⟩=false/\b.frozen? ⟨w,1,none⟩=false/\b.frozen? ⟨w,2,none⟩=false/\b.frozen? ⟨w,3,none⟩=false/\b.frozen? ⟨w,4,none⟩=false)/\w<b.heap.size:=by
 refine⟨⟨?_,?_,?_,?_,?_⟩,⟨am h 0,am h 1,am h 2,am h 3,am h 4⟩,ae h⟩
 all_goals (rw[aj h];rfl)
theorem tU{a:Value}(h:b.heap[w]?=some (.cells #[x,y,v,d,k,a] 38)) :
  (b.cell? ⟨w,0,none⟩=some x/\b.cell? ⟨w,1,none⟩=some y/\b.cell? ⟨w,2,none⟩=some v/\b.cell? ⟨w,3,none⟩=some d/\b.cell? ⟨w,4,none⟩=some k/\b.cell? ⟨w,5,none⟩=some a) /\
  (b.frozen? ⟨w,0,none⟩=false/\b.frozen? ⟨w,1,none⟩=false/\b.frozen? ⟨w,2,none⟩=false/\b.frozen? ⟨w,3,none⟩=false/\b.frozen? ⟨w,4,none⟩=false/\b.frozen? ⟨w,5,none⟩=false)/\w<b.heap.size:=by
 refine⟨⟨?_,?_,?_,?_,?_,?_⟩,⟨am h 0,am h 1,am h 2,am h 3,am h 4,am h 5⟩,ae h⟩
 all_goals (rw[aj h];rfl)
def pv(S:List Sm)(PS:List (jM×Hd))(RS:List fO)(a:Nat):Prop:=∀t,t<=a->fz PS RS a t->mR S t=true->di RS t=true
structure oK(S:List Sm)(PS:List (jM×Hd))(RS RS':List fO)(n:Nat):Prop where
 len:RS'.length=RS.length
 old:∀a,n<=a->eR RS' a=eR RS a
 yes:∀a,a<n->(eR RS a).Wk=4->pv S PS RS a->eR RS' a={ eR RS a with Wk:=5 }
 no:∀a,a<n->¬((eR RS a).Wk=4/\pv S PS RS a)->eR RS' a=eR RS a
theorem xK(b:List fO)(k a:Nat)(r:fO)(h:k<b.length):eR (b.set k r) a=if a=k then r else eR b a:=by
 unfold eR;rw[RT,Tl,RT];by_cases e:k=a
 ·subst e;rw[RY rfl,RY rfl,RY h];rfl
 ·rw[RU e,RU (fun q=>e q.symm)]
theorem oK.same(h:oK n H l f w)(i:¬((eR l w).Wk=4/\pv n H l w)):oK n H l f (w+1) :=
 ⟨h.len,fun a d=>h.old a (by omega),fun a d c g=>by
  by_cases e:a=w
  ·subst e;exact absurd ⟨c,g⟩ i
  ·exact h.yes a (by omega) c g,fun a d b=>by
  by_cases e:a=w
  ·subst e;exact h.old a (RV _)
  ·exact h.no a (by omega) b⟩
theorem oK.turn(h:oK n H l f w)(j:w<l.length)(g:(eR l w).Wk=4)(i:pv n H l w):oK n H l (f.set w { eR f w with Wk:=5 }) (w+1):=by
 have b:w<f.length:=by rw[h.len];exact j
 refine⟨by rw[SS];exact h.len,fun a d=>?_,fun a d k m=>?_,fun a d c=>?_⟩
 ·rw[xK _ _ _ _ b,RU (by omega)];exact h.old a (by omega)
 ·rw[xK _ _ _ _ b];by_cases e:a=w
  ·subst e;rw[RY rfl,h.old a (RV _)]
  ·rw[RU e];exact h.yes a (by omega) k m
 ·rw[xK _ _ _ _ b];by_cases e:a=w
  ·subst e;exact absurd ⟨g,i⟩ c
  ·rw[RU e];exact h.no a (by omega) c
theorem oK.sound(h:oK n H l f w)(t:Nat):di f t=di l t:=by
 by_cases a:t<w
 ·by_cases e:(eR l t).Wk=4/\pv n H l t
  ·unfold di;rw[h.yes t a e.1 e.2,e.1];rfl
  ·unfold di;rw[h.no t a e]
 ·unfold di;rw[h.old t (by omega)]
theorem fz.of(d:∀t,di f t=di l t)(h:fz H f w S):fz H l w S:=by
 exact h _ fz.self (fun t S i e a b c=>fz.step e (by rw[<-d];exact a) b c)
theorem NU{T:List Tk}(h:oK n H l f w){b:List Bool}(i:∀k,b.getD k false=true ↔ fz H f S k):(Ef T n f b (S+1)).length=0 ↔ pv n H l S:=by
 have c:=h.sound;unfold Ef;rw[Sn,UI,UN];constructor
 ·intro o t g p j;have d:fz H f S t:=fz.of (fun t=>(c t).symm) p;have:=o t (Sd.2 (by omega));unfold QO at this;rw[(i t).2 d]at this;unfold mR at j;rw[j,c t]at this;cases e:di l t
  ·rw[e]at this;exact absurd rfl this
  ·rfl
 ·intro m t g a;have g:=Sd.1 g;unfold QO at a;rw[Sk,Sk]at a;have:=m t (by omega) (fz.of c ((i t).1 a.1)) a.2.1;rw[c t,this]at a;exact absurd a.2.2 (by simp)
theorem CV{h:Hd}{r:eB}(o:aC b h r)(a:h.ao=some ⟨w,0,none⟩)(j:Nat):b.frozen? ⟨w,j,none⟩=false:=by
 rcases o.Wu with ⟨e,-,-⟩ | ⟨d,f,e,c,-⟩
 ·rw[e]at a;cases a
 ·rw[e]at a;cases a;exact am c j
def KY(T:List Tk)(S:List Sm)(v b:Nat)(x0 x1:Value)(pf:Nat->jM)(jr:Nat->fO)(w:World)(e:Ending)(w':World):Prop :=
 ∃(PS:List (jM×Hd)) (h1 h2:Hd) (RS':List fO),e=returned (tuple #[])/\PS.map (·.1)=(List.range S.length).map (sg S pf)/\oK S PS ((List.range S.length).map (mS T S jr)) RS' S.length/\wh w w' v b x0 x1 PS h1 RS' h2
set_option maxRecDepth 100000
theorem EH(v b:Nat)(T:List Tk)(cx:Option Addr)(cT:Nat)(S:List Sm)(be:Option Addr)(cS:Nat)(x0 x1 y3 y4:Value)(X:Nat->jM)(jr:Nat->fO)(w:World)(hv:w.heap[v]?=some (.cells #[x0,x1,pointer (some ⟨b,0,none⟩),y3,y4] 85))(hD:∀Z,aa [v] w Z->fZ Z b T cx cT S be cS)(hS:S.length<=10000)(hA:∀j,j<S.length->(aq S j).a<T.length)(cb:∀a,a<S.length->mR S a=true->∀Z,aa [v] w Z->Calls prog 89 #[pointer (some ⟨b,0,none⟩),int i64 a] Z fun e O=>oM Z (X a) e O)(cf:∀a,a<S.length->mR S a=true->∀(E:Hd) (Z:World),aa [v] w Z->cG Z E.ao 6 lq (X a).st->Calls prog 90 #[pointer (some ⟨b,0,none⟩),int i64 a,agg #[slice E.ao (X a).st.length E.cap,int i64 (X a).why,string (X a).file,int i64 (X a).line,int i64 (X a).col]] Z fun e O=>Ld Z (jr a) e O)(db:∀a,a<S.length->mR S a=true->(X a).st.length<=100000000/\∀i,i<(X a).st.length->(bK (X a).st i).ref<=(a:Int)) :
  Calls prog 58 #[pointer (some ⟨v,0,none⟩)] w fun e O=>KY T S v b x0 x1 X jr w e O:=by
 obtain⟨iP,cy,bf,bg,bj⟩:=Sr P7;obtain⟨iR,cz,bk,bl,bo⟩:=Sr GN;have b1:=ah hv 4 (slice none 0 0);have b2:=ah b1 3 (slice none 0 0);obtain⟨W0,ct⟩:∃W0,Hid ((w.setCell ⟨v,4,none⟩ (slice none 0 0)).setCell ⟨v,3,none⟩ (slice none 0 0)=W0):=⟨_,rfl⟩
 have c9:Hid (wh w W0 v b x0 x1 [] ⟨none,0⟩ [] ⟨none,0⟩):=by
  refine⟨by rw[<-ct.out];exact b2,ae hv,Sb _ _ _ _,Sb _ _ _ _,(by intro k hk;cases hk),(by intro k hk;cases hk),(by intro k hk;cases hk),by rw[<-ct.out];exact((aa.refl [v] w).setCell (R4 (by simp)) _).setCell (R4 (by simp)) _,(by intro x hx;cases hx),(by intro x hx;cases hx)⟩
 obtain⟨-,-,-,-,c4⟩:=nR hv;have e4:=am hv 4;have c3:(w.setCell ⟨v,4,none⟩ (slice none 0 0)).cell? ⟨v,3,none⟩=some y3:=by rw[aj b1];rfl
 have e3:=am b1 3;have hz:=ae hv;have eg:=ae b1;have HD:Hid _:=hD;have HA:Hid _:=hA;have b4:Hid _:=cb;have b5:Hid _:=cf;have cV:Hid _:=db;have ej:Hid _:=ae hv;clear hD hA cb cf db b1 b2 hv;go_enter func58,ntmps58;go_upto_region 2 with fail
 rw[ct.out];clear c4 e4 c3 e3 hz eg;go_wp2
 go_loopg [2] S.length (fun g iv wr=>∃(k:Nat) (f:List (jM×Hd)) (l:List fO) (G z:Hd),k<=S.length/\g=S.length-k/\iv=int i64 k/\Hid (f.length=k/\l.length=k)/\Hid (f.map (·.1)=(List.range k).map (sg S X))/\Hid (l=(List.range k).map (mS T S jr))/\Hid (wh w wr v b x0 x1 f G l z))
 case atStart=>exact⟨0,[],[],⟨none,0⟩,⟨none,0⟩,by omega,rfl,rfl,⟨rfl,rfl⟩,rfl,rfl,c9⟩
 case round =>
  obtain⟨k,f,l,G,z,hk,hg,rfl,HL,co,cX,B⟩:=hrel;by_cases D:k<S.length
  ·have ef:(k:Int)<S.length:=(by omega);obtain⟨W,HW⟩:∃W,Hid ((wr.alloc (.cells #[slice none 0 0,int i64 0,string ⟨#[]⟩,int i64 0,int i64 0] 122)).alloc (.cells #[string ⟨#[]⟩,int i64 0,int i64 0,string ⟨#[]⟩,int i64 0,int i64 0] 38)=W):=⟨_,rfl⟩
   have ad:Hid (aa [] wr W):=(by show aa [] wr W;rw[<-HW.out];exact((aa.refl [] _).alloc _).alloc _);have bw:Hid (W.heap[wr.heap.size]?=some (.cells #[slice none 0 0,int i64 0,string ⟨#[]⟩,int i64 0,int i64 0] 122)):=by
    show _=_;rw[<-HW.out];exact((aa.refl [] _).alloc _).get (R2 _ _) (by simp)
   have a5:Hid (W.heap[wr.heap.size+1]?=some (.cells #[string ⟨#[]⟩,int i64 0,int i64 0,string ⟨#[]⟩,int i64 0,int i64 0] 38)):=by
    show _=_;rw[<-HW.out];have:=R2 (wr.alloc (.cells #[slice none 0 0,int i64 0,string ⟨#[]⟩,int i64 0,int i64 0] 122)) (.cells #[string ⟨#[]⟩,int i64 0,int i64 0,string ⟨#[]⟩,int i64 0,int i64 0] 38);simpa using this
   have P:Hid _:=B.out.Wj ad.out;have U:Hid ((∀q,G.blk=some q->q<wr.heap.size)/\(∀q,z.blk=some q->q<wr.heap.size)/\v<wr.heap.size/\w.heap.size<=wr.heap.size):=⟨fun q A=>B.out.o1.lt A,fun q A=>B.out.o2.lt A,ae B.out.d,B.out.kept.size⟩
   have cs:Hid (∀O:World,aa [v] w O->O.cell? ⟨v,2,none⟩=some (pointer (some ⟨b,0,none⟩))->v<O.heap.size->∃gs,be=some ⟨gs,0,none⟩/\gs<O.heap.size/\O.cell? ⟨b,1,none⟩=some (slice be S.length cS)/\b<O.heap.size/\O.cell? ⟨gs,k*4+3,none⟩=some (string (aq S k).k)):=fun O kw _ _=>by
    have hd:=HD.out O kw;obtain⟨-,s0,hb⟩:=hd.cells;obtain⟨gs,e3,aS,-,-,-,q3⟩:=hd.s.2 k S[k] (RQ D);rw[bQ S k D]at q3;exact⟨gs,e3,aS,s0,hb,q3⟩
   have bx:Hid (∀(O:World) f G l z,wh w O v b x0 x1 f G l z->O.cell? ⟨v,2,none⟩=some (pointer (some ⟨b,0,none⟩))/\v<O.heap.size):=fun O f G l z a=>⟨by rw[aj a.d];rfl,ae a.d⟩
   have cH:Hid (∀Z,aa [v] w Z->Calls prog 88 #[pointer (some ⟨b,0,none⟩),int i64 k] Z fun e O=>e=returned (string (bN T (aq S k)))/\aa [] Z O):=fun Z kx=>by
    have:=qI b k T cx cT S be cS Z (HD.out Z kx) D (by rw[bQ S k D];exact HA.out k D);rw[bQ S k D]at this;exact this
   have ds:Hid _:=b4.out k D;have bz:Hid _:=b5.out k D;have ap:Hid (sg S X k=if((aq S k).k.toList == [36,112])=true then X k else JI):=rfl;have V:Hid (mS T S jr k=if((aq S k).k.toList == [36,97])=true then⟨bN T (aq S k),1,0,⟨#[]⟩,0,0⟩ else if((aq S k).k.toList == [36,112])=true then jr k else OZ):=rfl;have ck:Hid (∀x:jM×Hd,x.1=sg S X k->(f++[x]).map (·.1)=(List.range (k+1)).map (sg S X)):=fun x hx=>by rw[xw,SF,co.out,<-hx];rfl
   have cl:Hid (∀r,r=mS T S jr k->l++[r]=(List.range (k+1)).map (mS T S jr)):=fun r hr=>by rw[xw,hr,<-cX.out]
   have cj:Hid (∀(x:jM×Hd) (r:fO),(f++[x]).length=k+1/\(l++[r]).length=k+1):=fun x r=>⟨by rw[R9,HL.out.1];rfl,by rw[R9,HL.out.2];rfl⟩
   have cF:Hid (((aq S k).k.toList == [36,112])=true->mR S k=true):=fun h=>h;obtain⟨lb,d8⟩:∃lb,Hid (bN T (aq S k)=lb):=⟨_,rfl⟩
   rw[d8.out]at cH V;obtain⟨v2,vz⟩:=bx.out W _ _ _ _ P.out;obtain⟨dl,dp⟩:=bx.out wr _ _ _ _ B.out;obtain⟨gs,rfl,aS,s0,az,q3⟩:=cs.out W P.out.kept v2 vz;obtain⟨en,er,-,ei,ea,-⟩:=cs.out wr B.out.kept dl dp;clear er;have eb:(0:Int)<=(k:Int):=by omega
   generalize (aq S k).k=sk at *;have s5:Hid ((gw f).n<=900000000):=by show f.length<=_;rw[HL.out.1];omega
   have s6:Hid ((bZ l).n<=900000000):=(by show l.length<=_;rw[HL.out.2];omega);have cp:Hid ((gw f).n=f.length):=rfl;have cq:Hid ((bZ l).n=l.length):=rfl;(go_upto_region 7 with fail);rw[HW.out];clear dl dp ei ea;have c7:Hid (cG W (none:Option Addr) 6 lq ([]:List cW)):=by intro j x hx;cases hx
   have b6:Hid (KU w G z (JI,⟨none,0⟩)):=(by intro g e;cases e);have c0:Hid (∀g,(none:Option Addr)=some ⟨g,0,none⟩->g<W.heap.size):=(by intro g e;cases e);cases cB:(sk.toList == [36,97])
   ·rw[cB,RU (by simp)]at V;cases a3:(sk.toList == [36,112])
    ·rw[a3,RU (by simp)]at V ap;(go_upto_region 13 with fail);clear v2 vz aS s0 az q3;obtain⟨⟨p0,p1,p2,p3,p4⟩,-,pz⟩:=xp bw.out;have v3:W.cell? ⟨v,3,none⟩=some (slice G.ao f.length G.cap):=by rw[aj P.out.d];rfl
     have bs:=ae P.out.d;have al:=P.out.o1;have bp:Hid (∀u∈([slice none 0 0,int i64 0,string ⟨#[]⟩,int i64 0,int i64 0]:List Value),u.oneCell'=true):=Fd (JI,⟨none,0⟩);go_region_law (refine bR W rfl (.tmp 77) (.tmp 79) 83 rfl iP (agg #[slice none 0 0,int i64 0,string ⟨#[]⟩,int i64 0,int i64 0]) 64 G (gw f) [slice none 0 0,int i64 0,string ⟨#[]⟩,int i64 0,int i64 0] underlying83 cy bf bg bj rfl (show 0<5 by omega) (by rw[cp.out];simp[Act.eval]) al s5.out (by omega) (by simp[Act.eval]) rfl bp.out ?_;intro F o w5 M H)
     all_goals
      rw[show([slice none 0 0,int i64 0,string ⟨#[]⟩,int i64 0,int i64 0]:List Value)=OI (JI,⟨none,0⟩) from rfl,qq]at M;have c:Hid (wh w (w5.setCell ⟨v,3,none⟩ (slice F ((gw f).n+1) o)) v b x0 x1 (f++[(JI,⟨none,0⟩)]) ⟨F,o⟩ l z):=P.out.addP (JI,⟨none,0⟩) c7.out b6.out c0.out H M ((gw f).n+1) rfl;obtain⟨X5,K⟩:∃X5,Hid (w5.setCell ⟨v,3,none⟩ (slice F ((gw f).n+1) o)=X5):=⟨_,rfl⟩
      have d5:=H.kept.get P.out.d (fun A=>by have:=P.out.f1 _ (aQ A);have:=P.out.lt;omega);have c5:w5.cell? ⟨v,3,none⟩=some (slice G.ao f.length G.cap):=(by rw[aj d5];rfl);have e5:=am d5 3;have z5:=ae d5;have ac:Hid (X5.heap[wr.heap.size+1]?=some (.cells #[string ⟨#[]⟩,int i64 0,int i64 0,string ⟨#[]⟩,int i64 0,int i64 0] 38)):=by
       show _=_;rw[<-K.out];exact((aa.refl [v] _).setCell (R4 (by simp)) _).get (H.kept.get a5.out (fun A=>by have:=U.out.1 _ (aQ A);omega)) (by have:=U.out.2.2.1;simp;omega)
      rw[K.out]at c;clear v3 bs p0 p1 p2 p3 p4 pz al M H d5;(go_upto_region 15 with fail);rw[K.out];clear c5 e5 z5;obtain⟨⟨r0,r1,r2,r3,r4,r5⟩,-,rz⟩:=tU ac.out;have v4:X5.cell? ⟨v,4,none⟩=some (slice z.ao l.length z.cap):=by rw[aj c.out.d];rfl
      have bv:=ae c.out.d;have ai:=c.out.o2;have br:Hid (∀u∈([string ⟨#[]⟩,int i64 0,int i64 0,string ⟨#[]⟩,int i64 0,int i64 0]:List Value),u.oneCell'=true):=Fw OZ;go_region_law (refine bR X5 rfl (.tmp 89) (.tmp 91) 54 rfl iR (agg #[string ⟨#[]⟩,int i64 0,int i64 0,string ⟨#[]⟩,int i64 0,int i64 0]) 64 z (bZ l) [string ⟨#[]⟩,int i64 0,int i64 0,string ⟨#[]⟩,int i64 0,int i64 0] underlying54 cz bk bl bo rfl (show 0<6 by omega) (by rw[cq.out];simp[Act.eval]) ai s6.out (by omega) (by simp[Act.eval]) rfl br.out ?_;intro bd ag w6 N L;have d6:=L.kept.get c.out.d (fun A=>by have:=c.out.f2 _ (aQ A);have:=c.out.lt;omega);have f6:=am d6 4;have c6:w6.cell? ⟨v,4,none⟩=some (slice z.ao l.length z.cap):=(by rw[aj d6];rfl);have z6:=ae d6)
      all_goals
       rw[show([string ⟨#[]⟩,int i64 0,int i64 0,string ⟨#[]⟩,int i64 0,int i64 0]:List Value)=gx OZ from rfl,sw]at N;have ba:Hid _:=c.out.addR OZ L N ((bZ l).n+1) rfl;clear N L d6 f6 c6 z6 r0 r1 r2 r3 r4 r5 rz v4 bv ai;go_wp2;go_roundg (S.length-(k+1))
       case measure=>omega
       case rel=>exact⟨k+1,f++[(JI,⟨none,0⟩)],l++[OZ],⟨F,o⟩,⟨bd,ag⟩,by omega,rfl,by go_num,cj.out _ _,ck.out _ ap.out.symm,cl.out _ V.out.symm,ba⟩
    ·rw[a3,RY rfl]at V ap;have b3:Hid _:=ds.out (cF.out a3) W P.out.kept;have a0:Hid _:=bz.out (cF.out a3);obtain⟨p,Hp⟩:∃p,Hid (X k=p):=⟨_,rfl⟩
     obtain⟨r,Hr⟩:∃r,Hid (jr k=r):=⟨_,rfl⟩
     rw[Hp.out]at b3 a0 ap;rw[Hr.out]at a0 V;obtain⟨ps,py,I,pl,pc⟩:=p;obtain⟨rl,rv,ry,J,rn,rc⟩:=r;simp only at a0;(go_upto_region 12 with (go_at_call 89;refine R0 b3.out ?_;rintro e w1 ⟨E,he,n1⟩;replace he:e=returned (agg #[slice E.ao ps.length E.cap,int i64 py,string I,int i64 pl,int i64 pc]):=he;subst he;obtain⟨⟨p0,p1,p2,p3,p4⟩,⟨f0,f1,f2,f3,f4⟩,pz⟩:=xp (n1.kept.get bw.out (by simp))));have el:Hid _:=n1;have B1:=ah (ah (ah (ah (ah (n1.kept.get bw.out (by simp)) 0 (slice E.ao ps.length E.cap)) 1 (int i64 py)) 2 (string I)) 3 (int i64 pl)) 4 (int i64 pc);obtain⟨X1,ar⟩:∃X1,Hid (((((w1.setCell ⟨wr.heap.size,0,none⟩ (slice E.ao ps.length E.cap)).setCell ⟨wr.heap.size,1,none⟩ (int i64 py)).setCell ⟨wr.heap.size,2,none⟩ (string I)).setCell ⟨wr.heap.size,3,none⟩ (int i64 pl)).setCell ⟨wr.heap.size,4,none⟩ (int i64 pc)=X1):=⟨_,rfl⟩
     have af:Hid (aa [wr.heap.size] w1 X1):=(by show aa _ _ _;rw[<-ar.out];exact(((((aa.refl _ _).setCell (R4 (by simp)) _).setCell (R4 (by simp)) _).setCell (R4 (by simp)) _).setCell (R4 (by simp)) _).setCell (R4 (by simp)) _);have bT:Hid (X1.heap[wr.heap.size]?=some (.cells #[slice E.ao ps.length E.cap,int i64 py,string I,int i64 pl,int i64 pc] 122)):=(by show _=_;rw[<-ar.out];exact B1);have an:Hid (aa [] wr X1):=by
      have k:=ad.out.trans n1.kept
      exact⟨af.out.os.trans k.os,af.out.tape.trans k.tape,af.out.output.trans k.output,Sc k.size af.out.size,fun q A _=>by
       have:=k.size;rw[af.out.block q (by omega) (by simp;omega),k.block q A (by simp)]⟩
     have Q:Hid _:=B.out.Wj an.out;have b0:Hid (X1.heap[wr.heap.size+1]?=some (.cells #[string ⟨#[]⟩,int i64 0,int i64 0,string ⟨#[]⟩,int i64 0,int i64 0] 38)):=af.out.get (n1.kept.get a5.out (by simp)) (by simp);have aT:Hid (∀g,E.ao=some ⟨g,0,none⟩->W.heap.size<=g/\g<w1.heap.size):=fun g e=>⟨n1.far g (Ah e),n1.own.lt (Ah e)⟩
     have cu:Hid (wr.heap.size+1<W.heap.size):=ae a5.out;have ca:Hid (cG X1 E.ao 6 lq ps):=(n1.own.srcG Nk).keptS af.out (fun g e A=>by have:=aT.out g e;have:=cu.out;simp at A;omega);have d4:Hid (KU w G z (⟨ps,py,I,pl,pc⟩,E)):=fun g e=>by
      have h:=aT.out g e;have h':=cu.out;have eo:=U.out.2.2.2;exact⟨by omega,fun A=>by have:=U.out.1 g A;omega,fun A=>by have:=U.out.2.1 g A;omega⟩
     clear n1 B1 p0 p1 p2 p3 p4 f0 f1 f2 f3 f4 pz v2 vz aS s0 az q3;rw[ar.out];obtain⟨⟨p0,p1,p2,p3,p4⟩,-,pz⟩:=xp bT.out;obtain⟨v2,vz⟩:=bx.out X1 _ _ _ _ Q.out;have d2:Hid (∀Y,aa [] X1 Y->(Y.cell? ⟨wr.heap.size+1,0,none⟩=some (string ⟨#[]⟩)/\Y.cell? ⟨wr.heap.size+1,1,none⟩=some (int i64 0)/\Y.cell? ⟨wr.heap.size+1,2,none⟩=some (int i64 0)/\Y.cell? ⟨wr.heap.size+1,3,none⟩=some (string ⟨#[]⟩)/\Y.cell? ⟨wr.heap.size+1,4,none⟩=some (int i64 0)/\Y.cell? ⟨wr.heap.size+1,5,none⟩=some (int i64 0))/\(Y.frozen? ⟨wr.heap.size+1,0,none⟩=false/\Y.frozen? ⟨wr.heap.size+1,1,none⟩=false/\Y.frozen? ⟨wr.heap.size+1,2,none⟩=false/\Y.frozen? ⟨wr.heap.size+1,3,none⟩=false/\Y.frozen? ⟨wr.heap.size+1,4,none⟩=false/\Y.frozen? ⟨wr.heap.size+1,5,none⟩=false)/\wr.heap.size+1<Y.heap.size):=fun Y k2=>tU (k2.get b0.out (by simp));go_region_with (go_at_call 90;refine(a0.out E _ (by exact Q.out.kept.drew) (by exact ca.out.keptS (aa.refl [] X1).drew (by simp))).mono ?_;rintro e Y ⟨he,k2⟩;replace he:e=returned (agg #[string rl,int i64 rv,int i64 ry,string J,int i64 rn,int i64 rc]):=he;subst he;replace k2:=((aa.refl [] X1).drew).trans k2;obtain⟨⟨r0,r1,r2,r3,r4,r5⟩,⟨t0,t1,t2,t3,t4,t5⟩,rz⟩:=d2.out Y k2)
     all_goals
      have B2:=ah (ah (ah (ah (ah (ah (k2.get b0.out (by simp)) 0 (string rl)) 1 (int i64 rv)) 2 (int i64 ry)) 3 (string J)) 4 (int i64 rn)) 5 (int i64 rc);obtain⟨R,ax⟩:∃R,Hid ((((((Y.setCell ⟨wr.heap.size+1,0,none⟩ (string rl)).setCell ⟨wr.heap.size+1,1,none⟩ (int i64 rv)).setCell ⟨wr.heap.size+1,2,none⟩ (int i64 ry)).setCell ⟨wr.heap.size+1,3,none⟩ (string J)).setCell ⟨wr.heap.size+1,4,none⟩ (int i64 rn)).setCell ⟨wr.heap.size+1,5,none⟩ (int i64 rc)=R):=⟨_,rfl⟩
      have C:Hid (aa [wr.heap.size+1] X1 R):=(by show aa _ _ _;rw[<-ax.out];exact((((((k2.mono (by simp)).setCell (R4 (by simp)) _).setCell (R4 (by simp)) _).setCell (R4 (by simp)) _).setCell (R4 (by simp)) _).setCell (R4 (by simp)) _).setCell (R4 (by simp)) _);have a6:Hid (R.heap[wr.heap.size+1]?=some (.cells #[string rl,int i64 rv,int i64 ry,string J,int i64 rn,int i64 rc] 38)):=(by show _=_;rw[<-ax.out];exact B2);have a4:Hid _:=C.out.get bT.out (by simp)
      have ch:Hid (aa [] wr R):=⟨C.out.os.trans an.out.os,C.out.tape.trans an.out.tape,C.out.output.trans an.out.output,Sc an.out.size C.out.size,fun q A _=>by
       have:=an.out.size;rw[C.out.block q (by omega) (by simp;omega),an.out.block q A (by simp)]⟩
      have y:Hid _:=B.out.Wj ch.out;have bc:Hid (cG R E.ao 6 lq ps):=ca.out.keptS C.out (fun g e A=>by have:=aT.out g e;have:=cu.out;simp at A;omega);have d7:Hid (∀g,E.ao=some ⟨g,0,none⟩->g<R.heap.size):=fun g e=>by have:=(aT.out g e).2;have:=af.out.size;have:=C.out.size;omega
      clear k2 B2 r0 r1 r2 r3 r4 r5 t0 t1 t2 t3 t4 t5 rz p0 p1 p2 p3 p4 pz v2 vz;(go_upto_region 13 with fail);rw[ax.out];obtain⟨⟨p0,p1,p2,p3,p4⟩,-,pz⟩:=xp a4.out;have v3:R.cell? ⟨v,3,none⟩=some (slice G.ao f.length G.cap):=by rw[aj y.out.d];rfl
      have bs:=ae y.out.d;have al:=y.out.o1;have bp:Hid (∀u∈([slice E.ao ps.length E.cap,int i64 py,string I,int i64 pl,int i64 pc]:List Value),u.oneCell'=true):=Fd (⟨ps,py,I,pl,pc⟩,E);go_region_law (refine bR R rfl (.tmp 77) (.tmp 79) 83 rfl iP (agg #[slice none 0 0,int i64 0,string ⟨#[]⟩,int i64 0,int i64 0]) 64 G (gw f) [slice E.ao ps.length E.cap,int i64 py,string I,int i64 pl,int i64 pc] underlying83 cy bf bg bj rfl (show 0<5 by omega) (by rw[cp.out];simp[Act.eval]) al s5.out (by omega) (by simp[Act.eval]) rfl bp.out ?_;intro F o w5 M H)
      all_goals
       rw[show([slice E.ao ps.length E.cap,int i64 py,string I,int i64 pl,int i64 pc]:List Value)=OI (⟨ps,py,I,pl,pc⟩,E) from rfl,qq]at M;have c:Hid (wh w (w5.setCell ⟨v,3,none⟩ (slice F ((gw f).n+1) o)) v b x0 x1 (f++[(⟨ps,py,I,pl,pc⟩,E)]) ⟨F,o⟩ l z):=y.out.addP (⟨ps,py,I,pl,pc⟩,E) bc.out d4.out d7.out H M ((gw f).n+1) rfl;obtain⟨X5,K⟩:∃X5,Hid (w5.setCell ⟨v,3,none⟩ (slice F ((gw f).n+1) o)=X5):=⟨_,rfl⟩
       have d5:=H.kept.get y.out.d (fun A=>by have:=y.out.f1 _ (aQ A);have:=y.out.lt;omega);have c5:w5.cell? ⟨v,3,none⟩=some (slice G.ao f.length G.cap):=(by rw[aj d5];rfl);have e5:=am d5 3;have z5:=ae d5;have ac:Hid (X5.heap[wr.heap.size+1]?=some (.cells #[string rl,int i64 rv,int i64 ry,string J,int i64 rn,int i64 rc] 38)):=by
        show _=_;rw[<-K.out];exact((aa.refl [v] _).setCell (R4 (by simp)) _).get (H.kept.get a6.out (fun A=>by have:=U.out.1 _ (aQ A);omega)) (by have:=U.out.2.2.1;simp;omega)
       rw[K.out]at c;clear v3 bs p0 p1 p2 p3 p4 pz al M H d5;(go_upto_region 15 with fail);rw[K.out];clear c5 e5 z5;obtain⟨⟨r0,r1,r2,r3,r4,r5⟩,-,rz⟩:=tU ac.out;have v4:X5.cell? ⟨v,4,none⟩=some (slice z.ao l.length z.cap):=by rw[aj c.out.d];rfl
       have bv:=ae c.out.d;have ai:=c.out.o2;have br:Hid (∀u∈([string rl,int i64 rv,int i64 ry,string J,int i64 rn,int i64 rc]:List Value),u.oneCell'=true):=Fw ⟨rl,rv,ry,J,rn,rc⟩;go_region_law (refine bR X5 rfl (.tmp 89) (.tmp 91) 54 rfl iR (agg #[string ⟨#[]⟩,int i64 0,int i64 0,string ⟨#[]⟩,int i64 0,int i64 0]) 64 z (bZ l) [string rl,int i64 rv,int i64 ry,string J,int i64 rn,int i64 rc] underlying54 cz bk bl bo rfl (show 0<6 by omega) (by rw[cq.out];simp[Act.eval]) ai s6.out (by omega) (by simp[Act.eval]) rfl br.out ?_;intro bd ag w6 N L;have d6:=L.kept.get c.out.d (fun A=>by have:=c.out.f2 _ (aQ A);have:=c.out.lt;omega);have f6:=am d6 4;have c6:w6.cell? ⟨v,4,none⟩=some (slice z.ao l.length z.cap):=(by rw[aj d6];rfl);have z6:=ae d6)
       all_goals
        rw[show([string rl,int i64 rv,int i64 ry,string J,int i64 rn,int i64 rc]:List Value)=gx ⟨rl,rv,ry,J,rn,rc⟩ from rfl,sw]at N;have ba:Hid _:=c.out.addR ⟨rl,rv,ry,J,rn,rc⟩ L N ((bZ l).n+1) rfl;clear N L d6 f6 c6 z6 r0 r1 r2 r3 r4 r5 rz v4 bv ai;go_wp2;go_roundg (S.length-(k+1))
        case measure=>omega
        case rel=>exact⟨k+1,f++[(⟨ps,py,I,pl,pc⟩,E)],l++[⟨rl,rv,ry,J,rn,rc⟩],⟨F,o⟩,⟨bd,ag⟩,by omega,rfl,by go_num,cj.out _ _,ck.out _ ap.out.symm,cl.out _ V.out.symm,ba⟩
   ·rw[cB,RY rfl]at V;have a3:=GQ _ cB;rw[a3,RU (by simp)]at ap;have cL:Hid _:=cH.out W P.out.kept;(go_upto_region 9 with (go_at_call 88;refine R0 cL.out ?_;rintro e w1 ⟨rfl,k1⟩;obtain⟨⟨r0,r1,r2,r3,r4,r5⟩,⟨t0,t1,t2,t3,t4,t5⟩,rz⟩:=tU (k1.get a5.out (by simp))));have B1:=ah (k1.get a5.out (by simp)) 0 (string lb);have B2:=ah B1 1 (int i64 1);obtain⟨X1,ar⟩:∃X1,Hid (w1.setCell ⟨wr.heap.size+1,0,none⟩ (string lb)=X1):=⟨_,rfl⟩
    rw[ar.out]at B1 B2;obtain⟨R,ax⟩:∃R,Hid (X1.setCell ⟨wr.heap.size+1,1,none⟩ (int i64 1)=R):=⟨_,rfl⟩
    have C:Hid (aa [wr.heap.size+1] W R):=(by show aa _ _ _;rw[<-ax.out,<-ar.out];exact((k1.mono (by simp)).setCell (R4 (by simp)) _).setCell (R4 (by simp)) _);have a6:Hid (R.heap[wr.heap.size+1]?=some (.cells #[string lb,int i64 1,int i64 0,string ⟨#[]⟩,int i64 0,int i64 0] 38)):=(by show _=_;rw[<-ax.out];exact B2);have a4:Hid _:=C.out.get bw.out (by simp)
    have ch:Hid (aa [] wr R):=⟨C.out.os.trans ad.out.os,C.out.tape.trans ad.out.tape,C.out.output.trans ad.out.output,Sc ad.out.size C.out.size,fun q A _=>by
     have:=ad.out.size;rw[C.out.block q (by omega) (by simp;omega),ad.out.block q A (by simp)]⟩
    have y:Hid _:=B.out.Wj ch.out;have bc:Hid (cG R (none:Option Addr) 6 lq ([]:List cW)):=(by intro j x hx;cases hx);have c2:Hid (∀g,(none:Option Addr)=some ⟨g,0,none⟩->g<R.heap.size):=(by intro g e;cases e);rw[ar.out];clear r0 r1 r2 r3 r4 r5 t0 t1 t2 t3 t4 t5 rz k1 v2 vz aS s0 az q3;obtain⟨-,r1,-⟩:=IM B1;have t1:=am B1 1;have rz:=ae B1;clear B1 B2;(go_upto_region 10 with fail);rw[ax.out];clear r1 t1 rz;obtain⟨v2,vz⟩:=bx.out R _ _ _ _ y.out;obtain⟨em,d9,aS,s0,az,q3⟩:=cs.out R y.out.kept v2 vz;cases d9
    (go_upto_region 13 with fail);clear v2 vz aS s0 az q3;obtain⟨⟨p0,p1,p2,p3,p4⟩,-,pz⟩:=xp a4.out;have v3:R.cell? ⟨v,3,none⟩=some (slice G.ao f.length G.cap):=by rw[aj y.out.d];rfl
    have bs:=ae y.out.d;have al:=y.out.o1;have bp:Hid (∀u∈([slice none 0 0,int i64 0,string ⟨#[]⟩,int i64 0,int i64 0]:List Value),u.oneCell'=true):=Fd (JI,⟨none,0⟩);go_region_law (refine bR R rfl (.tmp 77) (.tmp 79) 83 rfl iP (agg #[slice none 0 0,int i64 0,string ⟨#[]⟩,int i64 0,int i64 0]) 64 G (gw f) [slice none 0 0,int i64 0,string ⟨#[]⟩,int i64 0,int i64 0] underlying83 cy bf bg bj rfl (show 0<5 by omega) (by rw[cp.out];simp[Act.eval]) al s5.out (by omega) (by simp[Act.eval]) rfl bp.out ?_;intro F o w5 M H)
    all_goals
     rw[show([slice none 0 0,int i64 0,string ⟨#[]⟩,int i64 0,int i64 0]:List Value)=OI (JI,⟨none,0⟩) from rfl,qq]at M;have c:Hid (wh w (w5.setCell ⟨v,3,none⟩ (slice F ((gw f).n+1) o)) v b x0 x1 (f++[(JI,⟨none,0⟩)]) ⟨F,o⟩ l z):=y.out.addP (JI,⟨none,0⟩) bc.out b6.out c2.out H M ((gw f).n+1) rfl;obtain⟨X5,K⟩:∃X5,Hid (w5.setCell ⟨v,3,none⟩ (slice F ((gw f).n+1) o)=X5):=⟨_,rfl⟩
     have d5:=H.kept.get y.out.d (fun A=>by have:=y.out.f1 _ (aQ A);have:=y.out.lt;omega);have c5:w5.cell? ⟨v,3,none⟩=some (slice G.ao f.length G.cap):=(by rw[aj d5];rfl);have e5:=am d5 3;have z5:=ae d5;have ac:Hid (X5.heap[wr.heap.size+1]?=some (.cells #[string lb,int i64 1,int i64 0,string ⟨#[]⟩,int i64 0,int i64 0] 38)):=by
      show _=_;rw[<-K.out];exact((aa.refl [v] _).setCell (R4 (by simp)) _).get (H.kept.get a6.out (fun A=>by have:=U.out.1 _ (aQ A);omega)) (by have:=U.out.2.2.1;simp;omega)
     rw[K.out]at c;clear v3 bs p0 p1 p2 p3 p4 pz al M H d5;(go_upto_region 15 with fail);rw[K.out];clear c5 e5 z5;obtain⟨⟨r0,r1,r2,r3,r4,r5⟩,-,rz⟩:=tU ac.out;have v4:X5.cell? ⟨v,4,none⟩=some (slice z.ao l.length z.cap):=by rw[aj c.out.d];rfl
     have bv:=ae c.out.d;have ai:=c.out.o2;have br:Hid (∀u∈([string lb,int i64 1,int i64 0,string ⟨#[]⟩,int i64 0,int i64 0]:List Value),u.oneCell'=true):=Fw ⟨lb,1,0,⟨#[]⟩,0,0⟩;go_region_law (refine bR X5 rfl (.tmp 89) (.tmp 91) 54 rfl iR (agg #[string ⟨#[]⟩,int i64 0,int i64 0,string ⟨#[]⟩,int i64 0,int i64 0]) 64 z (bZ l) [string lb,int i64 1,int i64 0,string ⟨#[]⟩,int i64 0,int i64 0] underlying54 cz bk bl bo rfl (show 0<6 by omega) (by rw[cq.out];simp[Act.eval]) ai s6.out (by omega) (by simp[Act.eval]) rfl br.out ?_;intro bd ag w6 N L;have d6:=L.kept.get c.out.d (fun A=>by have:=c.out.f2 _ (aQ A);have:=c.out.lt;omega);have f6:=am d6 4;have c6:w6.cell? ⟨v,4,none⟩=some (slice z.ao l.length z.cap):=(by rw[aj d6];rfl);have z6:=ae d6)
     all_goals
      rw[show([string lb,int i64 1,int i64 0,string ⟨#[]⟩,int i64 0,int i64 0]:List Value)=gx ⟨lb,1,0,⟨#[]⟩,0,0⟩ from rfl,sw]at N;have ba:Hid _:=c.out.addR ⟨lb,1,0,⟨#[]⟩,0,0⟩ L N ((bZ l).n+1) rfl;clear N L d6 f6 c6 z6 r0 r1 r2 r3 r4 r5 rz v4 bv ai;go_wp2;go_roundg (S.length-(k+1))
      case measure=>omega
      case rel=>exact⟨k+1,f++[(JI,⟨none,0⟩)],l++[⟨lb,1,0,⟨#[]⟩,0,0⟩],⟨F,o⟩,⟨bd,ag⟩,by omega,rfl,by go_num,cj.out _ _,ck.out _ ap.out.symm,cl.out _ V.out.symm,ba⟩
  ·have e:k=S.length:=(by omega);subst e;have dT:Hid (∀t,t<S.length->(jU f t).1=sg S X t):=fun t ht=>by
    have G:=AT f t (by rw[HL.out.1];exact ht);have z:(f.map (·.1))[t]?=some (sg S X t):=(by rw[co.out,Sy,Un ht];rfl);rw[Sy,G]at z;exact TU z
   have d0:Hid (∀a,a<S.length->∀t,t<=a->(jU f t).1.st.length<=100000000/\∀i,i<(jU f t).1.st.length->(bK (jU f t).1.st i).ref<=(a:Int)):=fun a ha t ht=>by
    rw[dT.out t (by omega)];unfold sg;cases E:mR S t
    ·rw[RU (by simp)];exact⟨SE _,fun i hi=>by cases hi⟩
    ·rw[RY rfl];obtain⟨q1,q2⟩:=cV.out t (by omega) E;exact⟨q1,fun i hi=>by have:=q2 i hi;omega⟩
   have dv:Hid _:=HL.out.1;have cR:Hid _:=HL.out.2;have cE:Hid (oK S f l l 0):=⟨rfl,fun _ _=>rfl,fun a h=>absurd h (U9 a),fun a h=>absurd h (U9 a)⟩;have v2:wr.cell? ⟨v,2,none⟩=some (pointer (some ⟨b,0,none⟩)):=(by rw[aj B.out.d];rfl);have vz:=ae B.out.d;obtain⟨-,s0,az⟩:=(HD.out wr B.out.kept).cells;have et:¬(S.length:Int)<S.length:=(by omega);clear b4 b5 cV c9 HL D hk;go_wp2;clear v2 vz s0 az
   go_loopg [6] l.length (fun g iv wr=>∃(k:Nat) (m:List fO),k<=l.length/\g=l.length-k/\iv=int i64 k/\Hid (oK S f l m k)/\Hid (wh w wr v b x0 x1 f G m z))
   case atStart=>exact⟨0,l,by omega,rfl,rfl,cE,B⟩
   case round =>
    clear B cE;obtain⟨k,m,hk,ep,rfl,HF,P⟩:=hrel;have cP:Hid _:=HF.out.len;have vz:=ae P.out.d;by_cases D:k<m.length
    ·have dk:k<l.length:=(by rw[<-cP.out];exact D);have cA:k<S.length:=(by rw[<-cR.out];exact dk);have ec:k<f.length:=(by rw[dv.out];exact cA);obtain⟨g2,e2,df,cc⟩:=P.out.jds.r k _ (v8 m k D);have a7:Hid _:=e2;have v4:wr.cell? ⟨v,4,none⟩=some (slice (some ⟨g2,0,none⟩) m.length z.cap):=(by rw[aj P.out.d,<-e2];rfl);have c1:wr.cell? ⟨g2,k*6+1,none⟩=some (int i64 (eR m k).Wk):=cc 1 _ rfl;clear e2 cc;have dz:Hid (eR l k=eR m k):=(HF.out.old k (RV _)).symm;have d1:Hid _:=(C7 v b k T cx cT S be cS x0 x1 f G.ao G.cap m z.ao z.cap wr (HD.out wr P.out.kept) P.out.jds ec D cA (by omega) (fun j hj=>HA.out j (by omega)) (d0.out k cA));have ef:(k:Int)<m.length:=(by omega);have eb:(0:Int)<=(k:Int):=(by omega);have bz:Hid ((eR l k).Wk=(eR m k).Wk):=(by show _=_;rw[dz.out]);generalize hvd:(eR m k).Wk=vd at *;clear hvd;cases h4:(vd==4)
     ·have HM:Hid _:=HF.out.same (fun q=>by rw[bz.out]at q;rw[q.1]at h4;cases h4);go_wp2;go_roundg (l.length-(k+1))
      case measure=>omega
      case rel=>exact⟨k+1,m,by omega,rfl,by go_num,HM,P⟩
     ·have d3:Hid ((eR l k).Wk=4):=(by show _=_;rw[bz.out];exact Vc h4);(go_upto_region 21 with (go_at_call 68;refine R0 d1.out ?_;rintro e w1 ⟨eh,n1,n2,dg,he,a1,a2⟩;obtain⟨nb,c8⟩:∃nb,Hid ((Ef T S m eh (k+1)).length=nb):=⟨_,rfl⟩;rw[c8.out]at he;subst he));have HG:Hid _:=NU (T:=T) HF.out dg;rw[c8.out]at HG;have Q:Hid _:=P.out.Wj a1.kept;clear dg a1 a2 v4 c1 vz df;cases nb with
      | zero =>
       have df:=Q.out.o2.lt (Ah a7.out);have vz:=ae Q.out.d;have v4:w1.cell? ⟨v,4,none⟩=some (slice (some ⟨g2,0,none⟩) m.length z.cap):=(by rw[aj Q.out.d,<-a7.out];rfl);obtain⟨g3,e3,-,cc⟩:=Q.out.jds.r k _ (v8 m k D);have e3:g3=g2:=(by have:=e3.symm.trans a7.out;cases this;rfl);subst e3;have c1:w1.cell? ⟨g3,k*6+1,none⟩=some (int i64 (eR m k).Wk):=cc 1 _ rfl;have f1:w1.frozen? ⟨g3,k*6+1,none⟩=false:=CV Q.out.o2 a7.out _;have HM:Hid _:=HF.out.turn dk d3.out (HG.out.1 rfl);have y:Hid _:=Q.out.put a7.out k D 5;clear cc;go_wp2;go_roundg (l.length-(k+1))
       case measure=>omega
       case rel=>exact⟨k+1,_,by omega,rfl,by go_num,HM,y⟩
      | succ nb =>
       have HM:Hid _:=(HF.out.same (fun q=>by have:=HG.out.2 q.2;omega));have eq:(((nb+1:Nat):Int)==0)=false:=(by simp;omega);go_wp2;go_roundg (l.length-(k+1))
       case measure=>omega
       case rel=>exact⟨k+1,m,by omega,rfl,by go_num,HM,Q⟩
    ·have ek:k=l.length:=(by have:=cP.out;omega);subst ek;have es:¬(l.length:Int)<m.length:=by omega
     have v4:wr.cell? ⟨v,4,none⟩=some (slice z.ao m.length z.cap):=(by rw[aj P.out.d];rfl);have dt:Hid (oK S f ((List.range S.length).map (mS T S jr)) m S.length):=by
      have:=HF.out;rw[cR.out]at this;rw[<-cX.out];exact this
     go_wp2;go_end0;exact⟨f,G,z,m,rfl,co.out,dt.out,P.out⟩
end Go.Proofs.YtnbhnocdhbcbcaaGreat
