import Derived.Test.YtpddjjabfbfifaaGreatG07
namespace Go.Proofs.YtpddjjabfbfifaaGreat
open Go.RowKit Tryz
set_option maxRecDepth 100000
set_option maxHeartbeats 40000000
variable{L y2 yu:World}{I z4 zb zt y6 ya:Nat}{g yg:Nat->Hd}{yt:List St}{y8:Hd}{z5 yd:List Ex}{x4:List ByteArray}(z7 D:World)(a i v k S b:Nat)(l:nE)(w:List St)(T y5:Nat->Hd)(x:List ByteArray)(y:List Bool)(y9 z6:Hd)(yv:Pl)(yy:List ByteArray)(n:List Ex)(y7:Hd)(H:List Ex)(f:Nat->Hd)(o:List nE)(M:World)(ys:List (List ByteArray)×List (List ByteArray))(N d:Nat)(yf:List Nat)(yr:List (List ByteArray))
def jM(vs:List ByteArray)(bs:List (List ByteArray))(k n:Nat):List Nat:=if n<k then kN vs (bs.getD n []) else []
theorem iA.congr{F c:Nat->List Nat}(h:iA L I z4 F g)(e:∀n,n<z4->F n=c n):iA L I z4 c g:=by
 obtain⟨b,i,d,f⟩:=h.arr;exact⟨⟨b,i,d,fun n a=>by rw[<-e n a];exact f n a⟩,fun n a=>by rw[<-e n a];exact h.own n a,h.off⟩
theorem FE(Q:xC M a i v k S b)(h:kP M b x y y9 z6)(af:x.length<=10000)(s:aw M y7 (gn H))(ad:H.length<=10000)(q:∀e∈H,jT M e.hd e.xs/\e.xs.length<=10000) :
  Calls prog 276 #[.pointer (some ⟨a,0,none⟩),.slice y7.ao H.length y7.cap] M fun e L=>∃(N:Nat) (K:Nat->Hd),e=.returned (.slice (some ⟨N,0,none⟩) H.length H.length)/\iA L N H.length (jM x (H.map Ex.xs) H.length) K/\ab [] M L:=by
 obtain⟨R,T,n,t,B⟩:=Rd Oy;have D:=fun M=>dB (P:=prog) M 181 26 R _ underlying181 T n H.length 1 t (by rw[B];omega) (by omega)
 obtain⟨m,f⟩:∃m,m=madeCells (Value.slice none 0 0).cells (H.length*1):=⟨_,rfl⟩
 rw[<-f]at D
 have I:Hid (iA (M.alloc (.cells m 26)) M.heap.size H.length (jM x (H.map Ex.xs) 0) mD):=by
  refine⟨⟨m,QR _ _,by rw[f,Ss];omega,?_⟩,?_,fun S _ e=>by simp[mD,Hd.blk]at e⟩
  ·intro S E
   have e:jM x (H.map Ex.xs) 0 S=[]:=by unfold jM;rw[QS (by omega)]
   rw[e,f];exact Ai _ _ _ (by omega)
  ·intro S E
   have e:jM x (H.map Ex.xs) 0 S=[]:=by unfold jM;rw[QS (by omega)]
   rw[e];exact QY _ _ _ _
 clear f;go_enter func276,ntmps276;go_wp2
 go_loopg [6] H.length (fun gk X wr=>∃(c:Nat) (K:Nat->Hd),c<=H.length/\gk=H.length-c/\X=.int .i64 c/\iA wr M.heap.size H.length (jM x (H.map Ex.xs) c) K/\ab [] M wr)
 case atStart=>exact⟨0,mD,by omega,by omega,rfl,I.out,(ab.refl _ _).alloc _⟩
 case round =>
  obtain⟨c,K,hk,hg,rfl,o,j⟩:=hrel;clear I D
  by_cases d:c<H.length
  ·rcases s.ways with ⟨_,h0,_⟩ | ⟨gb,F,p,-,z,-⟩
   ·have:H.length=0:=h0
    omega
   have l:aw wr y7 (gn H):=s.Vf (fun O hx=>j.block O (s.lt hx) (by simp));have cb:=l.cell p c (vZ H[c]) (sA H c d);have Y:H.length<=y7.cap:=z;obtain⟨u,ag⟩:=q H[c] (Ra d);have Z:=wB a i v k S b x y y9 z6 H[c].hd H[c].xs wr (Q.Va j) (h.Va j) (by omega) (u.Va j) (by omega)
   have r:Hid (∀S,S<H.length->Fw (jM x (H.map Ex.xs) c) c (kN x H[c].xs) S=jM x (H.map Ex.xs) (c+1) S):=by
    intro S E;unfold Fw jM
    by_cases e:S=c
    ·subst e;simp[d]
    ·rw[QS e]
     by_cases G:S<c
     ·rw[QV G,QV (by omega)]
     ·rw[QS G,QS (by omega)]
   unfold vZ at cb;obtain⟨ao,ai⟩:=y7;simp only at p;subst p;have ac:=o.lt;clear l;generalize H[c]=ex at *;go_wp2_with fail;refine Z.mono ?_;rintro e w2 ⟨V,rfl,W,n2,J⟩;have g:=o.Va J;have c2:=g.cell c d;have f2:=g.free;have ST:=(show Hid _ from(g.store (k:=c) (kN x ex.xs) V W (fun e=>by have:=n2 _ e;omega)).congr r.out);have U:=j.size;have A:=(j.trans J);have w:Hid (∀C,ab [] M (w2.setCell ⟨M.heap.size,c,none⟩ C)):=fun C=>A.setCell (QU (QQ _)) C
   go_wp2
   go_roundg (H.length-(c+1))
   case measure=>omega
   case rel=>exact⟨c+1,_,by omega,rfl,by go_num,ST.out,w.out _⟩
  ·have e:c=H.length:=by omega
   subst e;go_wp2;go_ret;exact⟨_,K,rfl,o,j⟩
def qQ(l:List St)(a:Nat)(S:List ByteArray×List (List ByteArray))(vs:List ByteArray)(ms:List Bool)(i j:Nat):Bool :=
 !(eD S.1.length (fN l a S.1) i j)||xF vs.length ms (kN vs (S.2.getD i [])) (kN vs (S.2.getD j []))
def Cd(l:List St)(a:Nat)(S:List ByteArray×List (List ByteArray))(vs:List ByteArray)(ms:List Bool):Bool :=
 decide (∀i,i<S.1.length->∀j,j<S.1.length->i<j->qQ l a S vs ms i j=true)
theorem wA(l:List St)(HR:Nat->Hd)(g:List ByteArray)(q:List Bool)(hv hm:Hd)(n:List ByteArray)(c:List Ex)(H:Nat->Hd)(w:World)(hp:xC w a i v k S b)(h:kP w b g q hv hm)(ax:q.length=g.length*g.length)(ag:g.length<=10000)(hr:dF w i v l HR)(ok:iH l)(I:l9 w d n c H)(J:n.length<=10000)(Q:∀e∈c,e.xs.length<=10000) :
  Calls prog 273 #[.pointer (some ⟨a,0,none⟩),.int .i64 N,.pointer (some ⟨d,0,none⟩)] w fun e G=>e=.returned (.bool (Cd l N (n,c.map Ex.xs) g q))/\ab [] w G:=by
 obtain⟨p0,p1,p2⟩:=hp.cells;obtain⟨s0,s1⟩:=I.cells;have F:Hid (c.length=n.length):=I.len;have a0:c.length<=10000:=by rw[F.out];exact J
 obtain⟨R,ac⟩:∃R,Hid (R=Cd l N (n,c.map Ex.xs) g q):=⟨_,rfl⟩
 rw[<-ac.out];have af:∀r,ab [] w r->aw r (H 0) (aB n):=fun r E=>(I.Va E).bag.own 0
 have V:∀r,ab [] w r->aw r (H 1) (gn c):=fun r E=>(I.Va E).bag.own 1
 have P:=hI (fun r (E:ab [] w r)=>DF i v N l HR (H 0) n r (hr.Va E) ok (af r E) J)
 have HC:Hid (∀G,ab [] w.drew G->G.cell? ⟨a,0,none⟩=some (.pointer (some ⟨i,v,none⟩))/\G.cell? ⟨d,0,none⟩=some (.slice (H 0).ao n.length (H 0).cap)):=by
  intro G a1;exact⟨(hp.Va ((ab.refl [] w).drew.trans a1)).cells.1,(I.Va ((ab.refl [] w).drew.trans a1)).cells.1⟩
 have a7:=I.bag.lt;go_enter func273,ntmps273
 go_upto_region 1 with fail
 go_region_held3 (fun G=>G.cell? ⟨a,0,none⟩=some (.pointer (some ⟨i,v,none⟩))/\G.cell? ⟨d,0,none⟩=some (.slice (H 0).ao n.length (H 0).cap)) (go_keep) (first | (go_at_call 209;refine(P.out _ (by exact(ab.refl [] _).drew)).mono ?_;rintro e r ⟨ai,an,ar,rfl,A2,-,-,E⟩;obtain⟨x0,x1⟩:=HC.out r E))
 have K1:=(ab.refl [] w).drew.trans E;have W:=I.Va K1;obtain⟨y0,y1⟩:=W.cells;have WI:=FE a i v k S b g q hv hm (H 1) c r (hp.Va K1) (h.Va K1) ag (V r K1) a0 (fun e he=>⟨(W.exs e he).view,Q e he⟩);have Z:=kn l N n l.length;go_wp2_with fail;refine WI.mono ?_;rintro e w2 ⟨g2,K,rfl,G2,k2⟩;have aT:=A2.Va k2;have K2:=K1.trans k2;have ap:=hp.Va K2;have L:=h.Va K2
 have HT:Hid (R=true ↔ ∀f,f<c.length->∀j,j<c.length->f<j->qQ l N (n,c.map Ex.xs) g q f j=true):=by
  show _ ↔ _
  rw[ac.out,F.out];unfold Cd;rw[decide_eq_true_iff]
 have ad:Hid (∀S,∀x∈jM g (c.map Ex.xs) c.length S,x<g.length):=by
  intro S x hx;unfold jM at hx
  split at hx
  ·exact J9 hx
  ·cases hx
 have O:Hid (∀S,S<c.length->(jM g (c.map Ex.xs) c.length S).length<=10000):=by
  intro S hn;unfold jM;rw[QV hn];refine Q1 (FF _ _) ?_;rw[QP];simp[hn];exact Q _ (Ra hn)
 have az:Hid (∀f j,f<c.length->j<c.length->qQ l N (n,c.map Ex.xs) g q f j=(!(eD n.length (fN l N n) f j)||xF g.length q (jM g (c.map Ex.xs) c.length f) (jM g (c.map Ex.xs) c.length j))):=by
  intro f j hi hj;unfold qQ jM;rw[QV hi,QV hj]
 clear WI af V P HC y0 y1 p0 p1 p2 s0 s1 x0 x1;go_wp2
 go_loopg [9] c.length (fun gk iv wr=>∃(f:Nat),f<=c.length/\gk=c.length-f/\iv=.int .i64 f/\Hid (∀y,y<f->∀m,m<c.length->y<m->qQ l N (n,c.map Ex.xs) g q y m=true)/\ab [] w2 wr)
 case atStart=>exact⟨0,by omega,by omega,rfl,fun y a2=>by omega,ab.refl _ _⟩
 case round =>
  obtain⟨f,hi,hg,rfl,o,hK⟩:=hrel
  by_cases u:f<c.length
  ·go_wp2_with fail
   go_loopg [10] (c.length-(f+1)) (fun aS jv al=>∃(j:Nat),f+1<=j/\j<=c.length/\aS=c.length-j/\jv=.int .i64 j/\Hid (∀m,f<m->m<j->qQ l N (n,c.map Ex.xs) g q f m=true)/\ab [] w2 al)
   case atStart=>exact⟨f+1,by omega,by omega,by omega,by go_num,fun m h1 L=>by omega,hK⟩
   case round =>
    obtain⟨j,a5,hj,a3,rfl,t,p⟩:=hrel;clear hK
    by_cases z:j<c.length
    ·have hA:=aT.Va p
     have T:=G2.Va p;have d1:=T.cell f u;have d2:=T.cell j z;have q1:=O.out f u;have q2:=O.out j z;have a4:(f:Int)<c.length:=by omega
     have a6:(j:Int)<c.length:=by omega
     have AP:=fun nq=>qe ai n (fN l N n) an ar f j (wr.drewN nq) (hA.Va ((ab.refl [] _).drewN nq)) Z J (by rw[<-F.out];exact u) (by rw[<-F.out];exact z)
     have AR:=fun nq=>zB a i v k S b g q hv hm (K f) (K j) (jM g (c.map Ex.xs) c.length f) (jM g (c.map Ex.xs) c.length j) (wr.drewN nq) ((ap.Va p).Va ((ab.refl [] _).drewN nq)) ((L.Va p).Va ((ab.refl [] _).drewN nq)) ax ag ((T.Va ((ab.refl [] _).drewN nq)).own f u) ((T.Va ((ab.refl [] _).drewN nq)).own j z) (by omega) (by omega) (ad.out f) (ad.out j)
     have s:=hI (az.out f j u z)
     have B:Hid (qQ l N (n,c.map Ex.xs) g q f j=true->∀m,f<m->m<j+1->qQ l N (n,c.map Ex.xs) g q f m=true):=by
      intro hh m h1 L
      by_cases e:m=j
      ·subst e;exact hh
      ·exact t.out m h1 (by omega)
     have D:Hid (qQ l N (n,c.map Ex.xs) g q f j=false->R=false):=by
      intro hh
      cases e:R
      ·rfl
      ·have:=HT.out.1 e f u j z (by omega)
       rw[this]at hh;cases hh
     have A:=hI AP;have C:=hI AR;clear AP AR o t T hA;generalize jM g (c.map Ex.xs) c.length f=X at *;generalize jM g (c.map Ex.xs) c.length j=Y at *
     cases U:eD n.length (fN l N n) f j
     ·have M:=hI (B.out (by rw[s.out,U];rfl))
      rw[U]at A;clear D B
      go_upto_region 9 with fail
      go_quiet (first | (go_at_call 215;exact Rc (A.out _)))
      go_wp2
      go_roundg (c.length-(j+1))
      case measure=>omega
      case rel=>exact⟨j+1,by omega,by omega,rfl,by go_num,M.out,p.drewN _⟩
     ·rw[U]at A
      cases hc:xF g.length q X Y
      ·have M:=hI (D.out (by rw[s.out,U,hc];rfl))
       rw[hc]at C;clear D B
       go_upto_region 9 with fail
       go_quiet (first | (go_at_call 215;exact Rc (A.out _)) | (go_at_call 277;exact UE (C.out _)))
       go_wp2;go_ret;exact⟨aD M.out.symm,K2.trans (p.drewN _)⟩
      ·have M:=hI (B.out (by rw[s.out,U,hc];rfl))
       rw[hc]at C;clear D B
       go_upto_region 9 with fail
       go_quiet (first | (go_at_call 215;exact Rc (A.out _)) | (go_at_call 277;exact UE (C.out _)))
       go_wp2
       go_roundg (c.length-(j+1))
       case measure=>omega
       case rel=>exact⟨j+1,by omega,by omega,rfl,by go_num,M.out,p.drewN _⟩
    ·have HN:Hid (∀y,y<f+1->∀m,m<c.length->y<m->qQ l N (n,c.map Ex.xs) g q y m=true):=by
      intro y h1 m L h3
      by_cases e:y=f
      ·subst e;exact t.out m h3 (by omega)
      ·exact o.out y (by omega) m L h3
     clear t o;go_wp2
     go_roundg (c.length-(f+1))
     case measure=>omega
     case rel=>exact⟨f+1,by omega,rfl,by go_num,HN,p⟩
  ·have M:Hid (R=true):=HT.out.2 (fun y h1 m L h3=>o.out y (by omega) m L h3)
   clear o;go_wp2;go_ret;exact⟨aD M.out.symm,K2.trans hK⟩
def Ba(l:List St)(a n:Nat):Option ByteArray:=match l[n]? with
 | some s=>if(s.kind==2)=true/\g7 l n a=true then some (aL s) else none
 | none=>none
def qF(l:List St)(a k:Nat):List ByteArray:=(List.range k).filterMap (Ba l a)
def ye(l:List St)(a:Nat):List ByteArray:=qF l a l.length
theorem Kx(h:d<w.length)(a:(w[d].kind==2)=true)(b:g7 w d N=true):qF w N (d+1)=qF w N d++[aL w[d]]:=by
 unfold qF;rw[R4,SS];simp[Ba,h,a,b]
theorem Nb(h:d<w.length)(a:(w[d].kind==2)=false∨g7 w d N=false):qF w N (d+1)=qF w N d:=by
 unfold qF;rw[R4,SS]
 have:Ba w N d=none:=by
  unfold Ba;rw[QO h];simp only;rw[QS];rintro ⟨c,b⟩
  rcases a with a | a
  ·rw[a]at c;cases c
  ·rw[a]at b;cases b
 simp[this]
theorem Bb:(qF w N d).length<=d:=by
 have:=Tn (Ba w N) (List.range d);unfold qF;simpa using this
theorem qE(h:dF M k S w f)(ok:iH w) :
  Calls prog 208 #[.pointer (some ⟨k,S,none⟩),.int .i64 b] M fun e w'=>∃d:Hd,e=.returned (.slice d.ao (ye w b).length d.cap)/\aw w' d (aB (ye w b))/\(∀x,d.blk=some x->M.heap.size<=x)/\ab [] M w':=by
 obtain⟨i0,hi,P,T,Y⟩:=Rd js;have ac:=ok.len;go_enter func208,ntmps208;go_wp2
 go_loopg [5,6] w.length (fun gk sv i wr=>∃(a:Nat) (d:Hd),a<=w.length/\gk=w.length-a/\i=.int .i64 a/\sv=.slice d.ao (qF w b a).length d.cap/\aw wr d (aB (qF w b a))/\(∀x,d.blk=some x->M.heap.size<=x)/\ab [] M wr)
 case atStart=>exact⟨0,⟨none,0⟩,by omega,by omega,rfl,rfl,QY _ _ _ _,by intro x z;simp[Hd.blk]at z,ab.refl _ _⟩
 case round =>
  obtain⟨a,d,hk,hg,rfl,rfl,Z,E,W⟩:=hrel;have J:=h.Va W;have ad:=Bb w b a
  by_cases g:a<w.length
  ·have af:=ok.syms a g
   have L:=hI (Kx w b a g);have m:=hI (Nb w b a g);have O:=mo w[a] (f (10+2*a)) (f (11+2*a));unfold ee at O;have X:=hI O;clear O
   go_upto_region 6 with (first | (go_at_call 80;refine(eM k S w f _ (by exact J)).mono ?_;rintro e wc ⟨rfl,B⟩;rw[B]) | (go_at_call 97;refine(a9 k S a w f _ (by exact J) g).mono ?_;rintro e o ⟨rfl,V⟩;unfold ee))
   obtain⟨l,p⟩:∃l,l=o.alloc (.cells #[.int .i64 w[a].kind,.string w[a].label,.slice (f (10+2*a)).ao w[a].U5.length (f (10+2*a)).cap,.slice (f (11+2*a)).ao w[a].proof.length (f (11+2*a)).cap,.string w[a].fin.file,.int .i64 w[a].fin.line,.int .i64 w[a].fin.col,.int .i64 w[a].til] 158):=⟨_,rfl⟩
   have y:ab [] wr l:=by rw[p];exact V.alloc _
   have t:l.heap[o.heap.size]?=some (.cells #[.int .i64 w[a].kind,.string w[a].label,.slice (f (10+2*a)).ao w[a].U5.length (f (10+2*a)).cap,.slice (f (11+2*a)).ao w[a].proof.length (f (11+2*a)).cap,.string w[a].fin.file,.int .i64 w[a].fin.line,.int .i64 w[a].fin.col,.int .i64 w[a].til] 158 (0,0)):=by rw[p];exact QR _ _
   rw[<-p];clear p;have u0:l.cell? ⟨o.heap.size,0,none⟩=some (.int .i64 w[a].kind):=by rw[aa t];rfl
   have u1:l.cell? ⟨o.heap.size,1,none⟩=some (.string w[a].label):=by rw[aa t];rfl
   have u2:l.cell? ⟨o.heap.size,2,none⟩=some (.slice (f (10+2*a)).ao w[a].U5.length (f (10+2*a)).cap):=by rw[aa t];rfl
   have u3:l.cell? ⟨o.heap.size,3,none⟩=some (.slice (f (11+2*a)).ao w[a].proof.length (f (11+2*a)).cap):=by rw[aa t];rfl
   have u4:l.cell? ⟨o.heap.size,4,none⟩=some (.string w[a].fin.file):=by rw[aa t];rfl
   have u5:l.cell? ⟨o.heap.size,5,none⟩=some (.int .i64 w[a].fin.line):=by rw[aa t];rfl
   have u6:l.cell? ⟨o.heap.size,6,none⟩=some (.int .i64 w[a].fin.col):=by rw[aa t];rfl
   have u7:l.cell? ⟨o.heap.size,7,none⟩=some (.int .i64 w[a].til):=by rw[aa t];rfl
   have v:=J.Va y;have q:aw l d (aB (qF w b a)):=Z.Vf (fun x z=>y.block x (Z.lt z) (by simp));have U:=(v.sts.syms a w[a] (QO g)).view;have A:=W.trans y
   cases h2:(w[a].kind==2)
   ·have s:=hI (m.out (Q0 h2))
    clear L m;go_wp2
    go_roundg (w.length-(a+1))
    case measure=>omega
    case rel=>exact⟨a+1,d,by omega,rfl,by go_num,by rw[s.out],by rw[s.out];exact q,E,A⟩
   ·cases I:g7 w a b
    ·have s:=hI (m.out (QU I))
     clear L m;go_wp2_with (go_at_call 187;refine(gF k S a b w f _ (by exact v) g).mono ?_;rintro e wd ⟨rfl,C⟩;rw[C,I])
     go_roundg (w.length-(a+1))
     case measure=>omega
     case rel=>exact⟨a+1,d,by omega,rfl,by go_num,by rw[s.out],by rw[s.out];exact q,E,A⟩
    ·have s:=hI (L.out h2 I)
     clear L m;go_wp2_with (first | (go_at_call 187;refine(gF k S a b w f _ (by exact v) g).mono ?_;rintro e wd ⟨rfl,C⟩;rw[C,I]) | (go_at_call 189;refine(X.out _ (by exact U) (by omega)).mono ?_;rintro e w5 ⟨rfl,k5⟩;have D:=q.Vf (fun x z=>(k5.alloc (.cells #[.string (aL w[a])] 9)).block x (q.lt z) (by simp))) | (at_builtin;refine aM _ rfl (.tmp 26) (.tmp 29) 61 rfl i0 (.string ⟨#[]⟩) 16 d (aB (qF w b a)) underlying61 hi P T Y rfl Rb rfl (by exact D) ⟨_,0,none⟩ 1 1 [.string (aL w[a])] rfl rfl ?d1 ?d2 Rb ?d3 ?d4 ?_))
     case d1=>intro j u K;match j,K with | 0,K=>simp at K;subst K;simp[Addr.add]
     case d2=>intro u hu;simp at hu;subst hu;rfl
     case d3=>simp only[aB];unfold maxLen;omega
     case d4=>simp only[aB];omega
     intro R G w6 H r c;rw[dr (qF w b a) (aL w[a]),<-s.out]at H;have F:=(A.trans k5).alloc (.cells #[.string (aL w[a])] 9);have N:=F.grown r E
     have ag:M.heap.size<=R:=by
      rcases c with e | e
      ·exact E R e
      ·have:=F.size;simp at e this;omega
     have Q:Hid ((aB (qF w b a)).n+1=(qF w b (a+1)).length):=by show _=_;rw[s.out];simp[aB]
     rw[Q.out];clear r c D;go_wp2
     go_roundg (w.length-(a+1))
     case measure=>omega
     case rel=>exact⟨a+1,⟨some ⟨R,0,none⟩,G⟩,by omega,rfl,by go_num,rfl,H,by intro x z;simp[Hd.blk]at z;omega,N⟩
  ·have e:a=w.length:=by omega
   subst e;go_wp2_with (go_at_call 80;refine(eM k S w f _ (by exact J)).mono ?_;rintro e wc ⟨rfl,B⟩;rw[B]);go_ret;exact⟨d,rfl,Z,E,W⟩
def PG:St:=⟨0,⟨#[]⟩,[],[],⟨⟨#[]⟩,0,0⟩,0⟩
abbrev Om:=List ByteArray×List (List ByteArray)
def ou(l:List St):List Nat->List (List ByteArray)->Om->Int×Om
 | h :: hs,e :: es,S=>if((mV (l.getD h PG) e S).1==0)=true then ou l hs es (mV (l.getD h PG) e S).2 else mV (l.getD h PG) e S
 | _,_,S=>(0,S)
def tH(l:List St)(n:Nat)(vs:List ByteArray)(ms:List Bool)(sy:List ByteArray)(R:Int×Om):Int×List ByteArray :=
 if(R.1==0)=true then(if Cd l n R.2 vs ms=true then(0,nX R.2.1 R.2.2 sy) else(9,[])) else(R.1,[])
def iV(l:List St)(n:Nat)(vs:List ByteArray)(ms:List Bool)(th:List (List ByteArray)):Int×List ByteArray :=
 if th.length<(aK l n).length then(6,[])
 else tH l n vs ms (l.getD n PG).U5 (ou l (aK l n) (th.drop (th.length-(aK l n).length)) ([],[]))
theorem zT(h:d<w.length):w.getD d PG=w[d]:=by rw[QP,QO h];rfl
theorem If(S:Om)(i:Nat)(b:i<yf.length)(a:i<yr.length)(c:yf[i]<w.length) :
  ou w (yf.drop i) (yr.drop i) S=if((mV w[yf[i]] yr[i] S).1==0)=true then ou w (yf.drop (i+1)) (yr.drop (i+1)) (mV w[yf[i]] yr[i] S).2 else mV w[yf[i]] yr[i] S:=by
 rw[Re b,Re a,ou,zT w _ c]
theorem D0(S:Om)(i:Nat)(a:¬i<yf.length):ou w (yf.drop i) yr S=(0,S):=by
 rw[R6 (by omega)];cases yr <;> rfl
structure Kr(S:Om)(N:Nat):Prop where
 one:S.1.length<=N
 two:∀y∈S.2,y.length<=10000
theorem Np(s:St)(e:List ByteArray)(S:Om)(N:Nat)(h:Kr S N)(b:e.length<=10000):Kr (mV s e S).2 (N+1):=by
 have c:=h.one;unfold mV
 split
 ·split <;> exact⟨by simp only;omega,h.two⟩
 ·split
  ·exact⟨by simp only;omega,h.two⟩
  ·next x r =>
   split
   ·refine⟨by simp;omega,fun y a=>?_⟩
    simp at a
    rcases a with a | rfl
    ·exact h.two y a
    ·simp at b;omega
   ·exact⟨by simp only;omega,h.two⟩
theorem Is:∀x∈dG w N d,x<d:=by
 induction d with
 | zero=>intro x a;simp[dG]at a
 | succ d b =>
  intro x a
  cases h:l5 w (f8 w N) N d
  ·rw[tW w N d h]at a
   have:=b x a;omega
  ·rw[wm w N d h]at a
   simp at a
   rcases a with a | rfl
   ·have:=b x a;omega
   ·omega
theorem BU(h:z4∈aK yt I):z4<yt.length:=Is yt I yt.length z4 h
theorem aw.cutE(o:aw L y8 (gn z5))(c:Nat)(t:c<=z5.length):aw L y8 (gn (z5.take c)):=by
 have d:(z5.take c).length=c:=by simp;omega
 refine⟨by simp[gn,Bw],?_⟩
 rcases o.2 with ⟨f,i⟩ | ⟨g,b,a,f,s,h,j,m,n,p⟩
 ·left
  have:z5.length=0:=i;have k:z5=[]:=Rj this;subst k;simp[gn]at f ⊢;exact f
 ·right
  have q:z5.length<=b:=j;refine⟨g,b,a,?_,s,h,?_,m,n,?_⟩
  ·injection f with l u r
   simp only[gn];rw[l,r]
  ·show(z5.take c).length<=b
   omega
  ·show a.toList.take ((z5.take c).length*1)=Bw (z5.take c)
   have e:a.toList.take (z5.length*1)=Bw z5:=p;rw[d];unfold Bw at e ⊢;rw[UK,<-e,UB]
   congr 1
   omega
def pm(sh th:List Ex):Nat->dN
 | 0=>gn sh
 | 1=>gn th
 | _+2=>gn []
def id(rb ro g n tb:Nat)(sh th:List Ex)(H:Nat->Hd):List Value :=
 [.pointer (some ⟨rb,ro,none⟩),.slice (some ⟨g,0,none⟩) n n,.pointer (some ⟨tb,0,none⟩),.slice (H 0).ao sh.length (H 0).cap,.slice (H 1).ao th.length (H 1).cap]
structure uw(w:World)(b rb ro g n tb:Nat)(sh th:List Ex)(H:Nat->Hd):Prop where
 bag:a8 w b 307 (id rb ro g n tb sh th H) (pm sh th) H
 shs:∀e∈sh,qZ w b H e.hd e.xs/\e.xs.length<=32
 ths:∀e∈th,qZ w b H e.hd e.xs/\e.xs.length<=32
theorem uw.Va(h:uw L I z4 zb zt y6 ya z5 yd g)(k:ab [] L y2):uw y2 I z4 zb zt y6 ya z5 yd g :=
 ⟨h.bag.Va k,fun e a=>⟨(h.shs e a).1.Va k,(h.shs e a).2⟩,fun e a=>⟨(h.ths e a).1.Va k,(h.ths e a).2⟩⟩
theorem uw.ctx(h:uw L I z4 zb zt y6 ya z5 yd g):xC L I z4 zb zt y6 ya:=⟨_,_,h.bag.blk,rfl,rfl,rfl⟩
theorem uw.cells{g:Nat}(h:uw L I z4 zb g zt y6 z5 yd g) :
  L.cell? ⟨I,3,none⟩=some (.slice (g 0).ao z5.length (g 0).cap)/\L.cell? ⟨I,4,none⟩=some (.slice (g 1).ao yd.length (g 1).cap):=⟨h.bag.cell 3,h.bag.cell 4⟩
structure Dy(w:World)(rb ro g tb:Nat)(l:List St)(HR K:Nat->Hd)(vs:List ByteArray)(ms:List Bool)(hv hm:Hd):Prop where
 recd:dF w rb ro l HR
 ok:iH l
 all:gW w g l l.length K
 ap:kP w tb vs ms hv hm
 hml:ms.length=vs.length*vs.length
 hvl:vs.length<=10000
theorem Dy.Va{b:List Bool}{a:Hd}(h:Dy L I z4 zb zt yt g yg x4 b y8 a)(k:ab [] L y2):Dy y2 I z4 zb zt yt g yg x4 b y8 a :=
 ⟨h.recd.Va k,h.ok,h.all.Va k,h.ap.Va k,h.hml,h.hvl⟩
structure l8(w0 w:World)(b rb ro g n tb:Nat)(sh th:List Ex)(H:Nat->Hd):Prop where
 ply:uw w b rb ro g n tb sh th H
 kept:ab [] w0 w
 hb:w0.heap.size<=b
 hin:∀x,f9 H x->w0.heap.size<=x
theorem l8.Va(h:l8 L y2 I z4 zb zt y6 ya z5 yd g)(k:ab [] y2 yu):l8 L yu I z4 zb zt y6 ya z5 yd g :=
 ⟨h.ply.Va k,h.kept.trans k,h.hb,h.hin⟩
section
attribute [local go_sem] v9
theorem qZ.turned(f:qZ L I g y8 x4)(t:aA I L g y2 yg):qZ y2 I yg y8 x4:=by
 refine⟨f.view.keptP t.1 (fun x b=>?_),fun x b=>?_⟩
 ·obtain⟨_,a,c⟩:=f.far x b
  rintro (e | e)
  ·exact a e
  ·exact c e
 ·obtain⟨d,a,c⟩:=f.far x b
  exact⟨QW d t.1.size,a,t.fresh x d c⟩
theorem a8.reset{b:List Value}{a rows':Nat->dN}(h:a8 L I z4 b a g)(c:Nat)(u:Value)(o:∀i,aw L (g i) (rows' i)) :
  a8 (L.setCell ⟨I,c,none⟩ u) I z4 (b.set c u) rows' g/\aA I L g (L.setCell ⟨I,c,none⟩ u) g:=by
 obtain⟨f,d⟩:=h.set c u;refine⟨⟨f.blk,fun i=>(o i).Vf (fun k e=>Q3 _ _ _ _ ?_),h.apart,h.off⟩,d⟩;rintro rfl;exact h.off i e
theorem sB:qZ D b f ⟨none,0⟩ []:=⟨Q0 rfl,fun x a=>by simp[Hd.blk]at a⟩
theorem yc(E:Dy z7 i v k S w T y5 x y y9 z6)(P:l8 z7 D a i v k w.length S n H f)(V:b<w.length)(hA:sK w b=true)(ck:H.length<=2000000) :
  Calls prog 261 #[.pointer (some ⟨a,0,none⟩),.int .i64 b] D fun e t=>∃(aT:List Ex) (B:Ex),
   e=.returned (.tuple #[.slice B.hd.ao B.xs.length B.hd.cap,.int .i64 (iV w b x y (H.map Ex.xs)).1])/\B.xs=(iV w b x y (H.map Ex.xs)).2/\l8 z7 t a i v k w.length S n aT f/\qZ t a f B.hd B.xs /\
   (((iV w b x y (H.map Ex.xs)).1==0)=true->aT=H.take (H.length-(aK w b).length))/\aT.length<=H.length:=by
 have Ew:=E.Va P.kept;have b6:=E.ok.len;obtain⟨p0,p1,p2⟩:=P.ply.ctx.cells;obtain⟨p3,p4⟩:=P.ply.cells;have bl:lN w w.length b=aK w b:=by unfold lN;rw[QV ⟨V,hA⟩]
 have ca:=Ew.all.cell b V;have oa:=Ew.all.own b V;rw[bl]at ca oa;obtain⟨AO,a1⟩:∃AO,Hid ((y5 b).ao=AO):=⟨_,rfl⟩
 rw[a1.out]at ca;have cq:(aK w b).length<=w.length:=ox w b w.length;have a7:∀c (hi:c<(aK w b).length),(aK w b)[c]<w.length:=fun c hi=>BU (Ra hi)
 have cy:(b:Int)<w.length:=by omega
 have cc:¬(b:Int) ≥ w.length:=by omega
 clear bl p2 p3
 by_cases hu:H.length<(aK w b).length
 ·have HF:Hid (iV w b x y (H.map Ex.xs)=(6,[])):=by show _=_;unfold iV;rw[Rh,QV hu]
  have b4:(H.length:Int)-(aK w b).length<0:=by omega
  go_enter func261,ntmps261;go_wp2
  exact QX (v:=.tuple #[.slice none 0 0,.int .i64 6]) (by simp[results,results261,go_sem]) rfl
   ⟨H,⟨⟨none,0⟩,[]⟩,by rw[HF.out];rfl,by rw[HF.out],P,sB _ _ _,by rw[HF.out];simp,QQ _⟩
 ·obtain⟨d,hf⟩:∃d,H.length-(aK w b).length=d:=⟨_,rfl⟩
  have cl:(H.length:Int)-(aK w b).length=(d:Int):=by omega
  have cx:¬(d:Int)<0:=by omega
  obtain⟨RR,bj⟩:∃RR,Hid (RR=ou w (aK w b) ((H.map Ex.xs).drop d) ([],[])):=⟨_,rfl⟩
  have HF:Hid (iV w b x y (H.map Ex.xs)=tH w b x y w[b].U5 RR):=by
   show _=_
   unfold iV;rw[Rh,QS hu,zT w b V,hf,bj.out]
  rw[hf];have a4:d+(aK w b).length=H.length:=by omega
  have bk:=hI a4;clear hf a4;obtain⟨W,hW⟩:∃W,W=D.alloc (.cells #[.slice none 0 0,.slice none 0 0] 343):=⟨_,rfl⟩
  have kW:ab [] D W:=by rw[hW];exact(ab.refl [] _).alloc _
  have SI:l9 W D.heap.size [] [] mD:=by
   rw[hW];refine⟨⟨QR _ _,?_,fun c j _=>Q0 rfl,fun c e=>by simp[mD,Hd.blk]at e⟩,rfl,by simp⟩;intro c
   match c with
   | 0=>exact QY _ _ _ _
   | 1=>exact QY _ _ _ _
   | m+2=>exact QY _ _ _ _
  have HW:=hI hW.symm;clear hW;go_enter func261,ntmps261
  go_upto_region 8 with fail
  rw[HW.out];have PW:=P.Va kW;clear HW p0 p1 p4 ca;go_wp2
  go_loopg [9] (aK w b).length (fun gk iv wr=>∃(c:Nat) (az:Om) (r:List Ex) (R:Nat->Hd),c<=(aK w b).length/\gk=(aK w b).length-c/\iv=.int .i64 c/\Kr az c/\r.map Ex.xs=az.2/\Hid (RR=ou w ((aK w b).drop c) (((H.map Ex.xs).drop d).drop c) az)/\l9 wr D.heap.size az.1 r R/\(∀g,f9 R g->D.heap.size<=g)/\(∀e∈r,e.hd.blk≠some a)/\ab [] D wr)
  case atStart=>exact⟨0,([],[]),[],mD,by omega,by omega,rfl,⟨by simp,by simp⟩,rfl,bj.out,SI,fun g h=>by obtain⟨c,hi⟩:=h;simp[mD,Hd.blk]at hi,by simp,kW⟩
  case round =>
   obtain⟨c,az,r,R,hi,hg,rfl,z,ac,hR,hS,N,ai,U⟩:=hrel
   by_cases M:c<(aK w b).length
   ·obtain⟨u,S2⟩:=az
    simp only at ac;subst ac;have Pr:=P.Va U;have ar:d+c<H.length:=by have:=bk.out;omega
    have oT:aw wr (f 1) (gn H):=Pr.ply.bag.own 1
    rcases oT.ways with ⟨_,h0,_⟩ | ⟨I,a2,et,-,aS,-⟩
    ·have:H.length=0:=h0
     omega
    have oH:aw wr (y5 b) (bB (aK w b)):=oa.Vf (fun g h=>U.block g (oa.lt h) (by simp))
    rcases oH.ways with ⟨_,h0,_⟩ | ⟨gh,b3,eh,-,bp,-⟩
    ·have:(aK w b).length=0:=h0
     omega
    have ch:=oH.cell eh c (.int .i64 (aK w b)[c]) (jP _ c M);have ct:=oT.cell et (d+c) (vZ H[d+c]) (sA H (d+c) ar);obtain rfl:AO=some ⟨gh,0,none⟩:=a1.out.symm.trans eh;have a6:H.length<=(f 1).cap:=aS;have b0:(aK w b).length<=(y5 b).cap:=bp;have p:=(P.ply.ths H[d+c] (Ra ar));have Y:=a7 c M;have G:=hI (hR.out.trans (If w (aK w b) ((H.map Ex.xs).drop d) (u,r.map Ex.xs) c M (by simp;omega) Y));have e1:((H.map Ex.xs).drop d)[c]'(by simp;omega)=H[d+c].xs:=by simp
    rw[e1]at G;have a3:=Np w[(aK w b)[c]] H[d+c].xs (u,r.map Ex.xs) c z (by omega);have FT:=fun(w3:World) (A:ab [] wr w3)=>Nq D.heap.size u r R w[(aK w b)[c]] (T (10+2*(aK w b)[c])) (T (11+2*(aK w b)[c])) H[d+c].hd H[d+c].xs w3 (hS.Va A) (by have:=z.one;simp only at this;omega) (fun e l=>z.two _ (TU l)) ((((E.Va (Pr.kept.trans A)).recd.sts.syms _ w[(aK w b)[c]] (QO Y)).view)) (E.ok.syms _ Y) ⟨(p.1.Va (U.trans A)).view,fun g h=>⟨QW (p.1.far g h).1 (U.trans A).size,by have:=(p.1.far g h).1;omega,fun z6=>by have:=N g z6;have:=(p.1.far g h).1;omega⟩⟩ (by omega)
    have ST:=fun(w3:World) (A:ab [] wr w3)=>a9 i v (aK w b)[c] w T w3 (E.Va (Pr.kept.trans A)).recd Y
    have p4:=Pr.ply.cells.2;have p0:=Pr.ply.ctx.cells.1;rw[et]at p4
    have K:Hid (∀t,ab [] D t->t.cell? ⟨a,0,none⟩=some (.pointer (some ⟨i,v,none⟩))/\t.cell? ⟨gh,c,none⟩=some (.int .i64 (aK w b)[c])/\t.cell? ⟨a,4,none⟩=some (.slice (some ⟨I,0,none⟩) H.length (f 1).cap)/\t.cell? ⟨I,d+c,none⟩=some (vZ H[d+c])):=by
     intro t b2;have P':=P.Va b2;refine⟨P'.ply.ctx.cells.1,(oa.Vf (fun g h=>b2.block g (oa.lt h) (by simp))).cell eh c _ (jP _ c M),?_,(P'.ply.bag.own 1).cell et (d+c) (vZ H[d+c]) (sA H (d+c) ar)⟩;rw[<-et];exact P'.ply.cells.2
    have bc:Hid (∀g,(g=D.heap.size∨f9 R g)->D.heap.size<=g):=by
     rintro g (e | e)
     ·omega
     ·exact N g e
    have J:=hI FT;have a5:=hI ST;have b5:IntKind.i64.wrap ((d:Int)+c)=(d:Int)+c:=by rw[R8];omega
    have bT:(0:Int)<=(d:Int)+c:=by omega
    have b1:(d:Int)+c<H.length:=by omega
    have co:((d:Int)+c).toNat=d+c:=by omega
    have ax:=p.1.far;clear FT ST hR e1 oT oH p et eh;unfold vZ at ct K;generalize H[d+c]=B at *;generalize (aK w b)[c]=an at *;generalize mV w[an] B.xs (u,r.map Ex.xs)=Q at *;obtain⟨q,S9⟩:=Q;simp only at G a3 J;have bo:B.hd.blk≠some a:=fun e=>(ax a e).2.1 rfl
    cases hq:(q==0)
    ·have bw:(q != 0)=true:=by simp[bne,hq]
     have C:Hid (iV w b x y (H.map Ex.xs)=(q,[])):=by show _=_;rw[HF.out,G.out,QS (by rw[hq];simp)];simp[tH,hq]
     clear G
     go_upto_region 11 with fail
     go_region_held3 (fun t=>t.cell? ⟨a,0,none⟩=some (.pointer (some ⟨i,v,none⟩))/\t.cell? ⟨gh,c,none⟩=some (.int .i64 an)/\t.cell? ⟨a,4,none⟩=some (.slice (some ⟨I,0,none⟩) H.length (f 1).cap)/\t.cell? ⟨I,d+c,none⟩=some (.slice B.hd.ao B.xs.length B.hd.cap)) (go_keep) (first | (go_at_call 97;refine(a5.out _ (by exact(ab.refl [] _).drew)).mono ?_;rintro e w3 ⟨rfl,A⟩;obtain⟨x0,x1,x2,x3⟩:=K.out w3 (U.drew.trans A)) | (go_at_call 272;refine(J.out _ (by exact(ab.refl [] _).drew.trans A)).mono ?_;rintro e w9 ⟨a0,H9,rfl,bf,ag,T9,O⟩;have K9:=(U.drew.trans A).ofP T9.1 bc.out;obtain⟨z0,z1,z2,z3⟩:=K.out w9 K9))
     all_goals
      clear z0 z1 z2 z3 x0 x1 x2 x3;go_wp2
      exact QX (v:=.tuple #[.slice none 0 0,.int .i64 q]) (by simp[results,results261,go_sem]) rfl
       ⟨H,⟨⟨none,0⟩,[]⟩,by rw[C.out];rfl,by rw[C.out],P.Va K9,sB _ _ _,fun hh=>by rw[C.out]at hh;exact absurd (hq.symm.trans hh) (by simp),QQ _⟩
    ·have bw:(q != 0)=false:=by simp[bne,hq]
     have C:Hid (RR=ou w ((aK w b).drop (c+1)) (((H.map Ex.xs).drop d).drop (c+1)) S9):=by show _=_;rw[G.out,QV hq]
     clear G
     go_upto_region 11 with fail
     go_region_held3 (fun t=>t.cell? ⟨a,0,none⟩=some (.pointer (some ⟨i,v,none⟩))/\t.cell? ⟨gh,c,none⟩=some (.int .i64 an)/\t.cell? ⟨a,4,none⟩=some (.slice (some ⟨I,0,none⟩) H.length (f 1).cap)/\t.cell? ⟨I,d+c,none⟩=some (.slice B.hd.ao B.xs.length B.hd.cap)) (go_keep) (first | (go_at_call 97;refine(a5.out _ (by exact(ab.refl [] _).drew)).mono ?_;rintro e w3 ⟨rfl,A⟩;obtain⟨x0,x1,x2,x3⟩:=K.out w3 (U.drew.trans A)) | (go_at_call 272;refine(J.out _ (by exact(ab.refl [] _).drew.trans A)).mono ?_;rintro e w9 ⟨a0,H9,rfl,bf,ag,T9,O⟩;have K9:=(U.drew.trans A).ofP T9.1 bc.out;obtain⟨z0,z1,z2,z3⟩:=K.out w9 K9))
     all_goals
      have br:∀g,f9 H9 g->D.heap.size<=g:=fun g h=>by
       rcases T9.2 g h with e | e
       ·exact N g e
       ·exact Q1 (U.drew.trans A).size e
      have bz:∀e∈a0,e.hd.blk≠some a:=fun e l=>by
       rcases O e l with q | q
       ·exact ai e q
       ·rw[q];exact bo
      clear z0 z1 z2 z3 x0 x1 x2 x3;go_wp2
      go_roundg ((aK w b).length-(c+1))
      case measure=>omega
      case rel=>exact⟨c+1,S9,a0,H9,by omega,rfl,by go_num,a3,ag,C.out,bf,br,bz,K9⟩
   ·obtain⟨u,S2⟩:=az
    simp only at ac;subst ac
    have ad:Hid (iV w b x y (H.map Ex.xs)=tH w b x y w[b].U5 (0,(u,r.map Ex.xs))):=by
     show _=_
     rw[HF.out,hR.out,D0 _ _ _ _ _ M]
    have Pr:=P.Va U;have Er:=E.Va Pr.kept;have bv:=z.one;simp only at bv;have KA:=wA a i v k w.length S b D.heap.size w T x y y9 z6 u r R wr Pr.ply.ctx Er.ap E.hml E.hvl Er.recd E.ok hS (by omega) (fun e l=>z.two _ (TU l));clear hR
    cases hk:Cd w b (u,r.map Ex.xs) x y
    ·have C:Hid (iV w b x y (H.map Ex.xs)=(9,[])):=by show _=_;rw[ad.out];simp[tH,hk]
     rw[hk]at KA;clear ad
     go_upto_region 15 with (go_at_call 273;refine KA.mono ?_;rintro e F ⟨rfl,k2⟩)
     go_wp2
     exact QX (v:=.tuple #[.slice none 0 0,.int .i64 9]) (by simp[results,results261,go_sem]) rfl
      ⟨H,⟨⟨none,0⟩,[]⟩,by rw[C.out];rfl,by rw[C.out],Pr.Va k2,sB _ _ _,by rw[C.out];simp,QQ _⟩
    ·have C:Hid (iV w b x y (H.map Ex.xs)=(0,nX u (r.map Ex.xs) w[b].U5)):=by show _=_;rw[ad.out];simp[tH,hk]
     rw[hk]at KA;clear ad
     go_upto_region 16 with (go_at_call 273;refine KA.mono ?_;rintro e F ⟨rfl,k2⟩)
     have s:=Pr.Va k2;have o:=hS.Va k2;have p4:=s.ply.cells.2;have y4:=s.ply.bag.free;have cs:=s.ply.bag.lt;have oT:aw F (f 1) (gn H):=s.ply.bag.own 1;have af:d<=H.length:=by have:=bk.out;omega
     have cb:(d:Int)<=H.length:=by omega
     have cu:D.heap.size > a:=P.ply.bag.lt
     rcases oT.ways with ⟨e0,h0,-⟩ | ⟨I,a2,et,-,aS,-⟩
     ·have bg:H.length=0:=h0
      have bd:d=0:=by omega
      have al:Hid (Value.slice none 0 0=Value.slice (f 1).ao (H.take d).length (f 1).cap):=by show _=_;rw[e0,bd];rfl
      have cj:=hI e0;rw[e0,bg]at p4;have cp:(d:Int)=0:=by omega
      clear e0 h0 bg
      go_upto_region 17 with fail
      have D5:Hid (a8 (F.setCell ⟨a,4,none⟩ (.slice none 0 0)) a 307 (id i v k w.length S n (H.take d) f) (pm n (H.take d)) f/\aA a F f (F.setCell ⟨a,4,none⟩ (.slice none 0 0)) f):=by
       have q:=s.ply.bag.reset (rows':=pm n (H.take d)) 4 (.slice none 0 0) (by
        intro j
        match j with
        | 0=>exact s.ply.bag.own 0
        | 1=>exact oT.cutE d af
        | m+2=>exact s.ply.bag.own (m+2))
       have e:(id i v k w.length S n H f).set 4 (.slice none 0 0)=id i v k w.length S n (H.take d) f:=by
        simp only[id,SA,Tu];rw[al.out]
       rw[e]at q;exact q
      generalize hX:F.setCell ⟨a,4,none⟩ (.slice none 0 0)=X at D5 ⊢;have kX:ab [] z7 X:=by rw[<-hX];exact s.kept.setCell (QU P.hb) _
      have PX:l8 z7 X a i v k w.length S n (H.take d) f:=⟨⟨D5.out.1,fun e l=>⟨(s.ply.shs e l).1.turned D5.out.2,(s.ply.shs e l).2⟩,fun e l=>⟨(s.ply.ths e (Ta l)).1.turned D5.out.2,(s.ply.ths e (Ta l)).2⟩⟩,kX,P.hb,P.hin⟩;have kb:eK (fun g=>g=a) F X:=by rw[<-hX];exact(eK.refl (fun g=>g=a) F).setCell (Q0 (show a=a from rfl)) _
      have SX:l9 X D.heap.size u r R:=⟨o.bag.keptP kb (by omega) (fun g h=>by have:=N g h;omega),o.len,fun e l=>⟨(o.exs e l).view.keptP kb (fun g h e2=>ai e l (e2 ▸ h)),(o.exs e l).adr,fun g h=>⟨QW ((o.exs e l).far g h).1 kb.size,((o.exs e l).far g h).2⟩⟩⟩;have p0:=PX.ply.ctx.cells.1;have bs:=PX.ply.bag.lt;have L:=fun g (h:f9 f g)=>PX.ply.bag.inlt h
      have ba:=E.ok.syms b V;have EX:=E.Va kX;clear hX p4 y4 KA;go_wp2_with (first | (go_at_call 97;refine(a9 i v b w T _ (by exact EX.recd) V).mono ?_;rintro e w6 ⟨rfl,Z⟩;unfold ee) | (go_at_call 274;refine(pS D.heap.size u r R (T (10+2*b)) w[b].U5 _ (by exact SX.Va Z) (by omega) (fun e l=>z.two _ (TU l)) (((EX.Va Z).recd.sts.syms b w[b] (QO V)).view) (by omega)).mono ?_;rintro e w7 ⟨hd,rfl,o7,n7,k7⟩));have bx:=Z.size
      exact QX (v:=.tuple #[.slice hd.ao (nX u (r.map Ex.xs) w[b].U5).length hd.cap,.int .i64 0]) (by simp[results,results261,go_sem]) rfl
       ⟨H.take d,⟨hd,nX u (r.map Ex.xs) w[b].U5⟩,by rw[C.out],by rw[C.out],PX.Va (Z.trans k7),⟨o7.view,fun g h=>⟨o7.lt h,by have:=n7 g h;omega,fun z6=>by have:=n7 g h;have:=L g z6;omega⟩⟩,fun _=>rfl,by simp;omega⟩
     ·have al:Hid (Value.slice (some ⟨I,0,none⟩) d (f 1).cap=Value.slice (f 1).ao (H.take d).length (f 1).cap):=by show _=_;rw[et];simp;omega
      have a6:H.length<=(f 1).cap:=aS;have cf:(d:Int)<=(f 1).cap:=by omega
      rw[et]at p4;clear et
      go_upto_region 17 with fail
      have D5:Hid (a8 (F.setCell ⟨a,4,none⟩ (.slice (some ⟨I,0,none⟩) d (f 1).cap)) a 307 (id i v k w.length S n (H.take d) f) (pm n (H.take d)) f/\aA a F f (F.setCell ⟨a,4,none⟩ (.slice (some ⟨I,0,none⟩) d (f 1).cap)) f):=by
       have q:=s.ply.bag.reset (rows':=pm n (H.take d)) 4 (.slice (some ⟨I,0,none⟩) d (f 1).cap) (by
        intro j
        match j with
        | 0=>exact s.ply.bag.own 0
        | 1=>exact oT.cutE d af
        | m+2=>exact s.ply.bag.own (m+2))
       have e:(id i v k w.length S n H f).set 4 (.slice (some ⟨I,0,none⟩) d (f 1).cap)=id i v k w.length S n (H.take d) f:=by
        simp only[id,SA,Tu];rw[al.out]
       rw[e]at q;exact q
      generalize hX:F.setCell ⟨a,4,none⟩ (.slice (some ⟨I,0,none⟩) d (f 1).cap)=X at D5 ⊢;have kX:ab [] z7 X:=by rw[<-hX];exact s.kept.setCell (QU P.hb) _
      have PX:l8 z7 X a i v k w.length S n (H.take d) f:=⟨⟨D5.out.1,fun e l=>⟨(s.ply.shs e l).1.turned D5.out.2,(s.ply.shs e l).2⟩,fun e l=>⟨(s.ply.ths e (Ta l)).1.turned D5.out.2,(s.ply.ths e (Ta l)).2⟩⟩,kX,P.hb,P.hin⟩;have kb:eK (fun g=>g=a) F X:=by rw[<-hX];exact(eK.refl (fun g=>g=a) F).setCell (Q0 (show a=a from rfl)) _
      have SX:l9 X D.heap.size u r R:=⟨o.bag.keptP kb (by omega) (fun g h=>by have:=N g h;omega),o.len,fun e l=>⟨(o.exs e l).view.keptP kb (fun g h e2=>ai e l (e2 ▸ h)),(o.exs e l).adr,fun g h=>⟨QW ((o.exs e l).far g h).1 kb.size,((o.exs e l).far g h).2⟩⟩⟩;have p0:=PX.ply.ctx.cells.1;have bs:=PX.ply.bag.lt;have L:=fun g (h:f9 f g)=>PX.ply.bag.inlt h
      have ba:=E.ok.syms b V;have EX:=E.Va kX;clear hX p4 y4 KA;go_wp2_with (first | (go_at_call 97;refine(a9 i v b w T _ (by exact EX.recd) V).mono ?_;rintro e w6 ⟨rfl,Z⟩;unfold ee) | (go_at_call 274;refine(pS D.heap.size u r R (T (10+2*b)) w[b].U5 _ (by exact SX.Va Z) (by omega) (fun e l=>z.two _ (TU l)) (((EX.Va Z).recd.sts.syms b w[b] (QO V)).view) (by omega)).mono ?_;rintro e w7 ⟨hd,rfl,o7,n7,k7⟩));have bx:=Z.size
      exact QX (v:=.tuple #[.slice hd.ao (nX u (r.map Ex.xs) w[b].U5).length hd.cap,.int .i64 0]) (by simp[results,results261,go_sem]) rfl
       ⟨H.take d,⟨hd,nX u (r.map Ex.xs) w[b].U5⟩,by rw[C.out],by rw[C.out],PX.Va (Z.trans k7),⟨o7.view,fun g h=>⟨o7.lt h,by have:=n7 g h;omega,fun z6=>by have:=n7 g h;have:=L g z6;omega⟩⟩,fun _=>rfl,by simp;omega⟩
end
def ju(l:List St)(vs:List ByteArray)(ms:List Bool)(sh th:List (List ByteArray))(s:nE):(Int×List ByteArray)×List (List ByteArray) :=
 if(s.kind==3)=true then(if s.U6<sh.length then((0,sh.getD s.U6 []),th) else((5,[]),th))
 else if sK l s.U6=true then(iV l s.U6 vs ms th,th.take (th.length-(aK l s.U6).length))
 else((0,(l.getD s.U6 PG).U5),th)
theorem Ms(E:Dy z7 v k S b w T y5 x y y9 z6)(P:l8 z7 D i v k S w.length b n H f)(hn:(l.kind==3)=false->l.U6<w.length)(bc:l.U6<=2000000)(ac:H.length<=2000000) :
  Calls prog 239 #[.pointer (some ⟨i,0,none⟩),.agg #[.int .i64 l.kind,.int .i64 l.U6,.string l.at_.file,.int .i64 l.at_.line,.int .i64 l.at_.col]] D fun e z=>∃(Q:List Ex) (u:Ex),
   e=.returned (.tuple #[.slice u.hd.ao u.xs.length u.hd.cap,.int .i64 (ju w x y (n.map Ex.xs) (H.map Ex.xs) l).1.1])/\u.xs=(ju w x y (n.map Ex.xs) (H.map Ex.xs) l).1.2/\l8 z7 z i v k S w.length b n Q f/\qZ z i f u.hd u.xs /\
   (((ju w x y (n.map Ex.xs) (H.map Ex.xs) l).1.1==0)=true->Q.map Ex.xs=(ju w x y (n.map Ex.xs) (H.map Ex.xs) l).2)/\Q.length<=H.length:=by
 obtain⟨W,hW⟩:∃W,W=D.alloc (.cells #[.int .i64 l.kind,.int .i64 l.U6,.string l.at_.file,.int .i64 l.at_.line,.int .i64 l.at_.col] 174):=⟨_,rfl⟩
 have kW:ab [] D W:=by rw[hW];exact(ab.refl [] _).alloc _
 have B:W.heap[D.heap.size]?=some (.cells #[.int .i64 l.kind,.int .i64 l.U6,.string l.at_.file,.int .i64 l.at_.line,.int .i64 l.at_.col] 174 (0,0)):=by rw[hW];exact QR _ _
 have HW:=hI hW.symm;have u0:W.cell? ⟨D.heap.size,0,none⟩=some (.int .i64 l.kind):=by rw[aa B];rfl
 have u1:W.cell? ⟨D.heap.size,1,none⟩=some (.int .i64 l.U6):=by rw[aa B];rfl
 have o:=P.Va kW;have EW:=E.Va o.kept;obtain⟨p0,p1,p2⟩:=o.ply.ctx.cells;obtain⟨p3,p4⟩:=o.ply.cells;have a6:=o.ply.bag.lt;have a5:=ae B;clear hW
 cases hk:(l.kind==3)
 ·have j:=hn hk
  have J:Hid (ju w x y (n.map Ex.xs) (H.map Ex.xs) l=if sK w l.U6=true then(iV w l.U6 x y (H.map Ex.xs),(H.map Ex.xs).take (H.length-(aK w l.U6).length)) else((0,w[l.U6].U5),H.map Ex.xs)):=by
   show _=_
   unfold ju;rw[hk,Rh,Rh,zT w _ j];rfl
  have V:Hid (∀z,ab [] W z->z.cell? ⟨i,0,none⟩=some (.pointer (some ⟨v,k,none⟩))/\z.cell? ⟨D.heap.size,1,none⟩=some (.int .i64 l.U6)):=by
   intro z al;refine⟨(o.Va al).ply.ctx.cells.1,?_⟩;rw[aa (al.get B (by simp))];rfl
  have ad:=hI (fun(a:World) (I:ab [] W a)=>a9 v k l.U6 w T a (EW.Va I).recd j)
  have HZ:Hid (∀a,ab [] (W.alloc (.cells #[.int .i64 0,.string ⟨#[]⟩,.slice none 0 0,.slice none 0 0,.string ⟨#[]⟩,.int .i64 0,.int .i64 0,.int .i64 0] 158)).drew a->a.cell? ⟨W.heap.size,0,none⟩=some (.int .i64 0)/\a.cell? ⟨W.heap.size,1,none⟩=some (.string ⟨#[]⟩)/\a.cell? ⟨W.heap.size,2,none⟩=some (.slice none 0 0)/\a.cell? ⟨W.heap.size,3,none⟩=some (.slice none 0 0)/\a.cell? ⟨W.heap.size,4,none⟩=some (.string ⟨#[]⟩)/\a.cell? ⟨W.heap.size,5,none⟩=some (.int .i64 0)/\a.cell? ⟨W.heap.size,6,none⟩=some (.int .i64 0)/\a.cell? ⟨W.heap.size,7,none⟩=some (.int .i64 0)/\∀ap,a.frozen? ⟨W.heap.size,ap,none⟩=false):=by
   intro a al;have q:=al.get (show(W.alloc (.cells #[.int .i64 0,.string ⟨#[]⟩,.slice none 0 0,.slice none 0 0,.string ⟨#[]⟩,.int .i64 0,.int .i64 0,.int .i64 0] 158)).drew.heap[W.heap.size]?=_ from QR _ _) (by simp);refine⟨?_,?_,?_,?_,?_,?_,?_,?_,fun ap=>am q ap⟩ <;> (rw[aa q];rfl)
  have a0:W.heap.size≠i:=by omega
  have aT:i≠W.heap.size:=by omega
  have a1:W.heap.size≠D.heap.size:=by omega
  have a3:D.heap.size≠W.heap.size:=by omega
  clear p1 p2 p3 p4;go_enter func239,ntmps239
  go_upto_region 1 with fail
  rw[HW.out]
  go_upto_region 5 with fail
  go_region_held3 (fun z=>z.cell? ⟨i,0,none⟩=some (.pointer (some ⟨v,k,none⟩))/\z.cell? ⟨D.heap.size,1,none⟩=some (.int .i64 l.U6)) (go_keep) (first | (go_at_call 97;refine(ad.out _ (by exact(ab.refl [] W).drew)).mono ?_;rintro e a ⟨rfl,I⟩;obtain⟨x0,x1⟩:=V.out a ((ab.refl [] _).drew.trans I);unfold ee) | (go_at_call 97;refine(ad.out _ (by exact((ab.refl [] W).alloc _).drew)).mono ?_;rintro e a ⟨rfl,I⟩;obtain⟨x0,x1⟩:=V.out a (((ab.refl [] W).alloc _).drew.trans I);obtain⟨q0,q1,q2,q3,q4,q5,q6,q7,qf⟩:=HZ.out a I;unfold ee))
  ·obtain⟨X,F⟩:∃X,X=a.alloc (.cells #[.int .i64 w[l.U6].kind,.string w[l.U6].label,.slice (T (10+2*l.U6)).ao w[l.U6].U5.length (T (10+2*l.U6)).cap,.slice (T (11+2*l.U6)).ao w[l.U6].proof.length (T (11+2*l.U6)).cap,.string w[l.U6].fin.file,.int .i64 w[l.U6].fin.line,.int .i64 w[l.U6].fin.col,.int .i64 w[l.U6].til] 158):=⟨_,rfl⟩
   have C:ab [] W X:=by rw[F];exact((ab.refl [] _).drew.trans I).alloc _
   have g:X.heap[a.heap.size]?=some (.cells #[.int .i64 w[l.U6].kind,.string w[l.U6].label,.slice (T (10+2*l.U6)).ao w[l.U6].U5.length (T (10+2*l.U6)).cap,.slice (T (11+2*l.U6)).ao w[l.U6].proof.length (T (11+2*l.U6)).cap,.string w[l.U6].fin.file,.int .i64 w[l.U6].fin.line,.int .i64 w[l.U6].fin.col,.int .i64 w[l.U6].til] 158 (0,0)):=by rw[F];exact QR _ _
   rw[<-F];clear F x0 x1 u0 u1 p0;have Y:X.cell? ⟨a.heap.size,0,none⟩=some (.int .i64 w[l.U6].kind):=by rw[aa g];rfl
   have m1:X.cell? ⟨a.heap.size,1,none⟩=some (.string w[l.U6].label):=by rw[aa g];rfl
   have m2:X.cell? ⟨a.heap.size,2,none⟩=some (.slice (T (10+2*l.U6)).ao w[l.U6].U5.length (T (10+2*l.U6)).cap):=by rw[aa g];rfl
   have m3:X.cell? ⟨a.heap.size,3,none⟩=some (.slice (T (11+2*l.U6)).ao w[l.U6].proof.length (T (11+2*l.U6)).cap):=by rw[aa g];rfl
   have m4:X.cell? ⟨a.heap.size,4,none⟩=some (.string w[l.U6].fin.file):=by rw[aa g];rfl
   have m5:X.cell? ⟨a.heap.size,5,none⟩=some (.int .i64 w[l.U6].fin.line):=by rw[aa g];rfl
   have Z:X.cell? ⟨a.heap.size,6,none⟩=some (.int .i64 w[l.U6].fin.col):=by rw[aa g];rfl
   have m7:X.cell? ⟨a.heap.size,7,none⟩=some (.int .i64 w[l.U6].til):=by rw[aa g];rfl
   have PX:=o.Va C;have an:=ae g;obtain⟨x0,x1⟩:=V.out X C;have c:=hI (zZ w l.U6 j)
   cases m:qO w[l.U6].kind
   ·have d:Hid (ju w x y (n.map Ex.xs) (H.map Ex.xs) l=((0,w[l.U6].U5),H.map Ex.xs)):=by show _=_;rw[J.out,c.out,m];rfl
    clear J c
    go_upto_region 8 with (go_at_call 160;refine(dc w[l.U6].kind _ _ _ _ _ _ _ _).mono ?_;rintro e A ⟨rfl,p⟩;have U:=p.get g (by simp))
    have aS:A.cell? ⟨a.heap.size,2,none⟩=some (.slice (T (10+2*l.U6)).ao w[l.U6].U5.length (T (10+2*l.U6)).cap):=by rw[aa U];rfl
    have G:=E.recd.sts.syms l.U6 w[l.U6] (QO j);have kk:=(C.trans p);have t:=o.Va kk;clear Y m1 m2 m3 m4 m5 Z m7;go_wp2
    exact QX (v:=.tuple #[.slice (T (10+2*l.U6)).ao w[l.U6].U5.length (T (10+2*l.U6)).cap,.int .i64 0]) (by simp[results,results239,go_sem]) rfl
     ⟨H,⟨T (10+2*l.U6),w[l.U6].U5⟩,by rw[d.out],by rw[d.out],t,⟨G.view.Va t.kept,fun ax L=>⟨QW (G.lt L) t.kept.size,by have:=G.lt L;have:=P.hb;omega,fun z6=>by have:=P.hin ax z6;have:=G.lt L;omega⟩⟩,fun _=>by rw[d.out],QQ _⟩
   ·have d:Hid (ju w x y (n.map Ex.xs) (H.map Ex.xs) l=(iV w l.U6 x y (H.map Ex.xs),(H.map Ex.xs).take (H.length-(aK w l.U6).length))):=by show _=_;rw[J.out,c.out,m];rfl
    have O:sK w l.U6=true:=by rw[c.out,m]
    clear J c
    go_upto_region 7 with (go_at_call 160;refine(dc w[l.U6].kind _ _ _ _ _ _ _ _).mono ?_;rintro e A ⟨rfl,p⟩)
    obtain⟨y0,y1⟩:=V.out A (C.trans p);have t:=PX.Va p;clear Y m1 m2 m3 m4 m5 Z m7;go_wp2_with fail;refine(yc z7 A i v k S b l.U6 w T y5 x y y9 z6 n H f E t j O ac).mono ?_;rintro e w6 ⟨R,h,rfl,s,P6,F6,N,K⟩;have M:=hI s;clear s;go_wp2
    exact QX (v:=.tuple #[.slice h.hd.ao h.xs.length h.hd.cap,.int .i64 (iV w l.U6 x y (H.map Ex.xs)).1]) (by simp[results,results239,go_sem]) rfl
     ⟨R,h,by rw[d.out],by rw[d.out];exact M.out,P6,F6,fun hh=>by rw[d.out]at hh ⊢;rw[N hh,UK],K⟩
  ·obtain⟨X,F⟩:∃X,X=(((((((a.setCell ⟨W.heap.size,0,none⟩ (.int .i64 w[l.U6].kind)).setCell ⟨W.heap.size,1,none⟩ (.string w[l.U6].label)).setCell ⟨W.heap.size,2,none⟩ (.slice (T (10+2*l.U6)).ao w[l.U6].U5.length (T (10+2*l.U6)).cap)).setCell ⟨W.heap.size,3,none⟩ (.slice (T (11+2*l.U6)).ao w[l.U6].proof.length (T (11+2*l.U6)).cap)).setCell ⟨W.heap.size,4,none⟩ (.string w[l.U6].fin.file)).setCell ⟨W.heap.size,5,none⟩ (.int .i64 w[l.U6].fin.line)).setCell ⟨W.heap.size,6,none⟩ (.int .i64 w[l.U6].fin.col)).setCell ⟨W.heap.size,7,none⟩ (.int .i64 w[l.U6].til):=⟨_,rfl⟩
   have ai:=(((ab.refl [] W).alloc _).drew.trans I);have ag:=I.get (show(W.alloc (.cells #[.int .i64 0,.string ⟨#[]⟩,.slice none 0 0,.slice none 0 0,.string ⟨#[]⟩,.int .i64 0,.int .i64 0,.int .i64 0] 158)).drew.heap[W.heap.size]?=_ from QR _ _) (by simp);have C:ab [] W X:=by rw[F];exact(((((((ai.setCell (QU (QQ _)) _).setCell (QU (QQ _)) _).setCell (QU (QQ _)) _).setCell (QU (QQ _)) _).setCell (QU (QQ _)) _).setCell (QU (QQ _)) _).setCell (QU (QQ _)) _).setCell (QU (QQ _)) _
   have g:X.heap[W.heap.size]?=some (.cells #[.int .i64 w[l.U6].kind,.string w[l.U6].label,.slice (T (10+2*l.U6)).ao w[l.U6].U5.length (T (10+2*l.U6)).cap,.slice (T (11+2*l.U6)).ao w[l.U6].proof.length (T (11+2*l.U6)).cap,.string w[l.U6].fin.file,.int .i64 w[l.U6].fin.line,.int .i64 w[l.U6].fin.col,.int .i64 w[l.U6].til] 158 (0,0)):=by
    rw[F,ah (ah (ah (ah (ah (ah (ah (ah ag _ _) _ _) _ _) _ _) _ _) _ _) _ _)];rfl
   rw[<-F];clear F x0 x1 u0 u1 p0 q0 q1 q2 q3 q4 q5 q6 q7 qf ai ag;have Y:X.cell? ⟨W.heap.size,0,none⟩=some (.int .i64 w[l.U6].kind):=by rw[aa g];rfl
   have m1:X.cell? ⟨W.heap.size,1,none⟩=some (.string w[l.U6].label):=by rw[aa g];rfl
   have m2:X.cell? ⟨W.heap.size,2,none⟩=some (.slice (T (10+2*l.U6)).ao w[l.U6].U5.length (T (10+2*l.U6)).cap):=by rw[aa g];rfl
   have m3:X.cell? ⟨W.heap.size,3,none⟩=some (.slice (T (11+2*l.U6)).ao w[l.U6].proof.length (T (11+2*l.U6)).cap):=by rw[aa g];rfl
   have m4:X.cell? ⟨W.heap.size,4,none⟩=some (.string w[l.U6].fin.file):=by rw[aa g];rfl
   have m5:X.cell? ⟨W.heap.size,5,none⟩=some (.int .i64 w[l.U6].fin.line):=by rw[aa g];rfl
   have Z:X.cell? ⟨W.heap.size,6,none⟩=some (.int .i64 w[l.U6].fin.col):=by rw[aa g];rfl
   have m7:X.cell? ⟨W.heap.size,7,none⟩=some (.int .i64 w[l.U6].til):=by rw[aa g];rfl
   have PX:=o.Va C;have an:=ae g;obtain⟨x0,x1⟩:=V.out X C;have c:=hI (zZ w l.U6 j)
   cases m:qO w[l.U6].kind
   ·have d:Hid (ju w x y (n.map Ex.xs) (H.map Ex.xs) l=((0,w[l.U6].U5),H.map Ex.xs)):=by show _=_;rw[J.out,c.out,m];rfl
    clear J c
    go_upto_region 8 with (go_at_call 160;refine(dc w[l.U6].kind _ _ _ _ _ _ _ _).mono ?_;rintro e A ⟨rfl,p⟩;have U:=p.get g (by simp))
    have aS:A.cell? ⟨W.heap.size,2,none⟩=some (.slice (T (10+2*l.U6)).ao w[l.U6].U5.length (T (10+2*l.U6)).cap):=by rw[aa U];rfl
    have G:=E.recd.sts.syms l.U6 w[l.U6] (QO j);have kk:=(C.trans p);have t:=o.Va kk;clear Y m1 m2 m3 m4 m5 Z m7;go_wp2
    exact QX (v:=.tuple #[.slice (T (10+2*l.U6)).ao w[l.U6].U5.length (T (10+2*l.U6)).cap,.int .i64 0]) (by simp[results,results239,go_sem]) rfl
     ⟨H,⟨T (10+2*l.U6),w[l.U6].U5⟩,by rw[d.out],by rw[d.out],t,⟨G.view.Va t.kept,fun ax L=>⟨QW (G.lt L) t.kept.size,by have:=G.lt L;have:=P.hb;omega,fun z6=>by have:=P.hin ax z6;have:=G.lt L;omega⟩⟩,fun _=>by rw[d.out],QQ _⟩
   ·have d:Hid (ju w x y (n.map Ex.xs) (H.map Ex.xs) l=(iV w l.U6 x y (H.map Ex.xs),(H.map Ex.xs).take (H.length-(aK w l.U6).length))):=by show _=_;rw[J.out,c.out,m];rfl
    have O:sK w l.U6=true:=by rw[c.out,m]
    clear J c
    go_upto_region 7 with (go_at_call 160;refine(dc w[l.U6].kind _ _ _ _ _ _ _ _).mono ?_;rintro e A ⟨rfl,p⟩)
    obtain⟨y0,y1⟩:=V.out A (C.trans p);have t:=PX.Va p;clear Y m1 m2 m3 m4 m5 Z m7;go_wp2_with fail;refine(yc z7 A i v k S b l.U6 w T y5 x y y9 z6 n H f E t j O ac).mono ?_;rintro e w6 ⟨R,h,rfl,s,P6,F6,N,K⟩;have M:=hI s;clear s;go_wp2
    exact QX (v:=.tuple #[.slice h.hd.ao h.xs.length h.hd.cap,.int .i64 (iV w l.U6 x y (H.map Ex.xs)).1]) (by simp[results,results239,go_sem]) rfl
     ⟨R,h,by rw[d.out],by rw[d.out];exact M.out,P6,F6,fun hh=>by rw[d.out]at hh ⊢;rw[N hh,UK],K⟩
 ·have ba:decide ((l.U6:Int)<0)=false:=by simp
  by_cases r:l.U6<n.length
  ·have d:Hid (ju w x y (n.map Ex.xs) (H.map Ex.xs) l=((0,n[l.U6].xs),H.map Ex.xs)):=by
    show _=_
    unfold ju;rw[hk,QV rfl,Rh,QV r,QP];simp[r]
   have az:decide ((l.U6:Int) ≥ n.length)=false:=by simp;omega
   have a4:(l.U6:Int)<n.length:=by omega
   have oS:aw W (f 0) (gn n):=o.ply.bag.own 0
   rcases oS.ways with ⟨_,h0,_⟩ | ⟨gs,a2,es,-,ar,-⟩
   ·have:n.length=0:=h0
    omega
   have cs:=oS.cell es l.U6 (vZ n[l.U6]) (sA n l.U6 r);have a7:n.length<=(f 0).cap:=ar;have af:=(o.ply.shs n[l.U6] (Ra r)).1;rw[es]at p3;unfold vZ at cs;generalize n[l.U6]=u at *;clear p0 p1 p2 p4 oS es;go_enter func239,ntmps239
   go_upto_region 1 with fail
   rw[HW.out]
   go_upto_region 2 with fail
   go_quiet (fail)
   go_upto_region 4 with fail
   go_quiet (fail)
   go_wp2
   exact QX (v:=.tuple #[.slice u.hd.ao u.xs.length u.hd.cap,.int .i64 0]) (by simp[results,results239,go_sem]) rfl
    ⟨H,u,by rw[d.out],by rw[d.out],o.Va (((ab.refl [] _).drewN _).drewN _),af.Va (((ab.refl [] _).drewN _).drewN _),fun _=>by rw[d.out],QQ _⟩
  ·have d:Hid (ju w x y (n.map Ex.xs) (H.map Ex.xs) l=((5,[]),H.map Ex.xs)):=by
    show _=_
    unfold ju;rw[hk,QV rfl,Rh,QS r]
   have az:decide ((l.U6:Int) ≥ n.length)=true:=by simp;omega
   clear p0 p1 p2 p4;go_enter func239,ntmps239
   go_upto_region 1 with fail
   rw[HW.out]
   go_upto_region 2 with fail
   go_quiet (fail)
   go_wp2
   exact QX (v:=.tuple #[.slice none 0 0,.int .i64 5]) (by simp[results,results239,go_sem]) rfl
    ⟨H,⟨⟨none,0⟩,[]⟩,by rw[d.out];rfl,by rw[d.out],o.Va ((ab.refl [] _).drewN _),sB _ _ _,by rw[d.out];simp,QQ _⟩
def ng(l:List St)(vs:List ByteArray)(ms:List Bool)(S:List (List ByteArray)×List (List ByteArray))(s:nE):Int×List (List ByteArray)×List (List ByteArray) :=
 if((ju l vs ms S.1 S.2 s).1.1==0)=true then
  (if(ju l vs ms S.1 S.2 s).1.2.length<=32 then(0,S.1++[(ju l vs ms S.1 S.2 s).1.2],(ju l vs ms S.1 S.2 s).2++[(ju l vs ms S.1 S.2 s).1.2]) else(10,S))
 else((ju l vs ms S.1 S.2 s).1.1,S)
theorem l8.turned{b a:List Ex}(h:l8 L y2 I z4 zb zt y6 ya z5 yd g)(t:aA I y2 g yu yg)(d:a8 yu I 307 (id z4 zb zt y6 ya b a yg) (pm b a) yg)(f:∀e∈b,qZ y2 I g e.hd e.xs/\e.xs.length<=32)(i:∀e∈a,qZ y2 I g e.hd e.xs/\e.xs.length<=32):l8 L yu I z4 zb zt y6 ya b a yg:=by
 refine⟨⟨d,fun e c=>⟨(f e c).1.turned t,(f e c).2⟩,fun e c=>⟨(i e c).1.turned t,(i e c).2⟩⟩,h.kept.ofP t.1 ?_,h.hb,fun x j=>?_⟩
 ·rintro x (e | e)
  ·have:=h.hb;omega
  ·exact h.hin x e
 ·rcases t.2 x j with e | e
  ·exact h.hin x e
  ·exact Q1 h.kept.size e
theorem LS(E:Dy z7 v k S b w T y5 x y y9 z6)(P:l8 z7 D i v k S w.length b n H f)(hn:(l.kind==3)=false->l.U6<w.length)(aS:l.U6<=2000000)(an:H.length<=2000000)(aT:n.length<=2000000) :
  Calls prog 210 #[.pointer (some ⟨i,0,none⟩),.agg #[.int .i64 l.kind,.int .i64 l.U6,.string l.at_.file,.int .i64 l.at_.line,.int .i64 l.at_.col]] D fun e w'=>∃(M L:List Ex) (H':Nat->Hd),
   e=.returned (.int .i64 (ng w x y (n.map Ex.xs,H.map Ex.xs) l).1)/\l8 z7 w' i v k S w.length b M L H' /\
   (((ng w x y (n.map Ex.xs,H.map Ex.xs) l).1==0)=true->(M.map Ex.xs,L.map Ex.xs)=(ng w x y (n.map Ex.xs,H.map Ex.xs) l).2)/\L.length<=H.length+1/\M.length<=n.length+1:=by
 obtain⟨i1,ai,U,O,af⟩:=Rd Lr;obtain⟨W,hW⟩:∃W,W=D.alloc (.cells #[.int .i64 l.kind,.int .i64 l.U6,.string l.at_.file,.int .i64 l.at_.line,.int .i64 l.at_.col] 174):=⟨_,rfl⟩
 have kW:ab [] D W:=by rw[hW];exact(ab.refl [] _).alloc _
 have B:W.heap[D.heap.size]?=some (.cells #[.int .i64 l.kind,.int .i64 l.U6,.string l.at_.file,.int .i64 l.at_.line,.int .i64 l.at_.col] 174 (0,0)):=by rw[hW];exact QR _ _
 have HW:=hI hW.symm;have u0:W.cell? ⟨D.heap.size,0,none⟩=some (.int .i64 l.kind):=by rw[aa B];rfl
 have u1:W.cell? ⟨D.heap.size,1,none⟩=some (.int .i64 l.U6):=by rw[aa B];rfl
 have u2:W.cell? ⟨D.heap.size,2,none⟩=some (.string l.at_.file):=by rw[aa B];rfl
 have u3:W.cell? ⟨D.heap.size,3,none⟩=some (.int .i64 l.at_.line):=by rw[aa B];rfl
 have u4:W.cell? ⟨D.heap.size,4,none⟩=some (.int .i64 l.at_.col):=by rw[aa B];rfl
 have PW:=P.Va kW;have SH:=Ms z7 W i v k S b l w T y5 x y y9 z6 n H f E PW hn aS an
 have Y:Hid (∀q,ju w x y (n.map Ex.xs) (H.map Ex.xs) l=q->ng w x y (n.map Ex.xs,H.map Ex.xs) l=if(q.1.1==0)=true then(if q.1.2.length<=32 then(0,n.map Ex.xs++[q.1.2],q.2++[q.1.2]) else(10,n.map Ex.xs,H.map Ex.xs)) else(q.1.1,n.map Ex.xs,H.map Ex.xs)):=by
  intro q t;subst t;rfl
 have p:=hI (Y.out _ rfl);generalize ju w x y (n.map Ex.xs) (H.map Ex.xs) l=Q at *;obtain⟨⟨q,xs⟩,t2⟩:=Q;simp only at SH p;clear hW Y B;go_enter func210,ntmps210
 go_upto_region 1 with fail
 rw[HW.out];go_wp2_with fail;refine SH.mono ?_;rintro e w2 ⟨a,c,rfl,al,N,F2,ag,a0⟩;subst al
 cases t:(q==0)
 ·have az:(q != 0)=true:=by simp[bne,t]
  have C:Hid (ng w x y (n.map Ex.xs,H.map Ex.xs) l=(q,n.map Ex.xs,H.map Ex.xs)):=by show _=_;rw[p.out,t];rfl
  clear p SH u0 u1 u2 u3 u4;go_wp2;go_ret;exact⟨n,a,f,QM (by rw[C.out]),N,fun hh=>by rw[C.out]at hh;exact absurd (t.symm.trans hh) (by simp),by omega,by omega⟩
 ·have az:(q != 0)=false:=by simp[bne,t]
  by_cases s:c.xs.length<=32
  ·have ar:¬((c.xs.length:Int) > 32):=by omega
   have C:Hid (ng w x y (n.map Ex.xs,H.map Ex.xs) l=(0,n.map Ex.xs++[c.xs],t2++[c.xs])):=by show _=_;rw[p.out,t,QV rfl,QV s]
   have ax:=hI (ag t);clear p SH u0 u1 u2 u3 u4 ag
   go_upto_region 6 with fail
   have D2:=N.ply.bag;have p3:=N.ply.cells.1;have y3:=D2.free;have a2:=D2.lt;have K:=D2.Va ((ab.refl [] w2).alloc (.cells #[.slice c.hd.ao c.xs.length c.hd.cap] 61))
   have ap:Hid (∀j,j≠0->pm (n++[c]) a j=pm n a j):=by
    intro j g
    match j,g with
    | 0,g=>exact absurd rfl g
    | 1,_=>rfl
    | m+2,_=>rfl
   have ad:Hid (∀j,j≠1->pm (n++[c]) (a++[c]) j=pm (n++[c]) a j):=by
    intro j g
    match j,g with
    | 0,_=>rfl
    | 1,g=>exact absurd rfl g
    | m+2,_=>rfl
   go_wp2_with (at_builtin;refine aM _ rfl (.tmp 23) (.tmp 25) 218 rfl i1 (.slice none 0 0) 24 (f 0) (gn n) underlying218 ai U O af rfl Rb rfl (by exact K.own 0) ⟨_,0,none⟩ 1 1 [.slice c.hd.ao c.xs.length c.hd.cap] rfl rfl ?e1 ?e2 Rb ?e3 ?e4 ?_)
   case e1=>intro j u g;match j,g with | 0,g=>simp at g;subst g;simp[Addr.add]
   case e2=>intro u Z;simp at Z;subst Z;rfl
   case e3=>simp only[gn];unfold maxLen;omega
   case e4=>simp only[gn];omega
   intro I d w4 V z o;obtain⟨k4,f4,G⟩:=K.app (cs':=id v k S w.length b (n++[c]) a (g9 f 0 ⟨some ⟨I,0,none⟩,d⟩)) (rows':=pm (n++[c]) a) 3 0 I d ((gn n).n+1) _ V (ue n c) z (by simpa using o) ap.out (.slice (f 0).ao n.length (f 0).cap) rfl (by simp[id,g9,gn]);clear V z o K p3 y3
   go_upto_region 7 with fail
   generalize hX:w4.setCell ⟨i,3,none⟩ (.slice (some ⟨I,0,none⟩) ((gn n).n+1) d)=X at G ⊢;have DX:=G.out.1;have TX:=hI (G.out.2.first ((ab.refl [] _).alloc _));have p4:=DX.cell 4;simp only[id,SD,Td]at p4;have y4:=DX.free;have a1:=DX.lt;have J:=DX.Va ((ab.refl [] X).alloc (.cells #[.slice c.hd.ao c.xs.length c.hd.cap] 61));clear hX k4 f4;go_wp2_with (at_builtin;refine aM _ rfl (.tmp 33) (.tmp 35) 218 rfl i1 (.slice none 0 0) 24 (g9 f 0 ⟨some ⟨I,0,none⟩,d⟩ 1) (gn a) underlying218 ai U O af rfl Rb rfl (by exact J.own 1) ⟨_,0,none⟩ 1 1 [.slice c.hd.ao c.xs.length c.hd.cap] rfl rfl ?e1 ?e2 Rb ?e3 ?e4 ?_)
   case e1=>intro j u g;match j,g with | 0,g=>simp at g;subst g;simp[Addr.add]
   case e2=>intro u Z;simp at Z;subst Z;rfl
   case e3=>simp only[gn];unfold maxLen;omega
   case e4=>simp only[gn];omega
   intro g6 F w6 ac A h;obtain⟨k6,f6,R⟩:=J.app (cs':=id v k S w.length b (n++[c]) (a++[c]) (g9 (g9 f 0 ⟨some ⟨I,0,none⟩,d⟩) 1 ⟨some ⟨g6,0,none⟩,F⟩)) (rows':=pm (n++[c]) (a++[c])) 4 1 g6 F ((gn a).n+1) _ ac (ue a c) A (by simpa using h) ad.out (.slice (g9 f 0 ⟨some ⟨I,0,none⟩,d⟩ 1).ao a.length (g9 f 0 ⟨some ⟨I,0,none⟩,d⟩ 1).cap) rfl (by simp[id,g9,gn]);have T6:=hI (aA.trans TX.out (R.out.2.first ((ab.refl [] _).alloc _)));clear ac A h J p4 y4;go_wp2;go_ret;refine⟨n++[c],a++[c],_,QM (by rw[C.out]),N.turned T6.out R.out.1 (fun e r=>?_) (fun e r=>?_),fun _=>by rw[C.out];simp[ax.out],by simp;omega,by simp⟩
   ·rw[Rq]at r
    rcases r with r | r
    ·exact N.ply.shs e r
    ·simp at r;subst r;exact⟨F2,s⟩
   ·rw[Rq]at r
    rcases r with r | r
    ·exact N.ply.ths e r
    ·simp at r;subst r;exact⟨F2,s⟩
  ·have ar:(c.xs.length:Int) > 32:=by omega
   have C:Hid (ng w x y (n.map Ex.xs,H.map Ex.xs) l=(10,n.map Ex.xs,H.map Ex.xs)):=by show _=_;rw[p.out,t,QV rfl,QS s]
   clear p SH u0 u1 u2 u3 u4;go_wp2;go_ret;exact⟨n,a,f,QM (by rw[C.out]),N,by rw[C.out];simp,by omega,by omega⟩
def OC(fin:Pl)(goal:List ByteArray)(th:List (List ByteArray)):pv :=
 match th with
 | []=>(12,fin)
 | [x]=>if Dt x goal=true then cY else(12,fin)
 | _ :: _ :: _=>(11,fin)
def oJ(l:List St)(vs:List ByteArray)(ms:List Bool)(fin:Pl)(goal:List ByteArray):List nE->List (List ByteArray)×List (List ByteArray)->pv
 | [],S=>OC fin goal S.2
 | s :: r,S=>if((ng l vs ms S s).1==0)=true then oJ l vs ms fin goal r (ng l vs ms S s).2 else((ng l vs ms S s).1,s.at_)
def gJ(l:List St)(a:Nat)(s:St)(steps:List nE):pv:=oJ l (ye l a) (fN l a (ye l a)) s.fin s.U5 steps ([],[])
theorem ET(a:d<o.length) :
  oJ w x y yv yy (o.drop d) ys=if((ng w x y ys o[d]).1==0)=true then oJ w x y yv yy (o.drop (d+1)) (ng w x y ys o[d]).2 else((ng w x y ys o[d]).1,o[d].at_):=by
 rw[Re a];rfl
theorem CB(a:¬d<o.length) :
  oJ w x y yv yy (o.drop d) ys=OC yv yy ys.2:=by
 rw[R6 (by omega)];rfl
theorem JS(a:d<o.length)(j:Nat)(f:j<5):(xh o)[d*5+j]?=(lg o[d])[j]?:=by
 induction o generalizing d with
 | nil=>simp at a
 | cons s r b =>
  have e:xh (s :: r)=lg s++xh r:=rfl;rw[e]
  cases d with
  | zero=>rw[Q6 (by simp[lg];omega)];simp
  | succ d =>
   rw[Q4 (by simp[lg];omega)];have c:(d+1)*5+j-(lg s).length=d*5+j:=by simp[lg];omega
   rw[c,b d (by simpa using a)];rfl
theorem aw.step{l:List nE}(o:aw L y8 (go l))(k:Nat)(e:k<l.length) :
  ∃g,y8.ao=some ⟨g,0,none⟩/\l.length<=y8.cap/\y8.cap<=9223372036854775807/\L.cell? ⟨g,k*5,none⟩=some (.int .i64 l[k].kind)/\L.cell? ⟨g,k*5+1,none⟩=some (.int .i64 l[k].U6)/\L.cell? ⟨g,k*5+2,none⟩=some (.string l[k].at_.file)/\L.cell? ⟨g,k*5+3,none⟩=some (.int .i64 l[k].at_.line)/\L.cell? ⟨g,k*5+4,none⟩=some (.int .i64 l[k].at_.col):=by
 rcases o.ways with ⟨_,m,_⟩ | ⟨g,i,b,n,f,a,-⟩
 ·have:l.length=0:=m
  omega
 ·have c:=fun j (d:j<5) v (h:(lg l[k])[j]?=some v)=>o.cell b (k*5+j) v ((JS l k e j d).trans h)
  exact⟨g,b,f,by unfold maxLen at a;exact a,c 0 (by omega) _ rfl,c 1 (by omega) _ rfl,c 2 (by omega) _ rfl,c 3 (by omega) _ rfl,c 4 (by omega) _ rfl⟩
structure FQ(l:List St)(steps:List nE):Prop where
 len:steps.length<=1100000
 num:∀s∈steps,s.U6<=2000000
 named:∀s∈steps,(s.kind==3)=false->s.U6<l.length
theorem Kn(hr:dF M v k w T)(ok:iH w)(ha:b<w.length)(ai:gW M S w w.length y5)(hO:aw M y7 (go o))(I:FQ w o) :
  Calls prog 162 #[.pointer (some ⟨v,k,none⟩),.int .i64 b,.slice (some ⟨S,0,none⟩) w.length w.length,.slice y7.ao o.length y7.cap] M fun e a =>
   e=.returned (gU (gJ w b w[b] o))/\ab [] M a:=by
 have bl:=hr.lt;have ba:=ok.len;have bs:=I.len;have be:=ok.syms b ha;obtain⟨AO,ac⟩:∃AO,Hid (y7.ao=AO):=⟨_,rfl⟩
 rw[ac.out];obtain⟨W,hW⟩:∃W,W=M.alloc (.cells #[.int .i64 0,.string ⟨#[]⟩,.int .i64 0,.int .i64 0] 165):=⟨_,rfl⟩
 have kW:ab [] M W:=by rw[hW];exact(ab.refl [] _).alloc _
 have BF:W.heap[M.heap.size]?=some (.cells bA 165 (0,0)):=by rw[hW];exact QR _ _
 have HW:=hI hW.symm;have bw:(ye w b).length<=w.length:=Bb w b w.length;clear hW;go_enter func162,ntmps162
 go_upto_region 1 with fail
 rw[HW.out]
 go_upto_region 2 with (go_at_call 208;refine(qE v k b w T _ (by exact hr.Va kW) ok).mono ?_;rintro e w2 ⟨ar,rfl,az,bj,k2⟩)
 have K2:=kW.trans k2;go_wp2_with (go_at_call 209;refine(DF v k b w T ar (ye w b) _ (by exact hr.Va K2) ok (by exact az) (by omega)).mono ?_;rintro e g ⟨tb,hv,hm,rfl,A3,br,bx,k3⟩);have K3:=K2.trans k3;have N:=(k2.trans k3).get BF (by simp);have E:Dy g v k S tb w T y5 (ye w b) (fN w b (ye w b)) hv hm:=⟨hr.Va K3,ok,ai.Va K3,A3,kn _ _ _ _,by omega⟩;have u:aw g y7 (go o):=hO.Vf (fun x L=>K3.block x (hO.lt L) (by simp))
 have P4:l8 g (g.alloc (.cells #[.pointer (some ⟨v,k,none⟩),.slice (some ⟨S,0,none⟩) w.length w.length,.pointer (some ⟨tb,0,none⟩),.slice none 0 0,.slice none 0 0] 307)) g.heap.size v k S w.length tb [] [] mD:=by
  refine⟨⟨⟨QR _ _,?_,fun i j _=>Q0 rfl,fun i e=>by simp[mD,Hd.blk]at e⟩,by simp,by simp⟩,(ab.refl [] _).alloc _,QQ _,fun x L=>by obtain⟨i,hi⟩:=L;simp[mD,Hd.blk]at hi⟩;intro i
  match i with
  | 0=>exact QY _ _ _ _
  | 1=>exact QY _ _ _ _
  | m+2=>exact QY _ _ _ _
 have bo:=ae N
 go_loopg [11] o.length (fun gk iv wr=>∃(i:Nat) (D d:List Ex) (H:Nat->Hd),i<=o.length/\gk=o.length-i/\iv=.int .i64 i/\D.length<=i/\d.length<=i/\Hid (gJ w b w[b] o=oJ w (ye w b) (fN w b (ye w b)) w[b].fin w[b].U5 (o.drop i) (D.map Ex.xs,d.map Ex.xs))/\l8 g wr g.heap.size v k S w.length tb D d H)
 case atStart=>exact⟨0,[],[],mD,by omega,by omega,rfl,by simp,by simp,rfl,P4⟩
 case round =>
  obtain⟨i,D,d,H,hi,hg,rfl,bd,bg,hR,P⟩:=hrel;clear P4;have B:=P.kept.get N (by simp);obtain⟨h,l,r,p⟩:=da B;have C:=am B;have KW:=K3.trans P.kept;have ax:=hI (fun a0 a1 a2 a3=>kG (F:=M.heap.size) KW (QQ _) a0 a1 a2 a3)
  by_cases f:i<o.length
  ·have O:aw wr y7 (go o):=u.Vf (fun x L=>P.kept.block x (u.lt L) (by simp))
   obtain⟨gp,ep,a7,a4,d0,d1,d2,d3,d4⟩:=O.step i f;obtain rfl:AO=some ⟨gp,0,none⟩:=ac.out.symm.trans ep;have bf:gp<wr.heap.size:=O.lt (by unfold Hd.blk;rw[ep];rfl);have h1:=I.num o[i] (Ra f);have h2:=I.named o[i] (Ra f);have n:=hI (hR.out.trans (ET w (ye w b) (fN w b (ye w b)) w[b].fin w[b].U5 o (D.map Ex.xs,d.map Ex.xs) i f));have PA:=LS g wr g.heap.size v k S tb o[i] w T y5 (ye w b) (fN w b (ye w b)) hv hm D d H E P h2 h1 (by omega) (by omega)
   have ap:Hid (∀a,ab [] g a->a.cell? ⟨gp,i*5+2,none⟩=some (.string o[i].at_.file)/\a.cell? ⟨gp,i*5+3,none⟩=some (.int .i64 o[i].at_.line)/\a.cell? ⟨gp,i*5+4,none⟩=some (.int .i64 o[i].at_.col)):=by
    intro a G;obtain⟨bp,an,-,-,-,-,q2,q3,q4⟩:=(u.Vf (w':=a) (fun x L=>G.block x (u.lt L) (by simp))).step i f;rw[ep]at an
    cases an
    exact⟨q2,q3,q4⟩
   clear hR ep O;generalize o[i]=st at *;obtain⟨sk,sn,K,R,V⟩:=st;simp only at d0 d1 d2 d3 d4 PA ap n;generalize ng w (ye w b) (fN w b (ye w b)) (D.map Ex.xs,d.map Ex.xs) ⟨sk,sn,⟨K,R,V⟩⟩=Q at *;obtain⟨q,Q2⟩:=Q;simp only at PA n
   cases hq:(q==0)
   ·have aS:(q != 0)=true:=by simp[bne,hq]
    have s:Hid (gJ w b w[b] o=(q,⟨K,R,V⟩)):=by show _=_;rw[n.out,QS (by rw[hq];simp)]
    clear n
    go_upto_region 8 with (go_at_call 210;refine PA.mono ?_;rintro e c ⟨af,ag,H5,rfl,P5,al,-,-⟩)
    obtain⟨c2,c3,c4⟩:=ap.out c P5.kept;have U:=P5.kept.get N (by simp);clear h l r p C d0 d1 d2 d3 d4 ax;obtain⟨h,l,r,p⟩:=da U;have C:=am U;have K5:=K3.trans P5.kept;go_wp2
    exact QX (v:=.agg #[.int .i64 q,.string K,.int .i64 R,.int .i64 V]) (by simp[results,results162,go_sem,h,l,r,p]) rfl
     ⟨by rw[s.out];rfl,kG (F:=M.heap.size) K5 (QQ _) _ _ _ _⟩
   ·have aS:(q != 0)=false:=by simp[bne,hq]
    have s:Hid (gJ w b w[b] o=oJ w (ye w b) (fN w b (ye w b)) w[b].fin w[b].U5 (o.drop (i+1)) Q2):=by show _=_;rw[n.out,QV hq]
    clear n;go_wp2_with (go_at_call 210;refine PA.mono ?_;rintro e c ⟨af,ag,H5,rfl,P5,al,bz,bc⟩)
    go_roundg (o.length-(i+1))
    case measure=>omega
    case rel=>exact⟨i+1,af,ag,H5,by omega,rfl,by go_num,by omega,by omega,by show _=_;rw[al hq];exact s.out,P5⟩
  ·have HE:=hI (hR.out.trans (CB w (ye w b) (fN w b (ye w b)) w[b].fin w[b].U5 o (D.map Ex.xs,d.map Ex.xs) i f))
   have Er:=E.Va P.kept;clear hR
   go_upto_region 10 with (go_at_call 97;refine(a9 v k b w T _ (by exact Er.recd) ha).mono ?_;rintro e c ⟨rfl,k5⟩;unfold ee)
   obtain⟨X,hX⟩:∃X,X=c.alloc (.cells #[.int .i64 w[b].kind,.string w[b].label,.slice (T (10+2*b)).ao w[b].U5.length (T (10+2*b)).cap,.slice (T (11+2*b)).ao w[b].proof.length (T (11+2*b)).cap,.string w[b].fin.file,.int .i64 w[b].fin.line,.int .i64 w[b].fin.col,.int .i64 w[b].til] 158):=⟨_,rfl⟩
   have kX:ab [] wr X:=by rw[hX];exact k5.alloc _
   have Z:X.heap[c.heap.size]?=some (.cells #[.int .i64 w[b].kind,.string w[b].label,.slice (T (10+2*b)).ao w[b].U5.length (T (10+2*b)).cap,.slice (T (11+2*b)).ao w[b].proof.length (T (11+2*b)).cap,.string w[b].fin.file,.int .i64 w[b].fin.line,.int .i64 w[b].fin.col,.int .i64 w[b].til] 158 (0,0)):=by rw[hX];exact QR _ _
   rw[<-hX];have PX:=P.Va kX;have U:=kX.get B (by simp);clear hX h l r p C;obtain⟨h,l,r,p⟩:=da U;have C:=am U;have KX:=KW.trans kX;have m2:X.cell? ⟨c.heap.size,2,none⟩=some (.slice (T (10+2*b)).ao w[b].U5.length (T (10+2*b)).cap):=by rw[aa Z];rfl
   have m4:X.cell? ⟨c.heap.size,4,none⟩=some (.string w[b].fin.file):=by rw[aa Z];rfl
   have m5:X.cell? ⟨c.heap.size,5,none⟩=some (.int .i64 w[b].fin.line):=by rw[aa Z];rfl
   have m6:X.cell? ⟨c.heap.size,6,none⟩=some (.int .i64 w[b].fin.col):=by rw[aa Z];rfl
   have Y:=PX.ply.cells.2;have bk:=PX.ply.bag.lt
   rcases d with _ | ⟨x,d⟩
   ·have s:Hid (gJ w b w[b] o=(12,w[b].fin)):=HE.out
    simp only[Rr]at Y;clear HE
    go_upto_region 12 with fail
    go_quiet (fail)
    go_wp2
    exact QX (v:=.agg #[.int .i64 12,.string w[b].fin.file,.int .i64 w[b].fin.line,.int .i64 w[b].fin.col]) (by simp[results,results162,go_sem,h,l,r,p]) rfl
     ⟨by rw[s.out];rfl,kG (F:=M.heap.size) (KX.drewN _) (QQ _) _ _ _ _⟩
   ·rcases d with _ | ⟨y,d⟩
    ·have hE:gJ w b w[b] o=if Dt x.xs w[b].U5=true then cY else(12,w[b].fin):=HE.out
     have t:=hI hE;have oT:aw X (H 1) (gn [x]):=PX.ply.bag.own 1
     rcases oT.ways with ⟨_,h0,_⟩ | ⟨gt,a5,et,-,aT,-⟩
     ·simp[gn]at h0
     have ct:=oT.cell et 0 (vZ x) rfl;unfold vZ at ct;rw[et]at Y;simp only[Ro,Rr]at Y;have a6:1<=(H 1).cap:=aT;have ad:=(PX.ply.ths x (by simp));have A:=hI (fun(a:World) (G:ab [] X a)=>ym x.hd (T (10+2*b)) x.xs w[b].U5 a (ad.1.view.Va G) (((Er.Va (kX.trans G)).recd.sts.syms b w[b] (QO ha)).view) (by omega) (by omega))
     have HC:Hid (∀a,ab [] X a->a.cell? ⟨g.heap.size,4,none⟩=some (.slice (some ⟨gt,0,none⟩) 1 (H 1).cap)/\a.cell? ⟨gt,0,none⟩=some (.slice x.hd.ao x.xs.length x.hd.cap)/\a.cell? ⟨c.heap.size,2,none⟩=some (.slice (T (10+2*b)).ao w[b].U5.length (T (10+2*b)).cap)):=by
      intro a G;refine⟨?_,((PX.Va G).ply.bag.own 1).cell et 0 (vZ x) rfl,?_⟩
      ·rw[<-et];exact(PX.Va G).ply.cells.2
      ·rw[aa (G.get Z (by simp))];rfl
     clear hE HE et oT
     go_upto_region 12 with fail
     cases z:Dt x.xs w[b].U5
     ·have s:Hid (gJ w b w[b] o=(12,w[b].fin)):=by show _=_;rw[t.out,z];rfl
      rw[z]at A;clear t
      go_region_held3 (fun a=>a.cell? ⟨g.heap.size,4,none⟩=some (.slice (some ⟨gt,0,none⟩) 1 (H 1).cap)/\a.cell? ⟨gt,0,none⟩=some (.slice x.hd.ao x.xs.length x.hd.cap)/\a.cell? ⟨c.heap.size,2,none⟩=some (.slice (T (10+2*b)).ao w[b].U5.length (T (10+2*b)).cap)) (go_keep) (first | (go_at_call 211;refine(A.out _ (by exact(ab.refl [] X).drew)).mono ?_;rintro e w6 ⟨rfl,k6⟩;obtain⟨x0,x1,x2⟩:=HC.out w6 ((ab.refl [] X).drew.trans k6)))
      all_goals
       have kk:=((ab.refl [] X).drew.trans k6);have J:=kk.get Z (by simp);have B6:=kk.get U (by simp);clear h l r p C m2 m4 m5 m6 Y ct;obtain⟨h,l,r,p⟩:=da B6;have C:=am B6;have m4:w6.cell? ⟨c.heap.size,4,none⟩=some (.string w[b].fin.file):=by rw[aa J];rfl
       have m5:w6.cell? ⟨c.heap.size,5,none⟩=some (.int .i64 w[b].fin.line):=by rw[aa J];rfl
       have m6:w6.cell? ⟨c.heap.size,6,none⟩=some (.int .i64 w[b].fin.col):=by rw[aa J];rfl
       go_wp2;exact QX (v:=.agg #[.int .i64 12,.string w[b].fin.file,.int .i64 w[b].fin.line,.int .i64 w[b].fin.col]) (by simp[results,results162,go_sem,h,l,r,p]) rfl ⟨by rw[s.out];rfl,kG (F:=M.heap.size) (KX.trans kk) (QQ _) _ _ _ _⟩
     ·have s:Hid (gJ w b w[b] o=cY):=by show _=_;rw[t.out,z];rfl
      rw[z]at A;clear t
      go_region_held3 (fun a=>a.cell? ⟨g.heap.size,4,none⟩=some (.slice (some ⟨gt,0,none⟩) 1 (H 1).cap)/\a.cell? ⟨gt,0,none⟩=some (.slice x.hd.ao x.xs.length x.hd.cap)/\a.cell? ⟨c.heap.size,2,none⟩=some (.slice (T (10+2*b)).ao w[b].U5.length (T (10+2*b)).cap)) (go_keep) (first | (go_at_call 211;refine(A.out _ (by exact(ab.refl [] X).drew)).mono ?_;rintro e w6 ⟨rfl,k6⟩;obtain⟨x0,x1,x2⟩:=HC.out w6 ((ab.refl [] X).drew.trans k6)))
      all_goals
       have kk:=((ab.refl [] X).drew.trans k6);have B6:=kk.get U (by simp);clear h l r p C m2 m4 m5 m6 Y ct;obtain⟨h,l,r,p⟩:=da B6;have C:=am B6;go_wp2;exact QX (v:=.agg #[.int .i64 0,.string ⟨#[]⟩,.int .i64 0,.int .i64 0]) (by simp[results,results162,go_sem,h,l,r,p]) rfl ⟨by rw[s.out];rfl,kG (F:=M.heap.size) (KX.trans kk) (QQ _) _ _ _ _⟩
    ·have s:Hid (gJ w b w[b] o=(11,w[b].fin)):=HE.out
     have bv:((d.length:Int)+1+1 > 1):=by omega
     simp only[Ro]at Y;clear HE;go_wp2
     exact QX (v:=.agg #[.int .i64 11,.string w[b].fin.file,.int .i64 w[b].fin.line,.int .i64 w[b].fin.col]) (by simp[results,results162,go_sem,h,l,r,p]) rfl
      ⟨by rw[s.out];rfl,kG (F:=M.heap.size) KX (QQ _) _ _ _ _⟩
end Go.Proofs.YtpddjjabfbfifaaGreat
