import Derived.Test.YtpddjjabfbfifaaGreatG07
namespace Go.Proofs.YtpddjjabfbfifaaGreat
open Go.RowKit Tryz
set_option maxRecDepth 100000
set_option maxHeartbeats 40000000
variable{L y2 yu:World}{I z4 zb zt y6 ya:Nat}{N yg:Nat->Hd}{yt:List St}{y8:Hd}{z5 yd:List Ex}{x4:List ByteArray}(z7 i:World)(k a v d S b:Nat)(l:nF)(w:List St)(T y5:Nat->Hd)(x:List ByteArray)(y:List Bool)(y9 z6:Hd)(yv:Pl)(yy:List ByteArray)(n:List Ex)(y7:Hd)(H:List Ex)(f:Nat->Hd)(D:List nF)(M:World)(ys:List (List ByteArray)×List (List ByteArray))(g o:Nat)(yf:List Nat)(yr:List (List ByteArray))
def jM(vs:List ByteArray)(bs:List (List ByteArray))(k n:Nat):List Nat:=if n<k then kO vs (bs.getD n []) else []
theorem iA.congr{F c:Nat->List Nat}(h:iA L I z4 F N)(e:∀n,n<z4->F n=c n):iA L I z4 c N:=by
 obtain⟨b,f,g,d⟩:=h.arr;exact⟨⟨b,f,g,fun n a=>by rw[<-e n a];exact d n a⟩,fun n a=>by rw[<-e n a];exact h.own n a,h.off⟩
theorem FG(X:xE M k a v d S b)(h:kQ M b x y y9 z6)(Z:x.length<=10000)(r:aw M y7 (gn H))(ai:H.length<=10000)(z:∀e∈H,jT M e.hd e.xs/\e.xs.length<=10000) :
  Calls prog 276 #[.pointer (some ⟨k,0,none⟩),.slice y7.ao H.length y7.cap] M fun e J=>∃(O:Nat) (K:Nat->Hd),e=.returned (.slice (some ⟨O,0,none⟩) H.length H.length)/\iA J O H.length (jM x (H.map Ex.xs) H.length) K/\ab [] M J:=by
 obtain⟨Q,hi,o,B,s⟩:=Re Oz;have G:=fun M=>dB (P:=prog) M 181 26 Q _ underlying181 hi o H.length 1 B (by rw[s];omega) (by omega)
 obtain⟨n,g⟩:∃n,n=madeCells (Value.slice none 0 0).cells (H.length*1):=⟨_,rfl⟩
 rw[<-g]at G
 have I:Hid (iA (M.alloc (.cells n 26)) M.heap.size H.length (jM x (H.map Ex.xs) 0) mE):=by
  refine⟨⟨n,QS _ _,by rw[g,Su];omega,?_⟩,?_,fun S _ e=>by simp[mE,Hd.blk]at e⟩
  ·intro S N
   have e:jM x (H.map Ex.xs) 0 S=[]:=by unfold jM;rw[QT (by omega)]
   rw[e,g];exact Ak _ _ _ (by omega)
  ·intro S N
   have e:jM x (H.map Ex.xs) 0 S=[]:=by unfold jM;rw[QT (by omega)]
   rw[e];exact QZ _ _ _ _
 clear g;go_enter func276,ntmps276;go_wp2
 go_loopg [6] H.length (fun gk i wr=>∃(c:Nat) (K:Nat->Hd),c<=H.length/\gk=H.length-c/\i=.int .i64 c/\iA wr M.heap.size H.length (jM x (H.map Ex.xs) c) K/\ab [] M wr)
 case atStart=>exact⟨0,mE,by omega,by omega,rfl,I.out,(ab.refl _ _).alloc _⟩
 case round =>
  obtain⟨c,K,hk,hg,rfl,q,l⟩:=hrel;clear I G
  by_cases f:c<H.length
  ·rcases r.Vm with ⟨_,h0,_⟩ | ⟨gb,L,t,-,u,-⟩
   ·have:H.length=0:=h0
    omega
   have m:aw wr y7 (gn H):=r.Vg (fun af V=>l.block af (r.lt V) (by simp));have cb:=m.cell t c (v6 H[c]) (sB H c f);have T:H.length<=y7.cap:=u;obtain⟨D,U⟩:=z H[c] (Rb f);have PO:=wC k a v d S b x y y9 z6 H[c].hd H[c].xs wr (X.Vb l) (h.Vb l) (by omega) (D.Vb l) (by omega)
   have A:Hid (∀S,S<H.length->Fy (jM x (H.map Ex.xs) c) c (kO x H[c].xs) S=jM x (H.map Ex.xs) (c+1) S):=by
    intro S N;unfold Fy jM
    by_cases e:S=c
    ·subst e;simp[f]
    ·rw[QT e]
     by_cases E:S<c
     ·rw[QW E,QW (by omega)]
     ·rw[QT E,QT (by omega)]
   unfold v6 at cb;obtain⟨ao,ag⟩:=y7;simp only at t;subst t;have ac:=q.lt;clear m;generalize H[c]=R at *;go_wp2_with fail;refine PO.mono ?_;rintro e W ⟨Y,rfl,o2,n2,F⟩;have j:=q.Vb F;have c2:=j.cell c f;have f2:=j.free;have ST:=(show Hid _ from(j.store (k:=c) (kO x R.xs) Y o2 (fun e=>by have:=n2 _ e;omega)).congr A.out);have ad:=l.size;have w:=(l.trans F);have C:Hid (∀p,ab [] M (W.setCell ⟨M.heap.size,c,none⟩ p)):=fun p=>w.setCell (QV (QR _)) p
   go_wp2
   go_roundg (H.length-(c+1))
   case measure=>omega
   case rel=>exact⟨c+1,_,by omega,rfl,by go_num,ST.out,C.out _⟩
  ·have e:c=H.length:=by omega
   subst e;go_wp2;go_ret;exact⟨_,K,rfl,q,l⟩
def qR(l:List St)(a:Nat)(S:List ByteArray×List (List ByteArray))(vs:List ByteArray)(ms:List Bool)(i j:Nat):Bool :=
 !(eD S.1.length (fN l a S.1) i j)||xH vs.length ms (kO vs (S.2.getD i [])) (kO vs (S.2.getD j []))
def Cf(l:List St)(a:Nat)(S:List ByteArray×List (List ByteArray))(vs:List ByteArray)(ms:List Bool):Bool :=
 decide (∀i,i<S.1.length->∀j,j<S.1.length->i<j->qR l a S vs ms i j=true)
theorem wB(l:List St)(HR:Nat->Hd)(f:List ByteArray)(r:List Bool)(hv hm:Hd)(m:List ByteArray)(c:List Ex)(H:Nat->Hd)(w:World)(hp:xE w k a v d S b)(h:kQ w b f r hv hm)(ax:r.length=f.length*f.length)(T:f.length<=10000)(hr:dF w a v l HR)(ok:iH l)(N:ma w o m c H)(L:m.length<=10000)(af:∀e∈c,e.xs.length<=10000) :
  Calls prog 273 #[.pointer (some ⟨k,0,none⟩),.int .i64 g,.pointer (some ⟨o,0,none⟩)] w fun e D=>e=.returned (.bool (Cf l g (m,c.map Ex.xs) f r))/\ab [] w D:=by
 obtain⟨p0,p1,p2⟩:=hp.cells;obtain⟨s0,s1⟩:=N.cells;have E:Hid (c.length=m.length):=N.len;have al:c.length<=10000:=by rw[E.out];exact L
 obtain⟨R,Z⟩:∃R,Hid (R=Cf l g (m,c.map Ex.xs) f r):=⟨_,rfl⟩
 rw[<-Z.out];have W:∀s,ab [] w s->aw s (H 0) (aB m):=fun s F=>(N.Vb F).bag.own 0
 have ag:∀s,ab [] w s->aw s (H 1) (gn c):=fun s F=>(N.Vb F).bag.own 1
 have ac:=hI (fun s (F:ab [] w s)=>DH a v g l HR (H 0) m s (hr.Vb F) ok (W s F) L)
 have HC:Hid (∀D,ab [] w.drew D->D.cell? ⟨k,0,none⟩=some (.pointer (some ⟨a,v,none⟩))/\D.cell? ⟨o,0,none⟩=some (.slice (H 0).ao m.length (H 0).cap)):=by
  intro D a1;exact⟨(hp.Vb ((ab.refl [] w).drew.trans a1)).cells.1,(N.Vb ((ab.refl [] w).drew.trans a1)).cells.1⟩
 have a3:=N.bag.lt;go_enter func273,ntmps273
 go_upto_region 1 with fail
 go_region_held3 (fun D=>D.cell? ⟨k,0,none⟩=some (.pointer (some ⟨a,v,none⟩))/\D.cell? ⟨o,0,none⟩=some (.slice (H 0).ao m.length (H 0).cap)) (go_keep) (first | (go_at_call 209;refine(ac.out _ (by exact(ab.refl [] _).drew)).mono ?_;rintro e s ⟨ap,az,aS,rfl,A2,-,-,F⟩;obtain⟨x0,x1⟩:=HC.out s F))
 have K1:=(ab.refl [] w).drew.trans F;have ad:=N.Vb K1;obtain⟨y0,y1⟩:=ad.cells;have WI:=FG k a v d S b f r hv hm (H 1) c s (hp.Vb K1) (h.Vb K1) T (ag s K1) al (fun e he=>⟨(ad.exs e he).view,af e he⟩);have P:=ko l g m l.length;go_wp2_with fail;refine WI.mono ?_;rintro e w2 ⟨g2,K,rfl,G2,k2⟩;have ar:=A2.Vb k2;have K2:=K1.trans k2;have a0:=hp.Vb K2;have M:=h.Vb K2
 have HT:Hid (R=true ↔ ∀i,i<c.length->∀j,j<c.length->i<j->qR l g (m,c.map Ex.xs) f r i j=true):=by
  show _ ↔ _
  rw[Z.out,E.out];unfold Cf;rw[decide_eq_true_iff]
 have O:Hid (∀S,∀x∈jM f (c.map Ex.xs) c.length S,x<f.length):=by
  intro S x hx;unfold jM at hx
  split at hx
  ·exact Kb hx
  ·cases hx
 have Q:Hid (∀S,S<c.length->(jM f (c.map Ex.xs) c.length S).length<=10000):=by
  intro S hn;unfold jM;rw[QW hn];refine Q3 (FH _ _) ?_;rw[QQ];simp[hn];exact af _ (Rb hn)
 have an:Hid (∀i j,i<c.length->j<c.length->qR l g (m,c.map Ex.xs) f r i j=(!(eD m.length (fN l g m) i j)||xH f.length r (jM f (c.map Ex.xs) c.length i) (jM f (c.map Ex.xs) c.length j))):=by
  intro i j hi hj;unfold qR jM;rw[QW hi,QW hj]
 clear WI W ag ac HC y0 y1 p0 p1 p2 s0 s1 x0 x1;go_wp2
 go_loopg [9] c.length (fun gk iv wr=>∃(i:Nat),i<=c.length/\gk=c.length-i/\iv=.int .i64 i/\Hid (∀y,y<i->∀n,n<c.length->y<n->qR l g (m,c.map Ex.xs) f r y n=true)/\ab [] w2 wr)
 case atStart=>exact⟨0,by omega,by omega,rfl,fun y a4=>by omega,ab.refl _ _⟩
 case round =>
  obtain⟨i,hi,hg,rfl,p,hK⟩:=hrel
  by_cases z:i<c.length
  ·go_wp2_with fail
   go_loopg [10] (c.length-(i+1)) (fun ai jv aT=>∃(j:Nat),i+1<=j/\j<=c.length/\ai=c.length-j/\jv=.int .i64 j/\Hid (∀n,i<n->n<j->qR l g (m,c.map Ex.xs) f r i n=true)/\ab [] w2 aT)
   case atStart=>exact⟨i+1,by omega,by omega,by omega,by go_num,fun n h1 M=>by omega,hK⟩
   case round =>
    obtain⟨j,a5,hj,a2,rfl,u,q⟩:=hrel;clear hK
    by_cases A:j<c.length
    ·have hA:=ar.Vb q
     have U:=G2.Vb q;have d1:=U.cell i z;have d2:=U.cell j A;have q1:=Q.out i z;have q2:=Q.out j A;have a7:(i:Int)<c.length:=by omega
     have a6:(j:Int)<c.length:=by omega
     have AP:=fun nq=>qh ap m (fN l g m) az aS i j (wr.drewN nq) (hA.Vb ((ab.refl [] _).drewN nq)) P L (by rw[<-E.out];exact z) (by rw[<-E.out];exact A)
     have AR:=fun nq=>zD k a v d S b f r hv hm (K i) (K j) (jM f (c.map Ex.xs) c.length i) (jM f (c.map Ex.xs) c.length j) (wr.drewN nq) ((a0.Vb q).Vb ((ab.refl [] _).drewN nq)) ((M.Vb q).Vb ((ab.refl [] _).drewN nq)) ax T ((U.Vb ((ab.refl [] _).drewN nq)).own i z) ((U.Vb ((ab.refl [] _).drewN nq)).own j A) (by omega) (by omega) (O.out i) (O.out j)
     have t:=hI (an.out i j z A)
     have B:Hid (qR l g (m,c.map Ex.xs) f r i j=true->∀n,i<n->n<j+1->qR l g (m,c.map Ex.xs) f r i n=true):=by
      intro hh n h1 M
      by_cases e:n=j
      ·subst e;exact hh
      ·exact u.out n h1 (by omega)
     have I:Hid (qR l g (m,c.map Ex.xs) f r i j=false->R=false):=by
      intro hh
      cases e:R
      ·rfl
      ·have:=HT.out.1 e i z j A (by omega)
       rw[this]at hh;cases hh
     have C:=hI AP;have G:=hI AR;clear AP AR p u U hA;generalize jM f (c.map Ex.xs) c.length i=X at *;generalize jM f (c.map Ex.xs) c.length j=Y at *
     cases V:eD m.length (fN l g m) i j
     ·have J:=hI (B.out (by rw[t.out,V];rfl))
      rw[V]at C;clear I B
      go_upto_region 9 with fail
      go_quiet (first | (go_at_call 215;exact Rd (C.out _)))
      go_wp2
      go_roundg (c.length-(j+1))
      case measure=>omega
      case rel=>exact⟨j+1,by omega,by omega,rfl,by go_num,J.out,q.drewN _⟩
     ·rw[V]at C
      cases hc:xH f.length r X Y
      ·have J:=hI (I.out (by rw[t.out,V,hc];rfl))
       rw[hc]at G;clear I B
       go_upto_region 9 with fail
       go_quiet (first | (go_at_call 215;exact Rd (C.out _)) | (go_at_call 277;exact UF (G.out _)))
       go_wp2;go_ret;exact⟨aD J.out.symm,K2.trans (q.drewN _)⟩
      ·have J:=hI (B.out (by rw[t.out,V,hc];rfl))
       rw[hc]at G;clear I B
       go_upto_region 9 with fail
       go_quiet (first | (go_at_call 215;exact Rd (C.out _)) | (go_at_call 277;exact UF (G.out _)))
       go_wp2
       go_roundg (c.length-(j+1))
       case measure=>omega
       case rel=>exact⟨j+1,by omega,by omega,rfl,by go_num,J.out,q.drewN _⟩
    ·have HN:Hid (∀y,y<i+1->∀n,n<c.length->y<n->qR l g (m,c.map Ex.xs) f r y n=true):=by
      intro y h1 n M h3
      by_cases e:y=i
      ·subst e;exact u.out n h3 (by omega)
      ·exact p.out y (by omega) n M h3
     clear u p;go_wp2
     go_roundg (c.length-(i+1))
     case measure=>omega
     case rel=>exact⟨i+1,by omega,rfl,by go_num,HN,q⟩
  ·have J:Hid (R=true):=HT.out.2 (fun y h1 n M h3=>p.out y (by omega) n M h3)
   clear p;go_wp2;go_ret;exact⟨aD J.out.symm,K2.trans hK⟩
def Bc(l:List St)(a n:Nat):Option ByteArray:=match l[n]? with
 | some s=>if(s.kind==2)=true/\g7 l n a=true then some (aL s) else none
 | none=>none
def qG(l:List St)(a k:Nat):List ByteArray:=(List.range k).filterMap (Bc l a)
def yi(l:List St)(a:Nat):List ByteArray:=qG l a l.length
theorem Kz(h:o<w.length)(a:(w[o].kind==2)=true)(b:g7 w o g=true):qG w g (o+1)=qG w g o++[aL w[o]]:=by
 unfold qG;rw[R6,SU];simp[Bc,h,a,b]
theorem Nc(h:o<w.length)(a:(w[o].kind==2)=false∨g7 w o g=false):qG w g (o+1)=qG w g o:=by
 unfold qG;rw[R6,SU]
 have:Bc w g o=none:=by
  unfold Bc;rw[QP h];simp only;rw[QT];rintro ⟨c,b⟩
  rcases a with a | a
  ·rw[a]at c;cases c
  ·rw[a]at b;cases b
 simp[this]
theorem Bd:(qG w g o).length<=o:=by
 have:=To (Bc w g) (List.range o);unfold qG;simpa using this
theorem qF(h:dF M d S w f)(ok:iH w) :
  Calls prog 208 #[.pointer (some ⟨d,S,none⟩),.int .i64 b] M fun e w'=>∃c:Hd,e=.returned (.slice c.ao (yi w b).length c.cap)/\aw w' c (aB (yi w b))/\(∀x,c.blk=some x->M.heap.size<=x)/\ab [] M w':=by
 obtain⟨i0,hi,N,X,O⟩:=Re js;have ac:=ok.len;go_enter func208,ntmps208;go_wp2
 go_loopg [5,6] w.length (fun gk sv i wr=>∃(k:Nat) (c:Hd),k<=w.length/\gk=w.length-k/\i=.int .i64 k/\sv=.slice c.ao (qG w b k).length c.cap/\aw wr c (aB (qG w b k))/\(∀x,c.blk=some x->M.heap.size<=x)/\ab [] M wr)
 case atStart=>exact⟨0,⟨none,0⟩,by omega,by omega,rfl,rfl,QZ _ _ _ _,by intro x z;simp[Hd.blk]at z,ab.refl _ _⟩
 case round =>
  obtain⟨k,c,hk,hg,rfl,rfl,V,F,W⟩:=hrel;have K:=h.Vb W;have ag:=Bd w b k
  by_cases g:k<w.length
  ·have ad:=ok.syms k g
   have J:=hI (Kz w b k g);have m:=hI (Nc w b k g);have Y:=mq w[k] (f (10+2*k)) (f (11+2*k));unfold ee at Y;have U:=hI Y;clear Y
   go_upto_region 6 with (first | (go_at_call 80;refine(eM d S w f _ (by exact K)).mono ?_;rintro e wc ⟨rfl,v⟩;rw[v]) | (go_at_call 97;refine(a9 d S k w f _ (by exact K) g).mono ?_;rintro e o ⟨rfl,T⟩;unfold ee))
   obtain⟨l,q⟩:∃l,l=o.alloc (.cells #[.int .i64 w[k].kind,.string w[k].label,.slice (f (10+2*k)).ao w[k].U6.length (f (10+2*k)).cap,.slice (f (11+2*k)).ao w[k].Vh.length (f (11+2*k)).cap,.string w[k].fin.file,.int .i64 w[k].fin.line,.int .i64 w[k].fin.col,.int .i64 w[k].til] 158):=⟨_,rfl⟩
   have C:ab [] wr l:=by rw[q];exact T.alloc _
   have r:l.heap[o.heap.size]?=some (.cells #[.int .i64 w[k].kind,.string w[k].label,.slice (f (10+2*k)).ao w[k].U6.length (f (10+2*k)).cap,.slice (f (11+2*k)).ao w[k].Vh.length (f (11+2*k)).cap,.string w[k].fin.file,.int .i64 w[k].fin.line,.int .i64 w[k].fin.col,.int .i64 w[k].til] 158 (0,0)):=by rw[q];exact QS _ _
   rw[<-q];clear q;have u0:l.cell? ⟨o.heap.size,0,none⟩=some (.int .i64 w[k].kind):=by rw[aa r];rfl
   have u1:l.cell? ⟨o.heap.size,1,none⟩=some (.string w[k].label):=by rw[aa r];rfl
   have u2:l.cell? ⟨o.heap.size,2,none⟩=some (.slice (f (10+2*k)).ao w[k].U6.length (f (10+2*k)).cap):=by rw[aa r];rfl
   have u3:l.cell? ⟨o.heap.size,3,none⟩=some (.slice (f (11+2*k)).ao w[k].Vh.length (f (11+2*k)).cap):=by rw[aa r];rfl
   have u4:l.cell? ⟨o.heap.size,4,none⟩=some (.string w[k].fin.file):=by rw[aa r];rfl
   have u5:l.cell? ⟨o.heap.size,5,none⟩=some (.int .i64 w[k].fin.line):=by rw[aa r];rfl
   have u6:l.cell? ⟨o.heap.size,6,none⟩=some (.int .i64 w[k].fin.col):=by rw[aa r];rfl
   have u7:l.cell? ⟨o.heap.size,7,none⟩=some (.int .i64 w[k].til):=by rw[aa r];rfl
   have A:=K.Vb C;have p:aw l c (aB (qG w b k)):=V.Vg (fun x z=>C.block x (V.lt z) (by simp));have R:=(A.Vn.syms k w[k] (QP g)).view;have y:=W.trans C
   cases h2:(w[k].kind==2)
   ·have s:=hI (m.out (Q1 h2))
    clear J m;go_wp2
    go_roundg (w.length-(k+1))
    case measure=>omega
    case rel=>exact⟨k+1,c,by omega,rfl,by go_num,by rw[s.out],by rw[s.out];exact p,F,y⟩
   ·cases L:g7 w k b
    ·have s:=hI (m.out (QV L))
     clear J m;go_wp2_with (go_at_call 187;refine(gF d S k b w f _ (by exact A) g).mono ?_;rintro e wd ⟨rfl,B⟩;rw[B,L])
     go_roundg (w.length-(k+1))
     case measure=>omega
     case rel=>exact⟨k+1,c,by omega,rfl,by go_num,by rw[s.out],by rw[s.out];exact p,F,y⟩
    ·have s:=hI (J.out h2 L)
     clear J m;go_wp2_with (first | (go_at_call 187;refine(gF d S k b w f _ (by exact A) g).mono ?_;rintro e wd ⟨rfl,B⟩;rw[B,L]) | (go_at_call 189;refine(U.out _ (by exact R) (by omega)).mono ?_;rintro e w5 ⟨rfl,k5⟩;have H:=p.Vg (fun x z=>(k5.alloc (.cells #[.string (aL w[k])] 9)).block x (p.lt z) (by simp))) | (at_builtin;refine aM _ rfl (.tmp 26) (.tmp 29) 61 rfl i0 (.string ⟨#[]⟩) 16 c (aB (qG w b k)) underlying61 hi N X O rfl Rc rfl (by exact H) ⟨_,0,none⟩ 1 1 [.string (aL w[k])] rfl rfl ?d1 ?d2 Rc ?d3 ?d4 ?_))
     case d1=>intro j u I;match j,I with | 0,I=>simp at I;subst I;simp[Addr.add]
     case d2=>intro u hu;simp at hu;subst hu;rfl
     case d3=>simp only[aB];unfold maxLen;omega
     case d4=>simp only[aB];omega
     intro Z D w6 E t a;rw[dr (qG w b k) (aL w[k]),<-s.out]at E;have G:=(y.trans k5).alloc (.cells #[.string (aL w[k])] 9);have Q:=G.grown t F
     have af:M.heap.size<=Z:=by
      rcases a with e | e
      ·exact F Z e
      ·have:=G.size;simp at e this;omega
     have P:Hid ((aB (qG w b k)).n+1=(qG w b (k+1)).length):=by show _=_;rw[s.out];simp[aB]
     rw[P.out];clear t a H;go_wp2
     go_roundg (w.length-(k+1))
     case measure=>omega
     case rel=>exact⟨k+1,⟨some ⟨Z,0,none⟩,D⟩,by omega,rfl,by go_num,rfl,E,by intro x z;simp[Hd.blk]at z;omega,Q⟩
  ·have e:k=w.length:=by omega
   subst e;go_wp2_with (go_at_call 80;refine(eM d S w f _ (by exact K)).mono ?_;rintro e wc ⟨rfl,v⟩;rw[v]);go_ret;exact⟨c,rfl,V,F,W⟩
def PH:St:=⟨0,⟨#[]⟩,[],[],⟨⟨#[]⟩,0,0⟩,0⟩
abbrev On:=List ByteArray×List (List ByteArray)
def ov(l:List St):List Nat->List (List ByteArray)->On->Int×On
 | h :: hs,e :: es,S=>if((mW (l.getD h PH) e S).1==0)=true then ov l hs es (mW (l.getD h PH) e S).2 else mW (l.getD h PH) e S
 | _,_,S=>(0,S)
def tI(l:List St)(n:Nat)(vs:List ByteArray)(ms:List Bool)(sy:List ByteArray)(R:Int×On):Int×List ByteArray :=
 if(R.1==0)=true then(if Cf l n R.2 vs ms=true then(0,nY R.2.1 R.2.2 sy) else(9,[])) else(R.1,[])
def iV(l:List St)(n:Nat)(vs:List ByteArray)(ms:List Bool)(th:List (List ByteArray)):Int×List ByteArray :=
 if th.length<(aK l n).length then(6,[])
 else tI l n vs ms (l.getD n PH).U6 (ov l (aK l n) (th.drop (th.length-(aK l n).length)) ([],[]))
theorem zV(h:o<w.length):w.getD o PH=w[o]:=by rw[QQ,QP h];rfl
theorem Ih(S:On)(i:Nat)(b:i<yf.length)(c:i<yr.length)(a:yf[i]<w.length) :
  ov w (yf.drop i) (yr.drop i) S=if((mW w[yf[i]] yr[i] S).1==0)=true then ov w (yf.drop (i+1)) (yr.drop (i+1)) (mW w[yf[i]] yr[i] S).2 else mW w[yf[i]] yr[i] S:=by
 rw[Rf b,Rf c,ov,zV w _ a]
theorem Eb(S:On)(i:Nat)(a:¬i<yf.length):ov w (yf.drop i) yr S=(0,S):=by
 rw[R8 (by omega)];cases yr <;> rfl
structure Kt(S:On)(N:Nat):Prop where
 one:S.1.length<=N
 two:∀y∈S.2,y.length<=10000
theorem Nq(s:St)(e:List ByteArray)(S:On)(N:Nat)(h:Kt S N)(b:e.length<=10000):Kt (mW s e S).2 (N+1):=by
 have c:=h.one;unfold mW
 split
 ·split <;> exact⟨by simp only;omega,h.two⟩
 ·split
  ·exact⟨by simp only;omega,h.two⟩
  ·next x r =>
   split
   ·refine⟨by simp;omega,fun y a=>?_⟩
    simp at a
    rcases a with a | rfl
    ·exact h.two y a
    ·simp at b;omega
   ·exact⟨by simp only;omega,h.two⟩
theorem Iw(k:Nat):∀x∈dG w o k,x<k:=by
 induction k with
 | zero=>intro x a;simp[dG]at a
 | succ k b =>
  intro x a
  cases h:l6 w (f8 w o) o k
  ·rw[tX w o k h]at a
   have:=b x a;omega
  ·rw[wn w o k h]at a
   simp at a
   rcases a with a | rfl
   ·have:=b x a;omega
   ·omega
theorem Ca(h:z4∈aK yt I):z4<yt.length:=Iw yt I yt.length z4 h
theorem aw.cutE(o:aw L y8 (gn z5))(c:Nat)(u:c<=z5.length):aw L y8 (gn (z5.take c)):=by
 have d:(z5.take c).length=c:=by simp;omega
 refine⟨by simp[gn,By],?_⟩
 rcases o.2 with ⟨f,n⟩ | ⟨g,b,a,f,p,m,q,r,k,i⟩
 ·left
  have:z5.length=0:=n;have h:z5=[]:=Rk this;subst h;simp[gn]at f ⊢;exact f
 ·right
  have l:z5.length<=b:=q;refine⟨g,b,a,?_,p,m,?_,r,k,?_⟩
  ·injection f with j t s
   simp only[gn];rw[j,s]
  ·show(z5.take c).length<=b
   omega
  ·show a.toList.take ((z5.take c).length*1)=By (z5.take c)
   have e:a.toList.take (z5.length*1)=By z5:=i;rw[d];unfold By at e ⊢;rw[UL,<-e,UC]
   congr 1
   omega
def pn(sh th:List Ex):Nat->dN
 | 0=>gn sh
 | 1=>gn th
 | _+2=>gn []
def id(rb ro g n tb:Nat)(sh th:List Ex)(H:Nat->Hd):List Value :=
 [.pointer (some ⟨rb,ro,none⟩),.slice (some ⟨g,0,none⟩) n n,.pointer (some ⟨tb,0,none⟩),.slice (H 0).ao sh.length (H 0).cap,.slice (H 1).ao th.length (H 1).cap]
structure ux(w:World)(b rb ro g n tb:Nat)(sh th:List Ex)(H:Nat->Hd):Prop where
 bag:a8 w b 307 (id rb ro g n tb sh th H) (pn sh th) H
 shs:∀e∈sh,rd w b H e.hd e.xs/\e.xs.length<=32
 ths:∀e∈th,rd w b H e.hd e.xs/\e.xs.length<=32
theorem ux.Vb(h:ux L I z4 zb zt y6 ya z5 yd N)(k:ab [] L y2):ux y2 I z4 zb zt y6 ya z5 yd N :=
 ⟨h.bag.Vb k,fun e a=>⟨(h.shs e a).1.Vb k,(h.shs e a).2⟩,fun e a=>⟨(h.ths e a).1.Vb k,(h.ths e a).2⟩⟩
theorem ux.ctx(h:ux L I z4 zb zt y6 ya z5 yd N):xE L I z4 zb zt y6 ya:=⟨_,_,h.bag.blk,rfl,rfl,rfl⟩
theorem ux.cells{g:Nat}(h:ux L I z4 zb g zt y6 z5 yd N) :
  L.cell? ⟨I,3,none⟩=some (.slice (N 0).ao z5.length (N 0).cap)/\L.cell? ⟨I,4,none⟩=some (.slice (N 1).ao yd.length (N 1).cap):=⟨h.bag.cell 3,h.bag.cell 4⟩
structure DB(w:World)(rb ro g tb:Nat)(l:List St)(HR K:Nat->Hd)(vs:List ByteArray)(ms:List Bool)(hv hm:Hd):Prop where
 recd:dF w rb ro l HR
 ok:iH l
 all:gW w g l l.length K
 ap:kQ w tb vs ms hv hm
 hml:ms.length=vs.length*vs.length
 hvl:vs.length<=10000
theorem DB.Vb{b:List Bool}{a:Hd}(h:DB L I z4 zb zt yt N yg x4 b y8 a)(k:ab [] L y2):DB y2 I z4 zb zt yt N yg x4 b y8 a :=
 ⟨h.recd.Vb k,h.ok,h.all.Vb k,h.ap.Vb k,h.hml,h.hvl⟩
structure l9(w0 w:World)(b rb ro g n tb:Nat)(sh th:List Ex)(H:Nat->Hd):Prop where
 ply:ux w b rb ro g n tb sh th H
 kept:ab [] w0 w
 hb:w0.heap.size<=b
 hin:∀x,f9 H x->w0.heap.size<=x
theorem l9.Vb(h:l9 L y2 I z4 zb zt y6 ya z5 yd N)(k:ab [] y2 yu):l9 L yu I z4 zb zt y6 ya z5 yd N :=
 ⟨h.ply.Vb k,h.kept.trans k,h.hb,h.hin⟩
section
attribute [local go_sem] wa
theorem rd.turned(f:rd L I N y8 x4)(t:aA I L N y2 yg):rd y2 I yg y8 x4:=by
 refine⟨f.view.keptP t.1 (fun x c=>?_),fun x c=>?_⟩
 ·obtain⟨_,b,a⟩:=f.far x c
  rintro (e | e)
  ·exact b e
  ·exact a e
 ·obtain⟨d,b,a⟩:=f.far x c
  exact⟨QX d t.1.size,b,t.fresh x d a⟩
theorem a8.reset{b:List Value}{a rows':Nat->dN}(h:a8 L I z4 b a N)(c:Nat)(u:Value)(o:∀i,aw L (N i) (rows' i)) :
  a8 (L.setCell ⟨I,c,none⟩ u) I z4 (b.set c u) rows' N/\aA I L N (L.setCell ⟨I,c,none⟩ u) N:=by
 obtain⟨e,f⟩:=h.set c u;refine⟨⟨e.blk,fun i=>(o i).Vg (fun k d=>Q4 _ _ _ _ ?_),h.apart,h.off⟩,f⟩;rintro rfl;exact h.off i d
theorem sC:rd i b f ⟨none,0⟩ []:=⟨Q1 rfl,fun x a=>by simp[Hd.blk]at a⟩
theorem yh(E:DB z7 a v d S w T y5 x y y9 z6)(P:l9 z7 i k a v d w.length S n H f)(U:b<w.length)(hA:sM w b=true)(cq:H.length<=2000000) :
  Calls prog 261 #[.pointer (some ⟨k,0,none⟩),.int .i64 b] i fun e u=>∃(aS:List Ex) (C:Ex),
   e=.returned (.tuple #[.slice C.hd.ao C.xs.length C.hd.cap,.int .i64 (iV w b x y (H.map Ex.xs)).1])/\C.xs=(iV w b x y (H.map Ex.xs)).2/\l9 z7 u k a v d w.length S n aS f/\rd u k f C.hd C.xs /\
   (((iV w b x y (H.map Ex.xs)).1==0)=true->aS=H.take (H.length-(aK w b).length))/\aS.length<=H.length:=by
 have Ew:=E.Vb P.kept;have cc:=E.ok.len;obtain⟨p0,p1,p2⟩:=P.ply.ctx.cells;obtain⟨p3,p4⟩:=P.ply.cells;have bd:lO w w.length b=aK w b:=by unfold lO;rw[QW ⟨U,hA⟩]
 have ca:=Ew.all.cell b U;have oa:=Ew.all.own b U;rw[bd]at ca oa;obtain⟨AO,bg⟩:∃AO,Hid ((y5 b).ao=AO):=⟨_,rfl⟩
 rw[bg.out]at ca;have cu:(aK w b).length<=w.length:=oy w b w.length;have a4:∀c (hi:c<(aK w b).length),(aK w b)[c]<w.length:=fun c hi=>Ca (Rb hi)
 have cs:(b:Int)<w.length:=by omega
 have b0:¬(b:Int) ≥ w.length:=by omega
 clear bd p2 p3
 by_cases hu:H.length<(aK w b).length
 ·have HF:Hid (iV w b x y (H.map Ex.xs)=(6,[])):=by show _=_;unfold iV;rw[Ri,QW hu]
  have b6:(H.length:Int)-(aK w b).length<0:=by omega
  go_enter func261,ntmps261;go_wp2
  exact QY (v:=.tuple #[.slice none 0 0,.int .i64 6]) (by simp[results,results261,go_sem]) rfl
   ⟨H,⟨⟨none,0⟩,[]⟩,by rw[HF.out];rfl,by rw[HF.out],P,sC _ _ _,by rw[HF.out];simp,QR _⟩
 ·obtain⟨g,hf⟩:∃g,H.length-(aK w b).length=g:=⟨_,rfl⟩
  have cz:(H.length:Int)-(aK w b).length=(g:Int):=by omega
  have cl:¬(g:Int)<0:=by omega
  obtain⟨RR,a3⟩:∃RR,Hid (RR=ov w (aK w b) ((H.map Ex.xs).drop g) ([],[])):=⟨_,rfl⟩
  have HF:Hid (iV w b x y (H.map Ex.xs)=tI w b x y w[b].U6 RR):=by
   show _=_
   unfold iV;rw[Ri,QT hu,zV w b U,hf,a3.out]
  rw[hf];have a2:g+(aK w b).length=H.length:=by omega
  have bc:=hI a2;clear hf a2;obtain⟨W,hW⟩:∃W,W=i.alloc (.cells #[.slice none 0 0,.slice none 0 0] 343):=⟨_,rfl⟩
  have kW:ab [] i W:=by rw[hW];exact(ab.refl [] _).alloc _
  have SI:ma W i.heap.size [] [] mE:=by
   rw[hW];refine⟨⟨QS _ _,?_,fun c j _=>Q1 rfl,fun c e=>by simp[mE,Hd.blk]at e⟩,rfl,by simp⟩;intro c
   match c with
   | 0=>exact QZ _ _ _ _
   | 1=>exact QZ _ _ _ _
   | m+2=>exact QZ _ _ _ _
  have HW:=hI hW.symm;clear hW;go_enter func261,ntmps261
  go_upto_region 8 with fail
  rw[HW.out];have PW:=P.Vb kW;clear HW p0 p1 p4 ca;go_wp2
  go_loopg [9] (aK w b).length (fun gk iv wr=>∃(c:Nat) (aT:On) (s:List Ex) (R:Nat->Hd),c<=(aK w b).length/\gk=(aK w b).length-c/\iv=.int .i64 c/\Kt aT c/\s.map Ex.xs=aT.2/\Hid (RR=ov w ((aK w b).drop c) (((H.map Ex.xs).drop g).drop c) aT)/\ma wr i.heap.size aT.1 s R/\(∀h,f9 R h->i.heap.size<=h)/\(∀e∈s,e.hd.blk≠some k)/\ab [] i wr)
  case atStart=>exact⟨0,([],[]),[],mE,by omega,by omega,rfl,⟨by simp,by simp⟩,rfl,a3.out,SI,fun h l=>by obtain⟨c,hi⟩:=l;simp[mE,Hd.blk]at hi,by simp,kW⟩
  case round =>
   obtain⟨c,aT,s,R,hi,hg,rfl,A,ad,hR,hS,K,az,V⟩:=hrel
   by_cases J:c<(aK w b).length
   ·obtain⟨z,S2⟩:=aT
    simp only at ad;subst ad;have Pr:=P.Vb V;have a0:g+c<H.length:=by have:=bc.out;omega
    have oT:aw wr (f 1) (gn H):=Pr.ply.bag.own 1
    rcases oT.Vm with ⟨_,h0,_⟩ | ⟨G,ba,Y,-,ax,-⟩
    ·have:H.length=0:=h0
     omega
    have oH:aw wr (y5 b) (bB (aK w b)):=oa.Vg (fun h l=>V.block h (oa.lt l) (by simp))
    rcases oH.Vm with ⟨_,h0,_⟩ | ⟨gh,b3,eh,-,bw,-⟩
    ·have:(aK w b).length=0:=h0
     omega
    have ch:=oH.cell eh c (.int .i64 (aK w b)[c]) (jP _ c J);have ct:=oT.cell Y (g+c) (v6 H[g+c]) (sB H (g+c) a0);obtain rfl:AO=some ⟨gh,0,none⟩:=bg.out.symm.trans eh;have bo:H.length<=(f 1).cap:=ax;have b2:(aK w b).length<=(y5 b).cap:=bw;have r:=(P.ply.ths H[g+c] (Rb a0));have ac:=a4 c J;have I:=hI (hR.out.trans (Ih w (aK w b) ((H.map Ex.xs).drop g) (z,s.map Ex.xs) c J (by simp;omega) ac));have e1:((H.map Ex.xs).drop g)[c]'(by simp;omega)=H[g+c].xs:=by simp
    rw[e1]at I;have bj:=Nq w[(aK w b)[c]] H[g+c].xs (z,s.map Ex.xs) c A (by omega);have FT:=fun(w3:World) (B:ab [] wr w3)=>Nr i.heap.size z s R w[(aK w b)[c]] (T (10+2*(aK w b)[c])) (T (11+2*(aK w b)[c])) H[g+c].hd H[g+c].xs w3 (hS.Vb B) (by have:=A.one;simp only at this;omega) (fun e o=>A.two _ (TV o)) ((((E.Vb (Pr.kept.trans B)).recd.Vn.syms _ w[(aK w b)[c]] (QP ac)).view)) (E.ok.syms _ ac) ⟨(r.1.Vb (V.trans B)).view,fun h l=>⟨QX (r.1.far h l).1 (V.trans B).size,by have:=(r.1.far h l).1;omega,fun z6=>by have:=K h z6;have:=(r.1.far h l).1;omega⟩⟩ (by omega)
    have ST:=fun(w3:World) (B:ab [] wr w3)=>a9 a v (aK w b)[c] w T w3 (E.Vb (Pr.kept.trans B)).recd ac
    have p4:=Pr.ply.cells.2;have p0:=Pr.ply.ctx.cells.1;rw[Y]at p4
    have M:Hid (∀u,ab [] i u->u.cell? ⟨k,0,none⟩=some (.pointer (some ⟨a,v,none⟩))/\u.cell? ⟨gh,c,none⟩=some (.int .i64 (aK w b)[c])/\u.cell? ⟨k,4,none⟩=some (.slice (some ⟨G,0,none⟩) H.length (f 1).cap)/\u.cell? ⟨G,g+c,none⟩=some (v6 H[g+c])):=by
     intro u cb;have P':=P.Vb cb;refine⟨P'.ply.ctx.cells.1,(oa.Vg (fun h l=>cb.block h (oa.lt l) (by simp))).cell eh c _ (jP _ c J),?_,(P'.ply.bag.own 1).cell Y (g+c) (v6 H[g+c]) (sB H (g+c) a0)⟩;rw[<-Y];exact P'.ply.cells.2
    have a7:Hid (∀h,(h=i.heap.size∨f9 R h)->i.heap.size<=h):=by
     rintro h (e | e)
     ·omega
     ·exact K h e
    have N:=hI FT;have bf:=hI ST;have b4:IntKind.i64.wrap ((g:Int)+c)=(g:Int)+c:=by rw[R9];omega
    have cf:(0:Int)<=(g:Int)+c:=by omega
    have b5:(g:Int)+c<H.length:=by omega
    have ck:((g:Int)+c).toNat=g+c:=by omega
    have al:=r.1.far;clear FT ST hR e1 oT oH r Y eh;unfold v6 at ct M;generalize H[g+c]=C at *;generalize (aK w b)[c]=a1 at *;generalize mW w[a1] C.xs (z,s.map Ex.xs)=Q at *;obtain⟨q,S9⟩:=Q;simp only at I bj N;have bx:C.hd.blk≠some k:=fun e=>(al k e).2.1 rfl
    cases hq:(q==0)
    ·have bT:(q != 0)=true:=by simp[bne,hq]
     have F:Hid (iV w b x y (H.map Ex.xs)=(q,[])):=by show _=_;rw[HF.out,I.out,QT (by rw[hq];simp)];simp[tI,hq]
     clear I
     go_upto_region 11 with fail
     go_region_held3 (fun u=>u.cell? ⟨k,0,none⟩=some (.pointer (some ⟨a,v,none⟩))/\u.cell? ⟨gh,c,none⟩=some (.int .i64 a1)/\u.cell? ⟨k,4,none⟩=some (.slice (some ⟨G,0,none⟩) H.length (f 1).cap)/\u.cell? ⟨G,g+c,none⟩=some (.slice C.hd.ao C.xs.length C.hd.cap)) (go_keep) (first | (go_at_call 97;refine(bf.out _ (by exact(ab.refl [] _).drew)).mono ?_;rintro e w3 ⟨rfl,B⟩;obtain⟨x0,x1,x2,x3⟩:=M.out w3 (V.drew.trans B)) | (go_at_call 272;refine(N.out _ (by exact(ab.refl [] _).drew.trans B)).mono ?_;rintro e w9 ⟨an,H9,rfl,a5,ag,T9,O⟩;have K9:=(V.drew.trans B).ofP T9.1 a7.out;obtain⟨z0,z1,z2,z3⟩:=M.out w9 K9))
     all_goals
      clear z0 z1 z2 z3 x0 x1 x2 x3;go_wp2
      exact QY (v:=.tuple #[.slice none 0 0,.int .i64 q]) (by simp[results,results261,go_sem]) rfl
       ⟨H,⟨⟨none,0⟩,[]⟩,by rw[F.out];rfl,by rw[F.out],P.Vb K9,sC _ _ _,fun hh=>by rw[F.out]at hh;exact absurd (hq.symm.trans hh) (by simp),QR _⟩
    ·have bT:(q != 0)=false:=by simp[bne,hq]
     have F:Hid (RR=ov w ((aK w b).drop (c+1)) (((H.map Ex.xs).drop g).drop (c+1)) S9):=by show _=_;rw[I.out,QW hq]
     clear I
     go_upto_region 11 with fail
     go_region_held3 (fun u=>u.cell? ⟨k,0,none⟩=some (.pointer (some ⟨a,v,none⟩))/\u.cell? ⟨gh,c,none⟩=some (.int .i64 a1)/\u.cell? ⟨k,4,none⟩=some (.slice (some ⟨G,0,none⟩) H.length (f 1).cap)/\u.cell? ⟨G,g+c,none⟩=some (.slice C.hd.ao C.xs.length C.hd.cap)) (go_keep) (first | (go_at_call 97;refine(bf.out _ (by exact(ab.refl [] _).drew)).mono ?_;rintro e w3 ⟨rfl,B⟩;obtain⟨x0,x1,x2,x3⟩:=M.out w3 (V.drew.trans B)) | (go_at_call 272;refine(N.out _ (by exact(ab.refl [] _).drew.trans B)).mono ?_;rintro e w9 ⟨an,H9,rfl,a5,ag,T9,O⟩;have K9:=(V.drew.trans B).ofP T9.1 a7.out;obtain⟨z0,z1,z2,z3⟩:=M.out w9 K9))
     all_goals
      have bp:∀h,f9 H9 h->i.heap.size<=h:=fun h l=>by
       rcases T9.2 h l with e | e
       ·exact K h e
       ·exact Q3 (V.drew.trans B).size e
      have br:∀e∈an,e.hd.blk≠some k:=fun e o=>by
       rcases O e o with q | q
       ·exact az e q
       ·rw[q];exact bx
      clear z0 z1 z2 z3 x0 x1 x2 x3;go_wp2
      go_roundg ((aK w b).length-(c+1))
      case measure=>omega
      case rel=>exact⟨c+1,S9,an,H9,by omega,rfl,by go_num,bj,ag,F.out,a5,bp,br,K9⟩
   ·obtain⟨z,S2⟩:=aT
    simp only at ad;subst ad
    have af:Hid (iV w b x y (H.map Ex.xs)=tI w b x y w[b].U6 (0,(z,s.map Ex.xs))):=by
     show _=_
     rw[HF.out,hR.out,Eb _ _ _ _ _ J]
    have Pr:=P.Vb V;have Er:=E.Vb Pr.kept;have bv:=A.one;simp only at bv;have KA:=wB k a v d w.length S b i.heap.size w T x y y9 z6 z s R wr Pr.ply.ctx Er.ap E.hml E.hvl Er.recd E.ok hS (by omega) (fun e o=>A.two _ (TV o));clear hR
    cases hk:Cf w b (z,s.map Ex.xs) x y
    ·have F:Hid (iV w b x y (H.map Ex.xs)=(9,[])):=by show _=_;rw[af.out];simp[tI,hk]
     rw[hk]at KA;clear af
     go_upto_region 15 with (go_at_call 273;refine KA.mono ?_;rintro e D ⟨rfl,k2⟩)
     go_wp2
     exact QY (v:=.tuple #[.slice none 0 0,.int .i64 9]) (by simp[results,results261,go_sem]) rfl
      ⟨H,⟨⟨none,0⟩,[]⟩,by rw[F.out];rfl,by rw[F.out],Pr.Vb k2,sC _ _ _,by rw[F.out];simp,QR _⟩
    ·have F:Hid (iV w b x y (H.map Ex.xs)=(0,nY z (s.map Ex.xs) w[b].U6)):=by show _=_;rw[af.out];simp[tI,hk]
     rw[hk]at KA;clear af
     go_upto_region 16 with (go_at_call 273;refine KA.mono ?_;rintro e D ⟨rfl,k2⟩)
     have t:=Pr.Vb k2;have p:=hS.Vb k2;have p4:=t.ply.cells.2;have y4:=t.ply.bag.free;have co:=t.ply.bag.lt;have oT:aw D (f 1) (gn H):=t.ply.bag.own 1;have ai:g<=H.length:=by have:=bc.out;omega
     have b1:(g:Int)<=H.length:=by omega
     have cx:i.heap.size > k:=P.ply.bag.lt
     rcases oT.Vm with ⟨e0,h0,-⟩ | ⟨G,ba,Y,-,ax,-⟩
     ·have bk:H.length=0:=h0
      have bl:g=0:=by omega
      have ar:Hid (Value.slice none 0 0=Value.slice (f 1).ao (H.take g).length (f 1).cap):=by show _=_;rw[e0,bl];rfl
      have cy:=hI e0;rw[e0,bk]at p4;have cp:(g:Int)=0:=by omega
      clear e0 h0 bk
      go_upto_region 17 with fail
      have Z:Hid (a8 (D.setCell ⟨k,4,none⟩ (.slice none 0 0)) k 307 (id a v d w.length S n (H.take g) f) (pn n (H.take g)) f/\aA k D f (D.setCell ⟨k,4,none⟩ (.slice none 0 0)) f):=by
       have q:=t.ply.bag.reset (rows':=pn n (H.take g)) 4 (.slice none 0 0) (by
        intro j
        match j with
        | 0=>exact t.ply.bag.own 0
        | 1=>exact oT.cutE g ai
        | m+2=>exact t.ply.bag.own (m+2))
       have e:(id a v d w.length S n H f).set 4 (.slice none 0 0)=id a v d w.length S n (H.take g) f:=by
        simp only[id,List.set_cons_succ,List.set_cons_zero];rw[ar.out]
       rw[e]at q;exact q
      generalize hX:D.setCell ⟨k,4,none⟩ (.slice none 0 0)=X at Z ⊢;have kX:ab [] z7 X:=by rw[<-hX];exact t.kept.setCell (QV P.hb) _
      have PX:l9 z7 X k a v d w.length S n (H.take g) f:=⟨⟨Z.out.1,fun e o=>⟨(t.ply.shs e o).1.turned Z.out.2,(t.ply.shs e o).2⟩,fun e o=>⟨(t.ply.ths e (Tb o)).1.turned Z.out.2,(t.ply.ths e (Tb o)).2⟩⟩,kX,P.hb,P.hin⟩;have kb:eK (fun h=>h=k) D X:=by rw[<-hX];exact(eK.refl (fun h=>h=k) D).setCell (Q1 (show k=k from rfl)) _
      have SX:ma X i.heap.size z s R:=⟨p.bag.keptP kb (by omega) (fun h l=>by have:=K h l;omega),p.len,fun e o=>⟨(p.exs e o).view.keptP kb (fun h l e2=>az e o (e2 ▸ l)),(p.exs e o).adr,fun h l=>⟨QX ((p.exs e o).far h l).1 kb.size,((p.exs e o).far h l).2⟩⟩⟩;have p0:=PX.ply.ctx.cells.1;have bz:=PX.ply.bag.lt;have L:=fun h (l:f9 f h)=>PX.ply.bag.inlt l
      have a6:=E.ok.syms b U;have EX:=E.Vb kX;clear hX p4 y4 KA;go_wp2_with (first | (go_at_call 97;refine(a9 a v b w T _ (by exact EX.recd) U).mono ?_;rintro e w6 ⟨rfl,k6⟩;unfold ee) | (go_at_call 274;refine(pT i.heap.size z s R (T (10+2*b)) w[b].U6 _ (by exact SX.Vb k6) (by omega) (fun e o=>A.two _ (TV o)) (((EX.Vb k6).recd.Vn.syms b w[b] (QP U)).view) (by omega)).mono ?_;rintro e w7 ⟨hd,rfl,o7,n7,k7⟩));have bs:=k6.size
      exact QY (v:=.tuple #[.slice hd.ao (nY z (s.map Ex.xs) w[b].U6).length hd.cap,.int .i64 0]) (by simp[results,results261,go_sem]) rfl
       ⟨H.take g,⟨hd,nY z (s.map Ex.xs) w[b].U6⟩,by rw[F.out],by rw[F.out],PX.Vb (k6.trans k7),⟨o7.view,fun h l=>⟨o7.lt l,by have:=n7 h l;omega,fun z6=>by have:=n7 h l;have:=L h z6;omega⟩⟩,fun _=>rfl,by simp;omega⟩
     ·have ar:Hid (Value.slice (some ⟨G,0,none⟩) g (f 1).cap=Value.slice (f 1).ao (H.take g).length (f 1).cap):=by show _=_;rw[Y];simp;omega
      have bo:H.length<=(f 1).cap:=ax;have cj:(g:Int)<=(f 1).cap:=by omega
      rw[Y]at p4;clear Y
      go_upto_region 17 with fail
      have Z:Hid (a8 (D.setCell ⟨k,4,none⟩ (.slice (some ⟨G,0,none⟩) g (f 1).cap)) k 307 (id a v d w.length S n (H.take g) f) (pn n (H.take g)) f/\aA k D f (D.setCell ⟨k,4,none⟩ (.slice (some ⟨G,0,none⟩) g (f 1).cap)) f):=by
       have q:=t.ply.bag.reset (rows':=pn n (H.take g)) 4 (.slice (some ⟨G,0,none⟩) g (f 1).cap) (by
        intro j
        match j with
        | 0=>exact t.ply.bag.own 0
        | 1=>exact oT.cutE g ai
        | m+2=>exact t.ply.bag.own (m+2))
       have e:(id a v d w.length S n H f).set 4 (.slice (some ⟨G,0,none⟩) g (f 1).cap)=id a v d w.length S n (H.take g) f:=by
        simp only[id,List.set_cons_succ,List.set_cons_zero];rw[ar.out]
       rw[e]at q;exact q
      generalize hX:D.setCell ⟨k,4,none⟩ (.slice (some ⟨G,0,none⟩) g (f 1).cap)=X at Z ⊢;have kX:ab [] z7 X:=by rw[<-hX];exact t.kept.setCell (QV P.hb) _
      have PX:l9 z7 X k a v d w.length S n (H.take g) f:=⟨⟨Z.out.1,fun e o=>⟨(t.ply.shs e o).1.turned Z.out.2,(t.ply.shs e o).2⟩,fun e o=>⟨(t.ply.ths e (Tb o)).1.turned Z.out.2,(t.ply.ths e (Tb o)).2⟩⟩,kX,P.hb,P.hin⟩;have kb:eK (fun h=>h=k) D X:=by rw[<-hX];exact(eK.refl (fun h=>h=k) D).setCell (Q1 (show k=k from rfl)) _
      have SX:ma X i.heap.size z s R:=⟨p.bag.keptP kb (by omega) (fun h l=>by have:=K h l;omega),p.len,fun e o=>⟨(p.exs e o).view.keptP kb (fun h l e2=>az e o (e2 ▸ l)),(p.exs e o).adr,fun h l=>⟨QX ((p.exs e o).far h l).1 kb.size,((p.exs e o).far h l).2⟩⟩⟩;have p0:=PX.ply.ctx.cells.1;have bz:=PX.ply.bag.lt;have L:=fun h (l:f9 f h)=>PX.ply.bag.inlt l
      have a6:=E.ok.syms b U;have EX:=E.Vb kX;clear hX p4 y4 KA;go_wp2_with (first | (go_at_call 97;refine(a9 a v b w T _ (by exact EX.recd) U).mono ?_;rintro e w6 ⟨rfl,k6⟩;unfold ee) | (go_at_call 274;refine(pT i.heap.size z s R (T (10+2*b)) w[b].U6 _ (by exact SX.Vb k6) (by omega) (fun e o=>A.two _ (TV o)) (((EX.Vb k6).recd.Vn.syms b w[b] (QP U)).view) (by omega)).mono ?_;rintro e w7 ⟨hd,rfl,o7,n7,k7⟩));have bs:=k6.size
      exact QY (v:=.tuple #[.slice hd.ao (nY z (s.map Ex.xs) w[b].U6).length hd.cap,.int .i64 0]) (by simp[results,results261,go_sem]) rfl
       ⟨H.take g,⟨hd,nY z (s.map Ex.xs) w[b].U6⟩,by rw[F.out],by rw[F.out],PX.Vb (k6.trans k7),⟨o7.view,fun h l=>⟨o7.lt l,by have:=n7 h l;omega,fun z6=>by have:=n7 h l;have:=L h z6;omega⟩⟩,fun _=>rfl,by simp;omega⟩
end
def ju(l:List St)(vs:List ByteArray)(ms:List Bool)(sh th:List (List ByteArray))(s:nF):(Int×List ByteArray)×List (List ByteArray) :=
 if(s.kind==3)=true then(if s.U7<sh.length then((0,sh.getD s.U7 []),th) else((5,[]),th))
 else if sM l s.U7=true then(iV l s.U7 vs ms th,th.take (th.length-(aK l s.U7).length))
 else((0,(l.getD s.U7 PH).U6),th)
theorem Mt(E:DB z7 v d S b w T y5 x y y9 z6)(P:l9 z7 i a v d S w.length b n H f)(hn:(l.kind==3)=false->l.U7<w.length)(a4:l.U7<=2000000)(ac:H.length<=2000000) :
  Calls prog 239 #[.pointer (some ⟨a,0,none⟩),.agg #[.int .i64 l.kind,.int .i64 l.U7,.string l.at_.file,.int .i64 l.at_.line,.int .i64 l.at_.col]] i fun e C=>∃(R:List Ex) (z:Ex),
   e=.returned (.tuple #[.slice z.hd.ao z.xs.length z.hd.cap,.int .i64 (ju w x y (n.map Ex.xs) (H.map Ex.xs) l).1.1])/\z.xs=(ju w x y (n.map Ex.xs) (H.map Ex.xs) l).1.2/\l9 z7 C a v d S w.length b n R f/\rd C a f z.hd z.xs /\
   (((ju w x y (n.map Ex.xs) (H.map Ex.xs) l).1.1==0)=true->R.map Ex.xs=(ju w x y (n.map Ex.xs) (H.map Ex.xs) l).2)/\R.length<=H.length:=by
 obtain⟨W,hW⟩:∃W,W=i.alloc (.cells #[.int .i64 l.kind,.int .i64 l.U7,.string l.at_.file,.int .i64 l.at_.line,.int .i64 l.at_.col] 174):=⟨_,rfl⟩
 have kW:ab [] i W:=by rw[hW];exact(ab.refl [] _).alloc _
 have B:W.heap[i.heap.size]?=some (.cells #[.int .i64 l.kind,.int .i64 l.U7,.string l.at_.file,.int .i64 l.at_.line,.int .i64 l.at_.col] 174 (0,0)):=by rw[hW];exact QS _ _
 have HW:=hI hW.symm;have u0:W.cell? ⟨i.heap.size,0,none⟩=some (.int .i64 l.kind):=by rw[aa B];rfl
 have u1:W.cell? ⟨i.heap.size,1,none⟩=some (.int .i64 l.U7):=by rw[aa B];rfl
 have r:=P.Vb kW;have EW:=E.Vb r.kept;obtain⟨p0,p1,p2⟩:=r.ply.ctx.cells;obtain⟨p3,p4⟩:=r.ply.cells;have a6:=r.ply.bag.lt;have a3:=ae B;clear hW
 cases hk:(l.kind==3)
 ·have o:=hn hk
  have K:Hid (ju w x y (n.map Ex.xs) (H.map Ex.xs) l=if sM w l.U7=true then(iV w l.U7 x y (H.map Ex.xs),(H.map Ex.xs).take (H.length-(aK w l.U7).length)) else((0,w[l.U7].U6),H.map Ex.xs)):=by
   show _=_
   unfold ju;rw[hk,Ri,Ri,zV w _ o];rfl
  have Y:Hid (∀C,ab [] W C->C.cell? ⟨a,0,none⟩=some (.pointer (some ⟨v,d,none⟩))/\C.cell? ⟨i.heap.size,1,none⟩=some (.int .i64 l.U7)):=by
   intro C k;refine⟨(r.Vb k).ply.ctx.cells.1,?_⟩;rw[aa (k.get B (by simp))];rfl
  have ad:=hI (fun(c:World) (F:ab [] W c)=>a9 v d l.U7 w T c (EW.Vb F).recd o)
  have HZ:Hid (∀c,ab [] (W.alloc (.cells #[.int .i64 0,.string ⟨#[]⟩,.slice none 0 0,.slice none 0 0,.string ⟨#[]⟩,.int .i64 0,.int .i64 0,.int .i64 0] 158)).drew c->c.cell? ⟨W.heap.size,0,none⟩=some (.int .i64 0)/\c.cell? ⟨W.heap.size,1,none⟩=some (.string ⟨#[]⟩)/\c.cell? ⟨W.heap.size,2,none⟩=some (.slice none 0 0)/\c.cell? ⟨W.heap.size,3,none⟩=some (.slice none 0 0)/\c.cell? ⟨W.heap.size,4,none⟩=some (.string ⟨#[]⟩)/\c.cell? ⟨W.heap.size,5,none⟩=some (.int .i64 0)/\c.cell? ⟨W.heap.size,6,none⟩=some (.int .i64 0)/\c.cell? ⟨W.heap.size,7,none⟩=some (.int .i64 0)/\∀ai,c.frozen? ⟨W.heap.size,ai,none⟩=false):=by
   intro c k;have q:=k.get (show(W.alloc (.cells #[.int .i64 0,.string ⟨#[]⟩,.slice none 0 0,.slice none 0 0,.string ⟨#[]⟩,.int .i64 0,.int .i64 0,.int .i64 0] 158)).drew.heap[W.heap.size]?=_ from QS _ _) (by simp);refine⟨?_,?_,?_,?_,?_,?_,?_,?_,fun ai=>am q ai⟩ <;> (rw[aa q];rfl)
  have aT:W.heap.size≠a:=by omega
  have aS:a≠W.heap.size:=by omega
  have a1:W.heap.size≠i.heap.size:=by omega
  have a2:i.heap.size≠W.heap.size:=by omega
  clear p1 p2 p3 p4;go_enter func239,ntmps239
  go_upto_region 1 with fail
  rw[HW.out]
  go_upto_region 5 with fail
  go_region_held3 (fun C=>C.cell? ⟨a,0,none⟩=some (.pointer (some ⟨v,d,none⟩))/\C.cell? ⟨i.heap.size,1,none⟩=some (.int .i64 l.U7)) (go_keep) (first | (go_at_call 97;refine(ad.out _ (by exact(ab.refl [] W).drew)).mono ?_;rintro e c ⟨rfl,F⟩;obtain⟨x0,x1⟩:=Y.out c ((ab.refl [] _).drew.trans F);unfold ee) | (go_at_call 97;refine(ad.out _ (by exact((ab.refl [] W).alloc _).drew)).mono ?_;rintro e c ⟨rfl,F⟩;obtain⟨x0,x1⟩:=Y.out c (((ab.refl [] W).alloc _).drew.trans F);obtain⟨q0,q1,q2,q3,q4,q5,q6,q7,qf⟩:=HZ.out c F;unfold ee))
  ·obtain⟨X,D⟩:∃X,X=c.alloc (.cells #[.int .i64 w[l.U7].kind,.string w[l.U7].label,.slice (T (10+2*l.U7)).ao w[l.U7].U6.length (T (10+2*l.U7)).cap,.slice (T (11+2*l.U7)).ao w[l.U7].Vh.length (T (11+2*l.U7)).cap,.string w[l.U7].fin.file,.int .i64 w[l.U7].fin.line,.int .i64 w[l.U7].fin.col,.int .i64 w[l.U7].til] 158):=⟨_,rfl⟩
   have I:ab [] W X:=by rw[D];exact((ab.refl [] _).drew.trans F).alloc _
   have j:X.heap[c.heap.size]?=some (.cells #[.int .i64 w[l.U7].kind,.string w[l.U7].label,.slice (T (10+2*l.U7)).ao w[l.U7].U6.length (T (10+2*l.U7)).cap,.slice (T (11+2*l.U7)).ao w[l.U7].Vh.length (T (11+2*l.U7)).cap,.string w[l.U7].fin.file,.int .i64 w[l.U7].fin.line,.int .i64 w[l.U7].fin.col,.int .i64 w[l.U7].til] 158 (0,0)):=by rw[D];exact QS _ _
   rw[<-D];clear D x0 x1 u0 u1 p0;have m0:X.cell? ⟨c.heap.size,0,none⟩=some (.int .i64 w[l.U7].kind):=by rw[aa j];rfl
   have m1:X.cell? ⟨c.heap.size,1,none⟩=some (.string w[l.U7].label):=by rw[aa j];rfl
   have m2:X.cell? ⟨c.heap.size,2,none⟩=some (.slice (T (10+2*l.U7)).ao w[l.U7].U6.length (T (10+2*l.U7)).cap):=by rw[aa j];rfl
   have m3:X.cell? ⟨c.heap.size,3,none⟩=some (.slice (T (11+2*l.U7)).ao w[l.U7].Vh.length (T (11+2*l.U7)).cap):=by rw[aa j];rfl
   have m4:X.cell? ⟨c.heap.size,4,none⟩=some (.string w[l.U7].fin.file):=by rw[aa j];rfl
   have m5:X.cell? ⟨c.heap.size,5,none⟩=some (.int .i64 w[l.U7].fin.line):=by rw[aa j];rfl
   have m6:X.cell? ⟨c.heap.size,6,none⟩=some (.int .i64 w[l.U7].fin.col):=by rw[aa j];rfl
   have m7:X.cell? ⟨c.heap.size,7,none⟩=some (.int .i64 w[l.U7].til):=by rw[aa j];rfl
   have PX:=r.Vb I;have an:=ae j;obtain⟨x0,x1⟩:=Y.out X I;have g:=hI (z9 w l.U7 o)
   cases p:qP w[l.U7].kind
   ·have h:Hid (ju w x y (n.map Ex.xs) (H.map Ex.xs) l=((0,w[l.U7].U6),H.map Ex.xs)):=by show _=_;rw[K.out,g.out,p];rfl
    clear K g
    go_upto_region 8 with (go_at_call 160;refine(dc w[l.U7].kind _ _ _ _ _ _ _ _).mono ?_;rintro e J ⟨rfl,u⟩;have L:=u.get j (by simp))
    have ax:J.cell? ⟨c.heap.size,2,none⟩=some (.slice (T (10+2*l.U7)).ao w[l.U7].U6.length (T (10+2*l.U7)).cap):=by rw[aa L];rfl
    have G:=E.recd.Vn.syms l.U7 w[l.U7] (QP o);have kk:=(I.trans u);have t:=r.Vb kk;clear m0 m1 m2 m3 m4 m5 m6 m7;go_wp2
    exact QY (v:=.tuple #[.slice (T (10+2*l.U7)).ao w[l.U7].U6.length (T (10+2*l.U7)).cap,.int .i64 0]) (by simp[results,results239,go_sem]) rfl
     ⟨H,⟨T (10+2*l.U7),w[l.U7].U6⟩,by rw[h.out],by rw[h.out],t,⟨G.view.Vb t.kept,fun ap O=>⟨QX (G.lt O) t.kept.size,by have:=G.lt O;have:=P.hb;omega,fun z6=>by have:=P.hin ap z6;have:=G.lt O;omega⟩⟩,fun _=>by rw[h.out],QR _⟩
   ·have h:Hid (ju w x y (n.map Ex.xs) (H.map Ex.xs) l=(iV w l.U7 x y (H.map Ex.xs),(H.map Ex.xs).take (H.length-(aK w l.U7).length))):=by show _=_;rw[K.out,g.out,p];rfl
    have N:sM w l.U7=true:=by rw[g.out,p]
    clear K g
    go_upto_region 7 with (go_at_call 160;refine(dc w[l.U7].kind _ _ _ _ _ _ _ _).mono ?_;rintro e J ⟨rfl,u⟩)
    obtain⟨y0,y1⟩:=Y.out J (I.trans u);have t:=PX.Vb u;clear m0 m1 m2 m3 m4 m5 m6 m7;go_wp2_with fail;refine(yh z7 J a v d S b l.U7 w T y5 x y y9 z6 n H f E t o N ac).mono ?_;rintro e w6 ⟨M,m,rfl,A,P6,F6,Q,V⟩;have U:=hI A;clear A;go_wp2
    exact QY (v:=.tuple #[.slice m.hd.ao m.xs.length m.hd.cap,.int .i64 (iV w l.U7 x y (H.map Ex.xs)).1]) (by simp[results,results239,go_sem]) rfl
     ⟨M,m,by rw[h.out],by rw[h.out];exact U.out,P6,F6,fun hh=>by rw[h.out]at hh ⊢;rw[Q hh,UL],V⟩
  ·obtain⟨X,D⟩:∃X,X=(((((((c.setCell ⟨W.heap.size,0,none⟩ (.int .i64 w[l.U7].kind)).setCell ⟨W.heap.size,1,none⟩ (.string w[l.U7].label)).setCell ⟨W.heap.size,2,none⟩ (.slice (T (10+2*l.U7)).ao w[l.U7].U6.length (T (10+2*l.U7)).cap)).setCell ⟨W.heap.size,3,none⟩ (.slice (T (11+2*l.U7)).ao w[l.U7].Vh.length (T (11+2*l.U7)).cap)).setCell ⟨W.heap.size,4,none⟩ (.string w[l.U7].fin.file)).setCell ⟨W.heap.size,5,none⟩ (.int .i64 w[l.U7].fin.line)).setCell ⟨W.heap.size,6,none⟩ (.int .i64 w[l.U7].fin.col)).setCell ⟨W.heap.size,7,none⟩ (.int .i64 w[l.U7].til):=⟨_,rfl⟩
   have ag:=(((ab.refl [] W).alloc _).drew.trans F);have af:=F.get (show(W.alloc (.cells #[.int .i64 0,.string ⟨#[]⟩,.slice none 0 0,.slice none 0 0,.string ⟨#[]⟩,.int .i64 0,.int .i64 0,.int .i64 0] 158)).drew.heap[W.heap.size]?=_ from QS _ _) (by simp);have I:ab [] W X:=by rw[D];exact(((((((ag.setCell (QV (QR _)) _).setCell (QV (QR _)) _).setCell (QV (QR _)) _).setCell (QV (QR _)) _).setCell (QV (QR _)) _).setCell (QV (QR _)) _).setCell (QV (QR _)) _).setCell (QV (QR _)) _
   have j:X.heap[W.heap.size]?=some (.cells #[.int .i64 w[l.U7].kind,.string w[l.U7].label,.slice (T (10+2*l.U7)).ao w[l.U7].U6.length (T (10+2*l.U7)).cap,.slice (T (11+2*l.U7)).ao w[l.U7].Vh.length (T (11+2*l.U7)).cap,.string w[l.U7].fin.file,.int .i64 w[l.U7].fin.line,.int .i64 w[l.U7].fin.col,.int .i64 w[l.U7].til] 158 (0,0)):=by
    rw[D,ah (ah (ah (ah (ah (ah (ah (ah af _ _) _ _) _ _) _ _) _ _) _ _) _ _)];rfl
   rw[<-D];clear D x0 x1 u0 u1 p0 q0 q1 q2 q3 q4 q5 q6 q7 qf ag af;have m0:X.cell? ⟨W.heap.size,0,none⟩=some (.int .i64 w[l.U7].kind):=by rw[aa j];rfl
   have m1:X.cell? ⟨W.heap.size,1,none⟩=some (.string w[l.U7].label):=by rw[aa j];rfl
   have m2:X.cell? ⟨W.heap.size,2,none⟩=some (.slice (T (10+2*l.U7)).ao w[l.U7].U6.length (T (10+2*l.U7)).cap):=by rw[aa j];rfl
   have m3:X.cell? ⟨W.heap.size,3,none⟩=some (.slice (T (11+2*l.U7)).ao w[l.U7].Vh.length (T (11+2*l.U7)).cap):=by rw[aa j];rfl
   have m4:X.cell? ⟨W.heap.size,4,none⟩=some (.string w[l.U7].fin.file):=by rw[aa j];rfl
   have m5:X.cell? ⟨W.heap.size,5,none⟩=some (.int .i64 w[l.U7].fin.line):=by rw[aa j];rfl
   have m6:X.cell? ⟨W.heap.size,6,none⟩=some (.int .i64 w[l.U7].fin.col):=by rw[aa j];rfl
   have m7:X.cell? ⟨W.heap.size,7,none⟩=some (.int .i64 w[l.U7].til):=by rw[aa j];rfl
   have PX:=r.Vb I;have an:=ae j;obtain⟨x0,x1⟩:=Y.out X I;have g:=hI (z9 w l.U7 o)
   cases p:qP w[l.U7].kind
   ·have h:Hid (ju w x y (n.map Ex.xs) (H.map Ex.xs) l=((0,w[l.U7].U6),H.map Ex.xs)):=by show _=_;rw[K.out,g.out,p];rfl
    clear K g
    go_upto_region 8 with (go_at_call 160;refine(dc w[l.U7].kind _ _ _ _ _ _ _ _).mono ?_;rintro e J ⟨rfl,u⟩;have L:=u.get j (by simp))
    have ax:J.cell? ⟨W.heap.size,2,none⟩=some (.slice (T (10+2*l.U7)).ao w[l.U7].U6.length (T (10+2*l.U7)).cap):=by rw[aa L];rfl
    have G:=E.recd.Vn.syms l.U7 w[l.U7] (QP o);have kk:=(I.trans u);have t:=r.Vb kk;clear m0 m1 m2 m3 m4 m5 m6 m7;go_wp2
    exact QY (v:=.tuple #[.slice (T (10+2*l.U7)).ao w[l.U7].U6.length (T (10+2*l.U7)).cap,.int .i64 0]) (by simp[results,results239,go_sem]) rfl
     ⟨H,⟨T (10+2*l.U7),w[l.U7].U6⟩,by rw[h.out],by rw[h.out],t,⟨G.view.Vb t.kept,fun ap O=>⟨QX (G.lt O) t.kept.size,by have:=G.lt O;have:=P.hb;omega,fun z6=>by have:=P.hin ap z6;have:=G.lt O;omega⟩⟩,fun _=>by rw[h.out],QR _⟩
   ·have h:Hid (ju w x y (n.map Ex.xs) (H.map Ex.xs) l=(iV w l.U7 x y (H.map Ex.xs),(H.map Ex.xs).take (H.length-(aK w l.U7).length))):=by show _=_;rw[K.out,g.out,p];rfl
    have N:sM w l.U7=true:=by rw[g.out,p]
    clear K g
    go_upto_region 7 with (go_at_call 160;refine(dc w[l.U7].kind _ _ _ _ _ _ _ _).mono ?_;rintro e J ⟨rfl,u⟩)
    obtain⟨y0,y1⟩:=Y.out J (I.trans u);have t:=PX.Vb u;clear m0 m1 m2 m3 m4 m5 m6 m7;go_wp2_with fail;refine(yh z7 J a v d S b l.U7 w T y5 x y y9 z6 n H f E t o N ac).mono ?_;rintro e w6 ⟨M,m,rfl,A,P6,F6,Q,V⟩;have U:=hI A;clear A;go_wp2
    exact QY (v:=.tuple #[.slice m.hd.ao m.xs.length m.hd.cap,.int .i64 (iV w l.U7 x y (H.map Ex.xs)).1]) (by simp[results,results239,go_sem]) rfl
     ⟨M,m,by rw[h.out],by rw[h.out];exact U.out,P6,F6,fun hh=>by rw[h.out]at hh ⊢;rw[Q hh,UL],V⟩
 ·have a5:decide ((l.U7:Int)<0)=false:=by simp
  by_cases s:l.U7<n.length
  ·have h:Hid (ju w x y (n.map Ex.xs) (H.map Ex.xs) l=((0,n[l.U7].xs),H.map Ex.xs)):=by
    show _=_
    unfold ju;rw[hk,QW rfl,Ri,QW s,QQ];simp[s]
   have al:decide ((l.U7:Int) ≥ n.length)=false:=by simp;omega
   have a0:(l.U7:Int)<n.length:=by omega
   have oS:aw W (f 0) (gn n):=r.ply.bag.own 0
   rcases oS.Vm with ⟨_,h0,_⟩ | ⟨gs,az,es,-,ar,-⟩
   ·have:n.length=0:=h0
    omega
   have cs:=oS.cell es l.U7 (v6 n[l.U7]) (sB n l.U7 s);have a7:n.length<=(f 0).cap:=ar;have Z:=(r.ply.shs n[l.U7] (Rb s)).1;rw[es]at p3;unfold v6 at cs;generalize n[l.U7]=z at *;clear p0 p1 p2 p4 oS es;go_enter func239,ntmps239
   go_upto_region 1 with fail
   rw[HW.out]
   go_upto_region 2 with fail
   go_quiet (fail)
   go_upto_region 4 with fail
   go_quiet (fail)
   go_wp2
   exact QY (v:=.tuple #[.slice z.hd.ao z.xs.length z.hd.cap,.int .i64 0]) (by simp[results,results239,go_sem]) rfl
    ⟨H,z,by rw[h.out],by rw[h.out],r.Vb (((ab.refl [] _).drewN _).drewN _),Z.Vb (((ab.refl [] _).drewN _).drewN _),fun _=>by rw[h.out],QR _⟩
  ·have h:Hid (ju w x y (n.map Ex.xs) (H.map Ex.xs) l=((5,[]),H.map Ex.xs)):=by
    show _=_
    unfold ju;rw[hk,QW rfl,Ri,QT s]
   have al:decide ((l.U7:Int) ≥ n.length)=true:=by simp;omega
   clear p0 p1 p2 p4;go_enter func239,ntmps239
   go_upto_region 1 with fail
   rw[HW.out]
   go_upto_region 2 with fail
   go_quiet (fail)
   go_wp2
   exact QY (v:=.tuple #[.slice none 0 0,.int .i64 5]) (by simp[results,results239,go_sem]) rfl
    ⟨H,⟨⟨none,0⟩,[]⟩,by rw[h.out];rfl,by rw[h.out],r.Vb ((ab.refl [] _).drewN _),sC _ _ _,by rw[h.out];simp,QR _⟩
def nh(l:List St)(vs:List ByteArray)(ms:List Bool)(S:List (List ByteArray)×List (List ByteArray))(s:nF):Int×List (List ByteArray)×List (List ByteArray) :=
 if((ju l vs ms S.1 S.2 s).1.1==0)=true then
  (if(ju l vs ms S.1 S.2 s).1.2.length<=32 then(0,S.1++[(ju l vs ms S.1 S.2 s).1.2],(ju l vs ms S.1 S.2 s).2++[(ju l vs ms S.1 S.2 s).1.2]) else(10,S))
 else((ju l vs ms S.1 S.2 s).1.1,S)
theorem l9.turned{a b:List Ex}(h:l9 L y2 I z4 zb zt y6 ya z5 yd N)(t:aA I y2 N yu yg)(d:a8 yu I 307 (id z4 zb zt y6 ya a b yg) (pn a b) yg)(g:∀e∈a,rd y2 I N e.hd e.xs/\e.xs.length<=32)(f:∀e∈b,rd y2 I N e.hd e.xs/\e.xs.length<=32):l9 L yu I z4 zb zt y6 ya a b yg:=by
 refine⟨⟨d,fun e c=>⟨(g e c).1.turned t,(g e c).2⟩,fun e c=>⟨(f e c).1.turned t,(f e c).2⟩⟩,h.kept.ofP t.1 ?_,h.hb,fun x i=>?_⟩
 ·rintro x (e | e)
  ·have:=h.hb;omega
  ·exact h.hin x e
 ·rcases t.2 x i with e | e
  ·exact h.hin x e
  ·exact Q3 h.kept.size e
theorem LT(E:DB z7 v d S b w T y5 x y y9 z6)(P:l9 z7 i a v d S w.length b n H f)(hn:(l.kind==3)=false->l.U7<w.length)(an:l.U7<=2000000)(ap:H.length<=2000000)(a2:n.length<=2000000) :
  Calls prog 210 #[.pointer (some ⟨a,0,none⟩),.agg #[.int .i64 l.kind,.int .i64 l.U7,.string l.at_.file,.int .i64 l.at_.line,.int .i64 l.at_.col]] i fun e w'=>∃(G L:List Ex) (H':Nat->Hd),
   e=.returned (.int .i64 (nh w x y (n.map Ex.xs,H.map Ex.xs) l).1)/\l9 z7 w' a v d S w.length b G L H' /\
   (((nh w x y (n.map Ex.xs,H.map Ex.xs) l).1==0)=true->(G.map Ex.xs,L.map Ex.xs)=(nh w x y (n.map Ex.xs,H.map Ex.xs) l).2)/\L.length<=H.length+1/\G.length<=n.length+1:=by
 obtain⟨i1,U,ac,ad,ai⟩:=Re Lu;obtain⟨W,hW⟩:∃W,W=i.alloc (.cells #[.int .i64 l.kind,.int .i64 l.U7,.string l.at_.file,.int .i64 l.at_.line,.int .i64 l.at_.col] 174):=⟨_,rfl⟩
 have kW:ab [] i W:=by rw[hW];exact(ab.refl [] _).alloc _
 have B:W.heap[i.heap.size]?=some (.cells #[.int .i64 l.kind,.int .i64 l.U7,.string l.at_.file,.int .i64 l.at_.line,.int .i64 l.at_.col] 174 (0,0)):=by rw[hW];exact QS _ _
 have HW:=hI hW.symm;have u0:W.cell? ⟨i.heap.size,0,none⟩=some (.int .i64 l.kind):=by rw[aa B];rfl
 have u1:W.cell? ⟨i.heap.size,1,none⟩=some (.int .i64 l.U7):=by rw[aa B];rfl
 have u2:W.cell? ⟨i.heap.size,2,none⟩=some (.string l.at_.file):=by rw[aa B];rfl
 have u3:W.cell? ⟨i.heap.size,3,none⟩=some (.int .i64 l.at_.line):=by rw[aa B];rfl
 have u4:W.cell? ⟨i.heap.size,4,none⟩=some (.int .i64 l.at_.col):=by rw[aa B];rfl
 have PW:=P.Vb kW;have O:=Mt z7 W a v d S b l w T y5 x y y9 z6 n H f E PW hn an ap
 have af:Hid (∀q,ju w x y (n.map Ex.xs) (H.map Ex.xs) l=q->nh w x y (n.map Ex.xs,H.map Ex.xs) l=if(q.1.1==0)=true then(if q.1.2.length<=32 then(0,n.map Ex.xs++[q.1.2],q.2++[q.1.2]) else(10,n.map Ex.xs,H.map Ex.xs)) else(q.1.1,n.map Ex.xs,H.map Ex.xs)):=by
  intro q z;subst z;rfl
 have r:=hI (af.out _ rfl);generalize ju w x y (n.map Ex.xs) (H.map Ex.xs) l=Q at *;obtain⟨⟨q,xs⟩,t2⟩:=Q;simp only at O r;clear hW af B;go_enter func210,ntmps210
 go_upto_region 1 with fail
 rw[HW.out];go_wp2_with fail;refine O.mono ?_;rintro e w2 ⟨g,c,rfl,aS,K,F2,Y,a0⟩;subst aS
 cases z:(q==0)
 ·have ax:(q != 0)=true:=by simp[bne,z]
  have F:Hid (nh w x y (n.map Ex.xs,H.map Ex.xs) l=(q,n.map Ex.xs,H.map Ex.xs)):=by show _=_;rw[r.out,z];rfl
  clear r O u0 u1 u2 u3 u4;go_wp2;go_ret;exact⟨n,g,f,QN (by rw[F.out]),K,fun hh=>by rw[F.out]at hh;exact absurd (z.symm.trans hh) (by simp),by omega,by omega⟩
 ·have ax:(q != 0)=false:=by simp[bne,z]
  by_cases t:c.xs.length<=32
  ·have al:¬((c.xs.length:Int) > 32):=by omega
   have F:Hid (nh w x y (n.map Ex.xs,H.map Ex.xs) l=(0,n.map Ex.xs++[c.xs],t2++[c.xs])):=by show _=_;rw[r.out,z,QW rfl,QW t]
   have az:=hI (Y z);clear r O u0 u1 u2 u3 u4 Y
   go_upto_region 6 with fail
   have D2:=K.ply.bag;have p3:=K.ply.cells.1;have y3:=D2.free;have aT:=D2.lt;have J:=D2.Vb ((ab.refl [] w2).alloc (.cells #[.slice c.hd.ao c.xs.length c.hd.cap] 61))
   have ar:Hid (∀j,j≠0->pn (n++[c]) g j=pn n g j):=by
    intro j p
    match j,p with
    | 0,p=>exact absurd rfl p
    | 1,_=>rfl
    | m+2,_=>rfl
   have R:Hid (∀j,j≠1->pn (n++[c]) (g++[c]) j=pn (n++[c]) g j):=by
    intro j p
    match j,p with
    | 0,_=>rfl
    | 1,p=>exact absurd rfl p
    | m+2,_=>rfl
   go_wp2_with (at_builtin;refine aM _ rfl (.tmp 23) (.tmp 25) 218 rfl i1 (.slice none 0 0) 24 (f 0) (gn n) underlying218 U ac ad ai rfl Rc rfl (by exact J.own 0) ⟨_,0,none⟩ 1 1 [.slice c.hd.ao c.xs.length c.hd.cap] rfl rfl ?e1 ?e2 Rc ?e3 ?e4 ?_)
   case e1=>intro j u p;match j,p with | 0,p=>simp at p;subst p;simp[Addr.add]
   case e2=>intro u hu;simp at hu;subst hu;rfl
   case e3=>simp only[gn];unfold maxLen;omega
   case e4=>simp only[gn];omega
   intro M h w4 V D k;obtain⟨k4,f4,I⟩:=J.app (cs':=id v d S w.length b (n++[c]) g (g9 f 0 ⟨some ⟨M,0,none⟩,h⟩)) (rows':=pn (n++[c]) g) 3 0 M h ((gn n).n+1) _ V (ug n c) D (by simpa using k) ar.out (.slice (f 0).ao n.length (f 0).cap) rfl (by simp[id,g9,gn]);clear V D k J p3 y3
   go_upto_region 7 with fail
   generalize hX:w4.setCell ⟨a,3,none⟩ (.slice (some ⟨M,0,none⟩) ((gn n).n+1) h)=X at I ⊢;have DX:=I.out.1;have TX:=hI (I.out.2.first ((ab.refl [] _).alloc _));have p4:=DX.cell 4;simp only[id,List.getElem?_cons_succ,List.getElem?_cons_zero]at p4;have y4:=DX.free;have a1:=DX.lt;have N:=DX.Vb ((ab.refl [] X).alloc (.cells #[.slice c.hd.ao c.xs.length c.hd.cap] 61));clear hX k4 f4;go_wp2_with (at_builtin;refine aM _ rfl (.tmp 33) (.tmp 35) 218 rfl i1 (.slice none 0 0) 24 (g9 f 0 ⟨some ⟨M,0,none⟩,h⟩ 1) (gn g) underlying218 U ac ad ai rfl Rc rfl (by exact N.own 1) ⟨_,0,none⟩ 1 1 [.slice c.hd.ao c.xs.length c.hd.cap] rfl rfl ?e1 ?e2 Rc ?e3 ?e4 ?_)
   case e1=>intro j u p;match j,p with | 0,p=>simp at p;subst p;simp[Addr.add]
   case e2=>intro u hu;simp at hu;subst hu;rfl
   case e3=>simp only[gn];unfold maxLen;omega
   case e4=>simp only[gn];omega
   intro g6 A w6 ag C o;obtain⟨k6,f6,Z⟩:=N.app (cs':=id v d S w.length b (n++[c]) (g++[c]) (g9 (g9 f 0 ⟨some ⟨M,0,none⟩,h⟩) 1 ⟨some ⟨g6,0,none⟩,A⟩)) (rows':=pn (n++[c]) (g++[c])) 4 1 g6 A ((gn g).n+1) _ ag (ug g c) C (by simpa using o) R.out (.slice (g9 f 0 ⟨some ⟨M,0,none⟩,h⟩ 1).ao g.length (g9 f 0 ⟨some ⟨M,0,none⟩,h⟩ 1).cap) rfl (by simp[id,g9,gn]);have T6:=hI (aA.trans TX.out (Z.out.2.first ((ab.refl [] _).alloc _)));clear ag C o N p4 y4;go_wp2;go_ret;refine⟨n++[c],g++[c],_,QN (by rw[F.out]),K.turned T6.out Z.out.1 (fun e s=>?_) (fun e s=>?_),fun _=>by rw[F.out];simp[az.out],by simp;omega,by simp⟩
   ·rw[Rr]at s
    rcases s with s | s
    ·exact K.ply.shs e s
    ·simp at s;subst s;exact⟨F2,t⟩
   ·rw[Rr]at s
    rcases s with s | s
    ·exact K.ply.ths e s
    ·simp at s;subst s;exact⟨F2,t⟩
  ·have al:(c.xs.length:Int) > 32:=by omega
   have F:Hid (nh w x y (n.map Ex.xs,H.map Ex.xs) l=(10,n.map Ex.xs,H.map Ex.xs)):=by show _=_;rw[r.out,z,QW rfl,QT t]
   clear r O u0 u1 u2 u3 u4;go_wp2;go_ret;exact⟨n,g,f,QN (by rw[F.out]),K,by rw[F.out];simp,by omega,by omega⟩
def OD(fin:Pl)(goal:List ByteArray)(th:List (List ByteArray)):pA :=
 match th with
 | []=>(12,fin)
 | [x]=>if Dv x goal=true then cY else(12,fin)
 | _ :: _ :: _=>(11,fin)
def oK(l:List St)(vs:List ByteArray)(ms:List Bool)(fin:Pl)(goal:List ByteArray):List nF->List (List ByteArray)×List (List ByteArray)->pA
 | [],S=>OD fin goal S.2
 | s :: r,S=>if((nh l vs ms S s).1==0)=true then oK l vs ms fin goal r (nh l vs ms S s).2 else((nh l vs ms S s).1,s.at_)
def gJ(l:List St)(a:Nat)(s:St)(steps:List nF):pA:=oK l (yi l a) (fN l a (yi l a)) s.fin s.U6 steps ([],[])
theorem EV(a:o<D.length) :
  oK w x y yv yy (D.drop o) ys=if((nh w x y ys D[o]).1==0)=true then oK w x y yv yy (D.drop (o+1)) (nh w x y ys D[o]).2 else((nh w x y ys D[o]).1,D[o].at_):=by
 rw[Rf a];rfl
theorem CD(a:¬o<D.length) :
  oK w x y yv yy (D.drop o) ys=OD yv yy ys.2:=by
 rw[R8 (by omega)];rfl
theorem JU(l:List nF)(k:Nat)(a:k<l.length)(j:Nat)(d:j<5):(xi l)[k*5+j]?=(lh l[k])[j]?:=by
 induction l generalizing k with
 | nil=>simp at a
 | cons s r c =>
  have e:xi (s :: r)=lh s++xi r:=rfl;rw[e]
  cases k with
  | zero=>rw[Q7 (by simp[lh];omega)];simp
  | succ k =>
   rw[Q5 (by simp[lh];omega)];have b:(k+1)*5+j-(lh s).length=k*5+j:=by simp[lh];omega
   rw[b,c k (by simpa using a)];rfl
theorem aw.step{l:List nF}(o:aw L y8 (go l))(k:Nat)(e:k<l.length) :
  ∃g,y8.ao=some ⟨g,0,none⟩/\l.length<=y8.cap/\y8.cap<=9223372036854775807/\L.cell? ⟨g,k*5,none⟩=some (.int .i64 l[k].kind)/\L.cell? ⟨g,k*5+1,none⟩=some (.int .i64 l[k].U7)/\L.cell? ⟨g,k*5+2,none⟩=some (.string l[k].at_.file)/\L.cell? ⟨g,k*5+3,none⟩=some (.int .i64 l[k].at_.line)/\L.cell? ⟨g,k*5+4,none⟩=some (.int .i64 l[k].at_.col):=by
 rcases o.Vm with ⟨_,i,_⟩ | ⟨g,d,a,n,h,b,-⟩
 ·have:l.length=0:=i
  omega
 ·have c:=fun j (f:j<5) v (m:(lh l[k])[j]?=some v)=>o.cell a (k*5+j) v ((JU l k e j f).trans m)
  exact⟨g,a,h,by unfold maxLen at b;exact b,c 0 (by omega) _ rfl,c 1 (by omega) _ rfl,c 2 (by omega) _ rfl,c 3 (by omega) _ rfl,c 4 (by omega) _ rfl⟩
structure FS(l:List St)(steps:List nF):Prop where
 len:steps.length<=1100000
 num:∀s∈steps,s.U7<=2000000
 named:∀s∈steps,(s.kind==3)=false->s.U7<l.length
theorem Kp(hr:dF M v d w T)(ok:iH w)(ha:b<w.length)(ac:gW M S w w.length y5)(hO:aw M y7 (go D))(I:FS w D) :
  Calls prog 162 #[.pointer (some ⟨v,d,none⟩),.int .i64 b,.slice (some ⟨S,0,none⟩) w.length w.length,.slice y7.ao D.length y7.cap] M fun e a =>
   e=.returned (gU (gJ w b w[b] D))/\ab [] M a:=by
 have bd:=hr.lt;have a7:=ok.len;have bf:=I.len;have bp:=ok.syms b ha;obtain⟨AO,an⟩:∃AO,Hid (y7.ao=AO):=⟨_,rfl⟩
 rw[an.out];obtain⟨W,hW⟩:∃W,W=M.alloc (.cells #[.int .i64 0,.string ⟨#[]⟩,.int .i64 0,.int .i64 0] 165):=⟨_,rfl⟩
 have kW:ab [] M W:=by rw[hW];exact(ab.refl [] _).alloc _
 have BF:W.heap[M.heap.size]?=some (.cells bA 165 (0,0)):=by rw[hW];exact QS _ _
 have HW:=hI hW.symm;have bl:(yi w b).length<=w.length:=Bd w b w.length;clear hW;go_enter func162,ntmps162
 go_upto_region 1 with fail
 rw[HW.out]
 go_upto_region 2 with (go_at_call 208;refine(qF v d b w T _ (by exact hr.Vb kW) ok).mono ?_;rintro e w2 ⟨aT,rfl,a4,bk,k2⟩)
 have K2:=kW.trans k2;go_wp2_with (go_at_call 209;refine(DH v d b w T aT (yi w b) _ (by exact hr.Vb K2) ok (by exact a4) (by omega)).mono ?_;rintro e r ⟨tb,hv,hm,rfl,A3,be,bj,k3⟩);have K3:=K2.trans k3;have R:=(k2.trans k3).get BF (by simp);have E:DB r v d S tb w T y5 (yi w b) (fN w b (yi w b)) hv hm:=⟨hr.Vb K3,ok,ac.Vb K3,A3,ko _ _ _ _,by omega⟩;have u:aw r y7 (go D):=hO.Vg (fun x N=>K3.block x (hO.lt N) (by simp))
 have P4:l9 r (r.alloc (.cells #[.pointer (some ⟨v,d,none⟩),.slice (some ⟨S,0,none⟩) w.length w.length,.pointer (some ⟨tb,0,none⟩),.slice none 0 0,.slice none 0 0] 307)) r.heap.size v d S w.length tb [] [] mE:=by
  refine⟨⟨⟨QS _ _,?_,fun i j _=>Q1 rfl,fun i e=>by simp[mE,Hd.blk]at e⟩,by simp,by simp⟩,(ab.refl [] _).alloc _,QR _,fun x N=>by obtain⟨i,hi⟩:=N;simp[mE,Hd.blk]at hi⟩;intro i
  match i with
  | 0=>exact QZ _ _ _ _
  | 1=>exact QZ _ _ _ _
  | m+2=>exact QZ _ _ _ _
 have bx:=ae R
 go_loopg [11] D.length (fun gk iv wr=>∃(i:Nat) (G h:List Ex) (H:Nat->Hd),i<=D.length/\gk=D.length-i/\iv=.int .i64 i/\G.length<=i/\h.length<=i/\Hid (gJ w b w[b] D=oK w (yi w b) (fN w b (yi w b)) w[b].fin w[b].U6 (D.drop i) (G.map Ex.xs,h.map Ex.xs))/\l9 r wr r.heap.size v d S w.length tb G h H)
 case atStart=>exact⟨0,[],[],mE,by omega,by omega,rfl,by simp,by simp,rfl,P4⟩
 case round =>
  obtain⟨i,G,h,H,hi,hg,rfl,bs,bo,hR,P⟩:=hrel;clear P4;have B:=P.kept.get R (by simp);obtain⟨n,g,o,l⟩:=da B;have C:=am B;have KW:=K3.trans P.kept;have ax:=hI (fun a0 a1 a2 a3=>kH (F:=M.heap.size) KW (QR _) a0 a1 a2 a3)
  by_cases f:i<D.length
  ·have J:aw wr y7 (go D):=u.Vg (fun x N=>P.kept.block x (u.lt N) (by simp))
   obtain⟨gp,ep,a5,ar,d0,d1,d2,d3,d4⟩:=J.step i f;obtain rfl:AO=some ⟨gp,0,none⟩:=an.out.symm.trans ep;have bw:gp<wr.heap.size:=J.lt (by unfold Hd.blk;rw[ep];rfl);have h1:=I.num D[i] (Rb f);have h2:=I.named D[i] (Rb f);have p:=hI (hR.out.trans (EV w (yi w b) (fN w b (yi w b)) w[b].fin w[b].U6 D (G.map Ex.xs,h.map Ex.xs) i f));have PA:=LT r wr r.heap.size v d S tb D[i] w T y5 (yi w b) (fN w b (yi w b)) hv hm G h H E P h2 h1 (by omega) (by omega)
   have ai:Hid (∀a,ab [] r a->a.cell? ⟨gp,i*5+2,none⟩=some (.string D[i].at_.file)/\a.cell? ⟨gp,i*5+3,none⟩=some (.int .i64 D[i].at_.line)/\a.cell? ⟨gp,i*5+4,none⟩=some (.int .i64 D[i].at_.col)):=by
    intro a k;obtain⟨bc,ap,-,-,-,-,q2,q3,q4⟩:=(u.Vg (w':=a) (fun x N=>k.block x (u.lt N) (by simp))).step i f;rw[ep]at ap
    cases ap
    exact⟨q2,q3,q4⟩
   clear hR ep J;generalize D[i]=st at *;obtain⟨sk,sn,K,L,U⟩:=st;simp only at d0 d1 d2 d3 d4 PA ai p;generalize nh w (yi w b) (fN w b (yi w b)) (G.map Ex.xs,h.map Ex.xs) ⟨sk,sn,⟨K,L,U⟩⟩=Q at *;obtain⟨q,Q2⟩:=Q;simp only at PA p
   cases hq:(q==0)
   ·have aS:(q != 0)=true:=by simp[bne,hq]
    have s:Hid (gJ w b w[b] D=(q,⟨K,L,U⟩)):=by show _=_;rw[p.out,QT (by rw[hq];simp)]
    clear p
    go_upto_region 8 with (go_at_call 210;refine PA.mono ?_;rintro e c ⟨al,ad,H5,rfl,P5,ag,-,-⟩)
    obtain⟨c2,c3,c4⟩:=ai.out c P5.kept;have V:=P5.kept.get R (by simp);clear n g o l C d0 d1 d2 d3 d4 ax;obtain⟨n,g,o,l⟩:=da V;have C:=am V;have K5:=K3.trans P5.kept;go_wp2
    exact QY (v:=.agg #[.int .i64 q,.string K,.int .i64 L,.int .i64 U]) (by simp[results,results162,go_sem,n,g,o,l]) rfl
     ⟨by rw[s.out];rfl,kH (F:=M.heap.size) K5 (QR _) _ _ _ _⟩
   ·have aS:(q != 0)=false:=by simp[bne,hq]
    have s:Hid (gJ w b w[b] D=oK w (yi w b) (fN w b (yi w b)) w[b].fin w[b].U6 (D.drop (i+1)) Q2):=by show _=_;rw[p.out,QW hq]
    clear p;go_wp2_with (go_at_call 210;refine PA.mono ?_;rintro e c ⟨al,ad,H5,rfl,P5,ag,bv,bz⟩)
    go_roundg (D.length-(i+1))
    case measure=>omega
    case rel=>exact⟨i+1,al,ad,H5,by omega,rfl,by go_num,by omega,by omega,by show _=_;rw[ag hq];exact s.out,P5⟩
  ·have HE:=hI (hR.out.trans (CD w (yi w b) (fN w b (yi w b)) w[b].fin w[b].U6 D (G.map Ex.xs,h.map Ex.xs) i f))
   have Er:=E.Vb P.kept;clear hR
   go_upto_region 10 with (go_at_call 97;refine(a9 v d b w T _ (by exact Er.recd) ha).mono ?_;rintro e c ⟨rfl,k5⟩;unfold ee)
   obtain⟨X,hX⟩:∃X,X=c.alloc (.cells #[.int .i64 w[b].kind,.string w[b].label,.slice (T (10+2*b)).ao w[b].U6.length (T (10+2*b)).cap,.slice (T (11+2*b)).ao w[b].Vh.length (T (11+2*b)).cap,.string w[b].fin.file,.int .i64 w[b].fin.line,.int .i64 w[b].fin.col,.int .i64 w[b].til] 158):=⟨_,rfl⟩
   have kX:ab [] wr X:=by rw[hX];exact k5.alloc _
   have Z:X.heap[c.heap.size]?=some (.cells #[.int .i64 w[b].kind,.string w[b].label,.slice (T (10+2*b)).ao w[b].U6.length (T (10+2*b)).cap,.slice (T (11+2*b)).ao w[b].Vh.length (T (11+2*b)).cap,.string w[b].fin.file,.int .i64 w[b].fin.line,.int .i64 w[b].fin.col,.int .i64 w[b].til] 158 (0,0)):=by rw[hX];exact QS _ _
   rw[<-hX];have PX:=P.Vb kX;have V:=kX.get B (by simp);clear hX n g o l C;obtain⟨n,g,o,l⟩:=da V;have C:=am V;have KX:=KW.trans kX;have m2:X.cell? ⟨c.heap.size,2,none⟩=some (.slice (T (10+2*b)).ao w[b].U6.length (T (10+2*b)).cap):=by rw[aa Z];rfl
   have m4:X.cell? ⟨c.heap.size,4,none⟩=some (.string w[b].fin.file):=by rw[aa Z];rfl
   have m5:X.cell? ⟨c.heap.size,5,none⟩=some (.int .i64 w[b].fin.line):=by rw[aa Z];rfl
   have m6:X.cell? ⟨c.heap.size,6,none⟩=some (.int .i64 w[b].fin.col):=by rw[aa Z];rfl
   have p4:=PX.ply.cells.2;have br:=PX.ply.bag.lt
   rcases h with _ | ⟨x,h⟩
   ·have s:Hid (gJ w b w[b] D=(12,w[b].fin)):=HE.out
    simp only[List.length_nil]at p4;clear HE
    go_upto_region 12 with fail
    go_quiet (fail)
    go_wp2
    exact QY (v:=.agg #[.int .i64 12,.string w[b].fin.file,.int .i64 w[b].fin.line,.int .i64 w[b].fin.col]) (by simp[results,results162,go_sem,n,g,o,l]) rfl
     ⟨by rw[s.out];rfl,kH (F:=M.heap.size) (KX.drewN _) (QR _) _ _ _ _⟩
   ·rcases h with _ | ⟨y,h⟩
    ·have hE:gJ w b w[b] D=if Dv x.xs w[b].U6=true then cY else(12,w[b].fin):=HE.out
     have A:=hI hE;have oT:aw X (H 1) (gn [x]):=PX.ply.bag.own 1
     rcases oT.Vm with ⟨_,h0,_⟩ | ⟨gt,a6,et,-,az,-⟩
     ·simp[gn]at h0
     have ct:=oT.cell et 0 (v6 x) rfl;unfold v6 at ct;rw[et]at p4;simp only[List.length_cons,List.length_nil]at p4;have ba:1<=(H 1).cap:=az;have af:=(PX.ply.ths x (by simp));have z:=hI (fun(a:World) (k:ab [] X a)=>yo x.hd (T (10+2*b)) x.xs w[b].U6 a (af.1.view.Vb k) (((Er.Vb (kX.trans k)).recd.Vn.syms b w[b] (QP ha)).view) (by omega) (by omega))
     have HC:Hid (∀a,ab [] X a->a.cell? ⟨r.heap.size,4,none⟩=some (.slice (some ⟨gt,0,none⟩) 1 (H 1).cap)/\a.cell? ⟨gt,0,none⟩=some (.slice x.hd.ao x.xs.length x.hd.cap)/\a.cell? ⟨c.heap.size,2,none⟩=some (.slice (T (10+2*b)).ao w[b].U6.length (T (10+2*b)).cap)):=by
      intro a k;refine⟨?_,((PX.Vb k).ply.bag.own 1).cell et 0 (v6 x) rfl,?_⟩
      ·rw[<-et];exact(PX.Vb k).ply.cells.2
      ·rw[aa (k.get Z (by simp))];rfl
     clear hE HE et oT
     go_upto_region 12 with fail
     cases t:Dv x.xs w[b].U6
     ·have s:Hid (gJ w b w[b] D=(12,w[b].fin)):=by show _=_;rw[A.out,t];rfl
      rw[t]at z;clear A
      go_region_held3 (fun a=>a.cell? ⟨r.heap.size,4,none⟩=some (.slice (some ⟨gt,0,none⟩) 1 (H 1).cap)/\a.cell? ⟨gt,0,none⟩=some (.slice x.hd.ao x.xs.length x.hd.cap)/\a.cell? ⟨c.heap.size,2,none⟩=some (.slice (T (10+2*b)).ao w[b].U6.length (T (10+2*b)).cap)) (go_keep) (first | (go_at_call 211;refine(z.out _ (by exact(ab.refl [] X).drew)).mono ?_;rintro e Y ⟨rfl,k6⟩;obtain⟨x0,x1,x2⟩:=HC.out Y ((ab.refl [] X).drew.trans k6)))
      all_goals
       have kk:=((ab.refl [] X).drew.trans k6);have O:=kk.get Z (by simp);have B6:=kk.get V (by simp);clear n g o l C m2 m4 m5 m6 p4 ct;obtain⟨n,g,o,l⟩:=da B6;have C:=am B6;have m4:Y.cell? ⟨c.heap.size,4,none⟩=some (.string w[b].fin.file):=by rw[aa O];rfl
       have m5:Y.cell? ⟨c.heap.size,5,none⟩=some (.int .i64 w[b].fin.line):=by rw[aa O];rfl
       have m6:Y.cell? ⟨c.heap.size,6,none⟩=some (.int .i64 w[b].fin.col):=by rw[aa O];rfl
       go_wp2;exact QY (v:=.agg #[.int .i64 12,.string w[b].fin.file,.int .i64 w[b].fin.line,.int .i64 w[b].fin.col]) (by simp[results,results162,go_sem,n,g,o,l]) rfl ⟨by rw[s.out];rfl,kH (F:=M.heap.size) (KX.trans kk) (QR _) _ _ _ _⟩
     ·have s:Hid (gJ w b w[b] D=cY):=by show _=_;rw[A.out,t];rfl
      rw[t]at z;clear A
      go_region_held3 (fun a=>a.cell? ⟨r.heap.size,4,none⟩=some (.slice (some ⟨gt,0,none⟩) 1 (H 1).cap)/\a.cell? ⟨gt,0,none⟩=some (.slice x.hd.ao x.xs.length x.hd.cap)/\a.cell? ⟨c.heap.size,2,none⟩=some (.slice (T (10+2*b)).ao w[b].U6.length (T (10+2*b)).cap)) (go_keep) (first | (go_at_call 211;refine(z.out _ (by exact(ab.refl [] X).drew)).mono ?_;rintro e Y ⟨rfl,k6⟩;obtain⟨x0,x1,x2⟩:=HC.out Y ((ab.refl [] X).drew.trans k6)))
      all_goals
       have kk:=((ab.refl [] X).drew.trans k6);have B6:=kk.get V (by simp);clear n g o l C m2 m4 m5 m6 p4 ct;obtain⟨n,g,o,l⟩:=da B6;have C:=am B6;go_wp2;exact QY (v:=.agg #[.int .i64 0,.string ⟨#[]⟩,.int .i64 0,.int .i64 0]) (by simp[results,results162,go_sem,n,g,o,l]) rfl ⟨by rw[s.out];rfl,kH (F:=M.heap.size) (KX.trans kk) (QR _) _ _ _ _⟩
    ·have s:Hid (gJ w b w[b] D=(11,w[b].fin)):=HE.out
     have bg:((h.length:Int)+1+1 > 1):=by omega
     simp only[List.length_cons]at p4;clear HE;go_wp2
     exact QY (v:=.agg #[.int .i64 11,.string w[b].fin.file,.int .i64 w[b].fin.line,.int .i64 w[b].fin.col]) (by simp[results,results162,go_sem,n,g,o,l]) rfl
      ⟨by rw[s.out];rfl,kH (F:=M.heap.size) KX (QR _) _ _ _ _⟩
end Go.Proofs.YtpddjjabfbfifaaGreat
