import Derived.Test.YtpddjjabfbfifaaGreatG07
namespace Go.Proofs.YtpddjjabfbfifaaGreat
open Go.RowKit Tryz
set_option maxRecDepth 100000
set_option maxHeartbeats 40000000
variable{L y2 yu:World}{I z4 zb zt y6 ya:Nat}{N yg:Nat->Hd}{yt:List St}{y8:Hd}{z5 yd:List Ex}{x4:List ByteArray}(z7 i:World)(k a v d S b:Nat)(l:nF)(w:List St)(T y5:Nat->Hd)(x:List ByteArray)(y:List Bool)(y9 z6:Hd)(yv:Pl)(yy:List ByteArray)(n:List Ex)(y7:Hd)(H:List Ex)(f:Nat->Hd)(D:List nF)(M:World)(ys:List (List ByteArray)×List (List ByteArray))(g o:Nat)(yf:List Nat)(yr:List (List ByteArray))
def jM(vs:List ByteArray)(bs:List (List ByteArray))(k n:Nat):List Nat:=if n<k then kO vs (bs.getD n []) else []
theorem iA.congr{F c:Nat->List Nat}(h:iA L I z4 F N)(e:∀n,n<z4->F n=c n):iA L I z4 c N:=by
 obtain⟨b,d,f,g⟩:=h.arr;exact⟨⟨b,d,f,fun n a=>by rw[<-e n a];exact g n a⟩,fun n a=>by rw[<-e n a];exact h.own n a,h.off⟩
theorem FG(Q:xE M k a v d S b)(h:kQ M b x y y9 z6)(ag:x.length<=10000)(A:aw M y7 (gn H))(ac:H.length<=10000)(r:∀e∈H,jT M e.hd e.xs/\e.xs.length<=10000) :
  Calls prog 276 #[.pointer (some ⟨k,0,none⟩),.slice y7.ao H.length y7.cap] M fun e G=>∃(N:Nat) (K:Nat->Hd),e=.returned (.slice (some ⟨N,0,none⟩) H.length H.length)/\iA G N H.length (jM x (H.map Ex.xs) H.length) K/\ab [] M G:=by
 obtain⟨i0,hi,q,p,z⟩:=Re Oz;have F:=fun M=>dB (P:=prog) M 181 26 i0 _ underlying181 hi q H.length 1 p (by rw[z];omega) (by omega)
 obtain⟨n,f⟩:∃n,n=madeCells (Value.slice none 0 0).cells (H.length*1):=⟨_,rfl⟩
 rw[<-f]at F
 have O:Hid (iA (M.alloc (.cells n 26)) M.heap.size H.length (jM x (H.map Ex.xs) 0) mE):=by
  refine⟨⟨n,QS _ _,by rw[f,Su];omega,?_⟩,?_,fun S _ e=>by simp[mE,Hd.blk]at e⟩
  ·intro S J
   have e:jM x (H.map Ex.xs) 0 S=[]:=by unfold jM;rw[QT (by omega)]
   rw[e,f];exact Ak _ _ _ (by omega)
  ·intro S J
   have e:jM x (H.map Ex.xs) 0 S=[]:=by unfold jM;rw[QT (by omega)]
   rw[e];exact QZ _ _ _ _
 clear f;go_enter func276,ntmps276;go_wp2
 go_loopg [6] H.length (fun gk i wr=>∃(c:Nat) (K:Nat->Hd),c<=H.length/\gk=H.length-c/\i=.int .i64 c/\iA wr M.heap.size H.length (jM x (H.map Ex.xs) c) K/\ab [] M wr)
 case atStart=>exact⟨0,mE,by omega,by omega,rfl,O.out,(ab.refl _ _).alloc _⟩
 case round =>
  obtain⟨c,K,hk,hg,rfl,s,l⟩:=hrel;clear O F
  by_cases g:c<H.length
  ·rcases A.Vm with ⟨_,h0,_⟩ | ⟨gb,L,B,-,C,-⟩
   ·have:H.length=0:=h0
    omega
   have m:aw wr y7 (gn H):=A.Vg (fun V hx=>l.block V (A.lt hx) (by simp));have Z:=m.cell B c (v6 H[c]) (sB H c g);have ad:H.length<=y7.cap:=C;obtain⟨o,ai⟩:=r H[c] (Rb g);have PO:=wC k a v d S b x y y9 z6 H[c].hd H[c].xs wr (Q.Vb l) (h.Vb l) (by omega) (o.Vb l) (by omega)
   have D:Hid (∀S,S<H.length->Fy (jM x (H.map Ex.xs) c) c (kO x H[c].xs) S=jM x (H.map Ex.xs) (c+1) S):=by
    intro S J;unfold Fy jM
    by_cases e:S=c
    ·subst e;simp[g]
    ·rw[QT e]
     by_cases I:S<c
     ·rw[QW I,QW (by omega)]
     ·rw[QT I,QT (by omega)]
   unfold v6 at Z;obtain⟨ao,W⟩:=y7;simp only at B;subst B;have af:=s.lt;clear m;generalize H[c]=Y at *;go_wp2_with fail;refine PO.mono ?_;rintro e w2 ⟨U,rfl,T,n2,E⟩;have j:=s.Vb E;have c2:=j.cell c g;have f2:=j.free;have X:=(show Hid _ from(j.store (k:=c) (kO x Y.xs) U T (fun e=>by have:=n2 _ e;omega)).congr D.out);have R:=l.size;have t:=(l.trans E);have u:Hid (∀w,ab [] M (w2.setCell ⟨M.heap.size,c,none⟩ w)):=fun w=>t.setCell (QV (QR _)) w
   go_wp2
   go_roundg (H.length-(c+1))
   case measure=>omega
   case rel=>exact⟨c+1,_,by omega,rfl,by go_num,X.out,u.out _⟩
  ·have e:c=H.length:=by omega
   subst e;go_wp2;go_ret;exact⟨_,K,rfl,s,l⟩
def qR(l:List St)(a:Nat)(S:List ByteArray×List (List ByteArray))(vs:List ByteArray)(ms:List Bool)(i j:Nat):Bool :=
 !(eD S.1.length (fN l a S.1) i j)||xH vs.length ms (kO vs (S.2.getD i [])) (kO vs (S.2.getD j []))
def Cf(l:List St)(a:Nat)(S:List ByteArray×List (List ByteArray))(vs:List ByteArray)(ms:List Bool):Bool :=
 decide (∀i,i<S.1.length->∀j,j<S.1.length->i<j->qR l a S vs ms i j=true)
theorem wB(l:List St)(HR:Nat->Hd)(f:List ByteArray)(r:List Bool)(hv hm:Hd)(m:List ByteArray)(c:List Ex)(H:Nat->Hd)(w:World)(hp:xE w k a v d S b)(h:kQ w b f r hv hm)(aT:r.length=f.length*f.length)(Z:f.length<=10000)(hr:dF w a v l HR)(ok:iH l)(J:ma w o m c H)(L:m.length<=10000)(W:∀e∈c,e.xs.length<=10000) :
  Calls prog 273 #[.pointer (some ⟨k,0,none⟩),.int .i64 g,.pointer (some ⟨o,0,none⟩)] w fun e D=>e=.returned (.bool (Cf l g (m,c.map Ex.xs) f r))/\ab [] w D:=by
 obtain⟨p0,p1,p2⟩:=hp.cells;obtain⟨s0,s1⟩:=J.cells;have I:Hid (c.length=m.length):=J.len;have ax:c.length<=10000:=by rw[I.out];exact L
 obtain⟨R,T⟩:∃R,Hid (R=Cf l g (m,c.map Ex.xs) f r):=⟨_,rfl⟩
 rw[<-T.out];have ac:∀s,ab [] w s->aw s (H 0) (aB m):=fun s E=>(J.Vb E).bag.own 0
 have U:∀s,ab [] w s->aw s (H 1) (gn c):=fun s E=>(J.Vb E).bag.own 1
 have P:=hI (fun s (E:ab [] w s)=>DH a v g l HR (H 0) m s (hr.Vb E) ok (ac s E) L)
 have HC:Hid (∀D,ab [] w.drew D->D.cell? ⟨k,0,none⟩=some (.pointer (some ⟨a,v,none⟩))/\D.cell? ⟨o,0,none⟩=some (.slice (H 0).ao m.length (H 0).cap)):=by
  intro D a0;exact⟨(hp.Vb ((ab.refl [] w).drew.trans a0)).cells.1,(J.Vb ((ab.refl [] w).drew.trans a0)).cells.1⟩
 have a4:=J.bag.lt;go_enter func273,ntmps273
 go_upto_region 1 with fail
 go_region_held3 (fun D=>D.cell? ⟨k,0,none⟩=some (.pointer (some ⟨a,v,none⟩))/\D.cell? ⟨o,0,none⟩=some (.slice (H 0).ao m.length (H 0).cap)) (go_keep) (first | (go_at_call 209;refine(P.out _ (by exact(ab.refl [] _).drew)).mono ?_;rintro e s ⟨aS,ag,az,rfl,A2,-,-,E⟩;obtain⟨x0,x1⟩:=HC.out s E))
 have K1:=(ab.refl [] w).drew.trans E;have af:=J.Vb K1;obtain⟨y0,y1⟩:=af.cells;have WI:=FG k a v d S b f r hv hm (H 1) c s (hp.Vb K1) (h.Vb K1) Z (U s K1) ax (fun e he=>⟨(af.exs e he).view,W e he⟩);have Q:=ko l g m l.length;go_wp2_with fail;refine WI.mono ?_;rintro e w2 ⟨g2,K,rfl,G2,k2⟩;have ai:=A2.Vb k2;have K2:=K1.trans k2;have ar:=hp.Vb K2;have N:=h.Vb K2
 have HT:Hid (R=true ↔ ∀i,i<c.length->∀j,j<c.length->i<j->qR l g (m,c.map Ex.xs) f r i j=true):=by
  show _ ↔ _
  rw[T.out,I.out];unfold Cf;rw[decide_eq_true_iff]
 have V:Hid (∀S,∀x∈jM f (c.map Ex.xs) c.length S,x<f.length):=by
  intro S x hx;unfold jM at hx
  split at hx
  ·exact Kb hx
  ·cases hx
 have ad:Hid (∀S,S<c.length->(jM f (c.map Ex.xs) c.length S).length<=10000):=by
  intro S hn;unfold jM;rw[QW hn];refine Q3 (FH _ _) ?_;rw[QQ];simp[hn];exact W _ (Rb hn)
 have ap:Hid (∀i j,i<c.length->j<c.length->qR l g (m,c.map Ex.xs) f r i j=(!(eD m.length (fN l g m) i j)||xH f.length r (jM f (c.map Ex.xs) c.length i) (jM f (c.map Ex.xs) c.length j))):=by
  intro i j hi hj;unfold qR jM;rw[QW hi,QW hj]
 clear WI ac U P HC y0 y1 p0 p1 p2 s0 s1 x0 x1;go_wp2
 go_loopg [9] c.length (fun gk iv wr=>∃(i:Nat),i<=c.length/\gk=c.length-i/\iv=.int .i64 i/\Hid (∀z,z<i->∀n,n<c.length->z<n->qR l g (m,c.map Ex.xs) f r z n=true)/\ab [] w2 wr)
 case atStart=>exact⟨0,by omega,by omega,rfl,fun z a3=>by omega,ab.refl _ _⟩
 case round =>
  obtain⟨i,hi,hg,rfl,p,hK⟩:=hrel
  by_cases A:i<c.length
  ·go_wp2_with fail
   go_loopg [10] (c.length-(i+1)) (fun an jv al=>∃(j:Nat),i+1<=j/\j<=c.length/\an=c.length-j/\jv=.int .i64 j/\Hid (∀n,i<n->n<j->qR l g (m,c.map Ex.xs) f r i n=true)/\ab [] w2 al)
   case atStart=>exact⟨i+1,by omega,by omega,by omega,by go_num,fun n h1 N=>by omega,hK⟩
   case round =>
    obtain⟨j,a1,hj,a6,rfl,u,q⟩:=hrel;clear hK
    by_cases y:j<c.length
    ·have hA:=ai.Vb q
     have O:=G2.Vb q;have d1:=O.cell i A;have d2:=O.cell j y;have q1:=ad.out i A;have q2:=ad.out j y;have a5:(i:Int)<c.length:=by omega
     have a2:(j:Int)<c.length:=by omega
     have AP:=fun nq=>qh aS m (fN l g m) ag az i j (wr.drewN nq) (hA.Vb ((ab.refl [] _).drewN nq)) Q L (by rw[<-I.out];exact A) (by rw[<-I.out];exact y)
     have AR:=fun nq=>zD k a v d S b f r hv hm (K i) (K j) (jM f (c.map Ex.xs) c.length i) (jM f (c.map Ex.xs) c.length j) (wr.drewN nq) ((ar.Vb q).Vb ((ab.refl [] _).drewN nq)) ((N.Vb q).Vb ((ab.refl [] _).drewN nq)) aT Z ((O.Vb ((ab.refl [] _).drewN nq)).own i A) ((O.Vb ((ab.refl [] _).drewN nq)).own j y) (by omega) (by omega) (V.out i) (V.out j)
     have t:=hI (ap.out i j A y)
     have C:Hid (qR l g (m,c.map Ex.xs) f r i j=true->∀n,i<n->n<j+1->qR l g (m,c.map Ex.xs) f r i n=true):=by
      intro hh n h1 N
      by_cases e:n=j
      ·subst e;exact hh
      ·exact u.out n h1 (by omega)
     have G:Hid (qR l g (m,c.map Ex.xs) f r i j=false->R=false):=by
      intro hh
      cases e:R
      ·rfl
      ·have:=HT.out.1 e i A j y (by omega)
       rw[this]at hh;cases hh
     have B:=hI AP;have F:=hI AR;clear AP AR p u O hA;generalize jM f (c.map Ex.xs) c.length i=X at *;generalize jM f (c.map Ex.xs) c.length j=Y at *
     cases hb:eD m.length (fN l g m) i j
     ·have M:=hI (C.out (by rw[t.out,hb];rfl))
      rw[hb]at B;clear G C
      go_upto_region 9 with fail
      go_quiet (first | (go_at_call 215;exact Rd (B.out _)))
      go_wp2
      go_roundg (c.length-(j+1))
      case measure=>omega
      case rel=>exact⟨j+1,by omega,by omega,rfl,by go_num,M.out,q.drewN _⟩
     ·rw[hb]at B
      cases hc:xH f.length r X Y
      ·have M:=hI (G.out (by rw[t.out,hb,hc];rfl))
       rw[hc]at F;clear G C
       go_upto_region 9 with fail
       go_quiet (first | (go_at_call 215;exact Rd (B.out _)) | (go_at_call 277;exact UF (F.out _)))
       go_wp2;go_ret;exact⟨aD M.out.symm,K2.trans (q.drewN _)⟩
      ·have M:=hI (C.out (by rw[t.out,hb,hc];rfl))
       rw[hc]at F;clear G C
       go_upto_region 9 with fail
       go_quiet (first | (go_at_call 215;exact Rd (B.out _)) | (go_at_call 277;exact UF (F.out _)))
       go_wp2
       go_roundg (c.length-(j+1))
       case measure=>omega
       case rel=>exact⟨j+1,by omega,by omega,rfl,by go_num,M.out,q.drewN _⟩
    ·have HN:Hid (∀z,z<i+1->∀n,n<c.length->z<n->qR l g (m,c.map Ex.xs) f r z n=true):=by
      intro z h1 n N h3
      by_cases e:z=i
      ·subst e;exact u.out n h3 (by omega)
      ·exact p.out z (by omega) n N h3
     clear u p;go_wp2
     go_roundg (c.length-(i+1))
     case measure=>omega
     case rel=>exact⟨i+1,by omega,rfl,by go_num,HN,q⟩
  ·have M:Hid (R=true):=HT.out.2 (fun z h1 n N h3=>p.out z (by omega) n N h3)
   clear p;go_wp2;go_ret;exact⟨aD M.out.symm,K2.trans hK⟩
def Bc(l:List St)(a n:Nat):Option ByteArray:=match l[n]? with
 | some s=>if(s.kind==2)=true/\g7 l n a=true then some (aL s) else none
 | none=>none
def qG(l:List St)(a k:Nat):List ByteArray:=(List.range k).filterMap (Bc l a)
def yi(l:List St)(a:Nat):List ByteArray:=qG l a l.length
theorem Kz(h:o<w.length)(b:(w[o].kind==2)=true)(a:g7 w o g=true):qG w g (o+1)=qG w g o++[aL w[o]]:=by
 unfold qG;rw[R6,SU];simp[Bc,h,b,a]
theorem Nc(h:o<w.length)(a:(w[o].kind==2)=false∨g7 w o g=false):qG w g (o+1)=qG w g o:=by
 unfold qG;rw[R6,SU]
 have:Bc w g o=none:=by
  unfold Bc;rw[QP h];simp only;rw[QT];rintro ⟨b,c⟩
  rcases a with a | a
  ·rw[a]at b;cases b
  ·rw[a]at c;cases c
 simp[this]
theorem Bd:(qG w g o).length<=o:=by
 have:=To (Bc w g) (List.range o);unfold qG;simpa using this
theorem qF(h:dF M d S w f)(ok:iH w) :
  Calls prog 208 #[.pointer (some ⟨d,S,none⟩),.int .i64 b] M fun e w'=>∃c:Hd,e=.returned (.slice c.ao (yi w b).length c.cap)/\aw w' c (aB (yi w b))/\(∀x,c.blk=some x->M.heap.size<=x)/\ab [] M w':=by
 obtain⟨i0,hi,O,N,R⟩:=Re js;have ac:=ok.len;go_enter func208,ntmps208;go_wp2
 go_loopg [5,6] w.length (fun gk sv i wr=>∃(k:Nat) (c:Hd),k<=w.length/\gk=w.length-k/\i=.int .i64 k/\sv=.slice c.ao (qG w b k).length c.cap/\aw wr c (aB (qG w b k))/\(∀x,c.blk=some x->M.heap.size<=x)/\ab [] M wr)
 case atStart=>exact⟨0,⟨none,0⟩,by omega,by omega,rfl,rfl,QZ _ _ _ _,by intro x B;simp[Hd.blk]at B,ab.refl _ _⟩
 case round =>
  obtain⟨k,c,hk,hg,rfl,rfl,U,D,Z⟩:=hrel;have L:=h.Vb Z;have af:=Bd w b k
  by_cases g:k<w.length
  ·have ad:=ok.syms k g
   have I:=hI (Kz w b k g);have m:=hI (Nc w b k g);have P:=mq w[k] (f (10+2*k)) (f (11+2*k));unfold ee at P;have Q:=hI P;clear P
   go_upto_region 6 with (first | (go_at_call 80;refine(eM d S w f _ (by exact L)).mono ?_;rintro e wc ⟨rfl,z⟩;rw[z]) | (go_at_call 97;refine(a9 d S k w f _ (by exact L) g).mono ?_;rintro e o ⟨rfl,Y⟩;unfold ee))
   obtain⟨l,q⟩:∃l,l=o.alloc (.cells #[.int .i64 w[k].kind,.string w[k].label,.slice (f (10+2*k)).ao w[k].U6.length (f (10+2*k)).cap,.slice (f (11+2*k)).ao w[k].Vh.length (f (11+2*k)).cap,.string w[k].fin.file,.int .i64 w[k].fin.line,.int .i64 w[k].fin.col,.int .i64 w[k].til] 158):=⟨_,rfl⟩
   have y:ab [] wr l:=by rw[q];exact Y.alloc _
   have s:l.heap[o.heap.size]?=some (.cells #[.int .i64 w[k].kind,.string w[k].label,.slice (f (10+2*k)).ao w[k].U6.length (f (10+2*k)).cap,.slice (f (11+2*k)).ao w[k].Vh.length (f (11+2*k)).cap,.string w[k].fin.file,.int .i64 w[k].fin.line,.int .i64 w[k].fin.col,.int .i64 w[k].til] 158 (0,0)):=by rw[q];exact QS _ _
   rw[<-q];clear q;have u0:l.cell? ⟨o.heap.size,0,none⟩=some (.int .i64 w[k].kind):=by rw[aa s];rfl
   have u1:l.cell? ⟨o.heap.size,1,none⟩=some (.string w[k].label):=by rw[aa s];rfl
   have u2:l.cell? ⟨o.heap.size,2,none⟩=some (.slice (f (10+2*k)).ao w[k].U6.length (f (10+2*k)).cap):=by rw[aa s];rfl
   have u3:l.cell? ⟨o.heap.size,3,none⟩=some (.slice (f (11+2*k)).ao w[k].Vh.length (f (11+2*k)).cap):=by rw[aa s];rfl
   have u4:l.cell? ⟨o.heap.size,4,none⟩=some (.string w[k].fin.file):=by rw[aa s];rfl
   have u5:l.cell? ⟨o.heap.size,5,none⟩=some (.int .i64 w[k].fin.line):=by rw[aa s];rfl
   have u6:l.cell? ⟨o.heap.size,6,none⟩=some (.int .i64 w[k].fin.col):=by rw[aa s];rfl
   have u7:l.cell? ⟨o.heap.size,7,none⟩=some (.int .i64 w[k].til):=by rw[aa s];rfl
   have v:=L.Vb y;have p:aw l c (aB (qG w b k)):=U.Vg (fun x B=>y.block x (U.lt B) (by simp));have W:=(v.Vn.syms k w[k] (QP g)).view;have C:=Z.trans y
   cases h2:(w[k].kind==2)
   ·have r:=hI (m.out (Q1 h2))
    clear I m;go_wp2
    go_roundg (w.length-(k+1))
    case measure=>omega
    case rel=>exact⟨k+1,c,by omega,rfl,by go_num,by rw[r.out],by rw[r.out];exact p,D,C⟩
   ·cases K:g7 w k b
    ·have r:=hI (m.out (QV K))
     clear I m;go_wp2_with (go_at_call 187;refine(gF d S k b w f _ (by exact v) g).mono ?_;rintro e wd ⟨rfl,A⟩;rw[A,K])
     go_roundg (w.length-(k+1))
     case measure=>omega
     case rel=>exact⟨k+1,c,by omega,rfl,by go_num,by rw[r.out],by rw[r.out];exact p,D,C⟩
    ·have r:=hI (I.out h2 K)
     clear I m;go_wp2_with (first | (go_at_call 187;refine(gF d S k b w f _ (by exact v) g).mono ?_;rintro e wd ⟨rfl,A⟩;rw[A,K]) | (go_at_call 189;refine(Q.out _ (by exact W) (by omega)).mono ?_;rintro e w5 ⟨rfl,k5⟩;have F:=p.Vg (fun x B=>(k5.alloc (.cells #[.string (aL w[k])] 9)).block x (p.lt B) (by simp))) | (at_builtin;refine aM _ rfl (.tmp 26) (.tmp 29) 61 rfl i0 (.string ⟨#[]⟩) 16 c (aB (qG w b k)) underlying61 hi O N R rfl Rc rfl (by exact F) ⟨_,0,none⟩ 1 1 [.string (aL w[k])] rfl rfl ?d1 ?d2 Rc ?d3 ?d4 ?_))
     case d1=>intro j u J;match j,J with | 0,J=>simp at J;subst J;simp[Addr.add]
     case d2=>intro u hu;simp at hu;subst hu;rfl
     case d3=>simp only[aB];unfold maxLen;omega
     case d4=>simp only[aB];omega
     intro T H w6 E t a;rw[dr (qG w b k) (aL w[k]),<-r.out]at E;have G:=(C.trans k5).alloc (.cells #[.string (aL w[k])] 9);have V:=G.grown t D
     have ag:M.heap.size<=T:=by
      rcases a with e | e
      ·exact D T e
      ·have:=G.size;simp at e this;omega
     have X:Hid ((aB (qG w b k)).n+1=(qG w b (k+1)).length):=by show _=_;rw[r.out];simp[aB]
     rw[X.out];clear t a F;go_wp2
     go_roundg (w.length-(k+1))
     case measure=>omega
     case rel=>exact⟨k+1,⟨some ⟨T,0,none⟩,H⟩,by omega,rfl,by go_num,rfl,E,by intro x B;simp[Hd.blk]at B;omega,V⟩
  ·have e:k=w.length:=by omega
   subst e;go_wp2_with (go_at_call 80;refine(eM d S w f _ (by exact L)).mono ?_;rintro e wc ⟨rfl,z⟩;rw[z]);go_ret;exact⟨c,rfl,U,D,Z⟩
def PH:St:=⟨0,⟨#[]⟩,[],[],⟨⟨#[]⟩,0,0⟩,0⟩
abbrev On:=List ByteArray×List (List ByteArray)
def ov(l:List St):List Nat->List (List ByteArray)->On->Int×On
 | h :: hs,e :: es,S=>if((mW (l.getD h PH) e S).1==0)=true then ov l hs es (mW (l.getD h PH) e S).2 else mW (l.getD h PH) e S
 | _,_,S=>(0,S)
def tI(l:List St)(n:Nat)(vs:List ByteArray)(ms:List Bool)(sy:List ByteArray)(R:Int×On):Int×List ByteArray :=
 if(R.1==0)=true then(if Cf l n R.2 vs ms=true then(0,nY R.2.1 R.2.2 sy) else(9,[])) else(R.1,[])
def iV(l:List St)(n:Nat)(vs:List ByteArray)(ms:List Bool)(th:List (List ByteArray)):Int×List ByteArray :=
 if th.length<(aK l n).length then(6,[])
 else tI l n vs ms (l.getD n PH).U6 (ov l (aK l n) (th.drop (th.length-(aK l n).length)) ([],[]))
theorem zV(h:o<w.length):w.getD o PH=w[o]:=by rw[QQ,QP h];rfl
theorem Ih(S:On)(i:Nat)(a:i<yf.length)(b:i<yr.length)(c:yf[i]<w.length) :
  ov w (yf.drop i) (yr.drop i) S=if((mW w[yf[i]] yr[i] S).1==0)=true then ov w (yf.drop (i+1)) (yr.drop (i+1)) (mW w[yf[i]] yr[i] S).2 else mW w[yf[i]] yr[i] S:=by
 rw[Rf a,Rf b,ov,zV w _ c]
theorem Eb(S:On)(i:Nat)(a:¬i<yf.length):ov w (yf.drop i) yr S=(0,S):=by
 rw[R8 (by omega)];cases yr <;> rfl
structure Kt(S:On)(N:Nat):Prop where
 one:S.1.length<=N
 two:∀y∈S.2,y.length<=10000
theorem Nq(s:St)(e:List ByteArray)(S:On)(N:Nat)(h:Kt S N)(b:e.length<=10000):Kt (mW s e S).2 (N+1):=by
 have c:=h.one;unfold mW
 split
 ·split <;> exact⟨by simp only;omega,h.two⟩
 ·split
  ·exact⟨by simp only;omega,h.two⟩
  ·next x r =>
   split
   ·refine⟨by simp;omega,fun y a=>?_⟩
    simp at a
    rcases a with a | rfl
    ·exact h.two y a
    ·simp at b;omega
   ·exact⟨by simp only;omega,h.two⟩
theorem Iw(k:Nat):∀x∈dG w o k,x<k:=by
 induction k with
 | zero=>intro x a;simp[dG]at a
 | succ k b =>
  intro x a
  cases h:l6 w (f8 w o) o k
  ·rw[tX w o k h]at a
   have:=b x a;omega
  ·rw[wn w o k h]at a
   simp at a
   rcases a with a | rfl
   ·have:=b x a;omega
   ·omega
theorem Ca(h:z4∈aK yt I):z4<yt.length:=Iw yt I yt.length z4 h
theorem aw.cutE(o:aw L y8 (gn z5))(c:Nat)(u:c<=z5.length):aw L y8 (gn (z5.take c)):=by
 have d:(z5.take c).length=c:=by simp;omega
 refine⟨by simp[gn,By],?_⟩
 rcases o.2 with ⟨f,m⟩ | ⟨g,b,a,f,l,p,j,k,r,q⟩
 ·left
  have:z5.length=0:=m;have h:z5=[]:=Rk this;subst h;simp[gn]at f ⊢;exact f
 ·right
  have s:z5.length<=b:=j;refine⟨g,b,a,?_,l,p,?_,k,r,?_⟩
  ·injection f with n t i
   simp only[gn];rw[n,i]
  ·show(z5.take c).length<=b
   omega
  ·show a.toList.take ((z5.take c).length*1)=By (z5.take c)
   have e:a.toList.take (z5.length*1)=By z5:=q;rw[d];unfold By at e ⊢;rw[UL,<-e,UC]
   congr 1
   omega
def pn(sh th:List Ex):Nat->dN
 | 0=>gn sh
 | 1=>gn th
 | _+2=>gn []
def id(rb ro g n tb:Nat)(sh th:List Ex)(H:Nat->Hd):List Value :=
 [.pointer (some ⟨rb,ro,none⟩),.slice (some ⟨g,0,none⟩) n n,.pointer (some ⟨tb,0,none⟩),.slice (H 0).ao sh.length (H 0).cap,.slice (H 1).ao th.length (H 1).cap]
structure ux(w:World)(b rb ro g n tb:Nat)(sh th:List Ex)(H:Nat->Hd):Prop where
 bag:a8 w b 307 (id rb ro g n tb sh th H) (pn sh th) H
 shs:∀e∈sh,rd w b H e.hd e.xs/\e.xs.length<=32
 ths:∀e∈th,rd w b H e.hd e.xs/\e.xs.length<=32
theorem ux.Vb(h:ux L I z4 zb zt y6 ya z5 yd N)(k:ab [] L y2):ux y2 I z4 zb zt y6 ya z5 yd N :=
 ⟨h.bag.Vb k,fun e a=>⟨(h.shs e a).1.Vb k,(h.shs e a).2⟩,fun e a=>⟨(h.ths e a).1.Vb k,(h.ths e a).2⟩⟩
theorem ux.ctx(h:ux L I z4 zb zt y6 ya z5 yd N):xE L I z4 zb zt y6 ya:=⟨_,_,h.bag.blk,rfl,rfl,rfl⟩
theorem ux.cells{g:Nat}(h:ux L I z4 zb g zt y6 z5 yd N) :
  L.cell? ⟨I,3,none⟩=some (.slice (N 0).ao z5.length (N 0).cap)/\L.cell? ⟨I,4,none⟩=some (.slice (N 1).ao yd.length (N 1).cap):=⟨h.bag.cell 3,h.bag.cell 4⟩
structure DB(w:World)(rb ro g tb:Nat)(l:List St)(HR K:Nat->Hd)(vs:List ByteArray)(ms:List Bool)(hv hm:Hd):Prop where
 recd:dF w rb ro l HR
 ok:iH l
 all:gW w g l l.length K
 ap:kQ w tb vs ms hv hm
 hml:ms.length=vs.length*vs.length
 hvl:vs.length<=10000
theorem DB.Vb{a:List Bool}{b:Hd}(h:DB L I z4 zb zt yt N yg x4 a y8 b)(k:ab [] L y2):DB y2 I z4 zb zt yt N yg x4 a y8 b :=
 ⟨h.recd.Vb k,h.ok,h.all.Vb k,h.ap.Vb k,h.hml,h.hvl⟩
structure l9(w0 w:World)(b rb ro g n tb:Nat)(sh th:List Ex)(H:Nat->Hd):Prop where
 ply:ux w b rb ro g n tb sh th H
 kept:ab [] w0 w
 hb:w0.heap.size<=b
 hin:∀x,f9 H x->w0.heap.size<=x
theorem l9.Vb(h:l9 L y2 I z4 zb zt y6 ya z5 yd N)(k:ab [] y2 yu):l9 L yu I z4 zb zt y6 ya z5 yd N :=
 ⟨h.ply.Vb k,h.kept.trans k,h.hb,h.hin⟩
section
attribute [local go_sem] wa
theorem rd.turned(f:rd L I N y8 x4)(t:aA I L N y2 yg):rd y2 I yg y8 x4:=by
 refine⟨f.view.keptP t.1 (fun x c=>?_),fun x c=>?_⟩
 ·obtain⟨_,a,b⟩:=f.far x c
  rintro (e | e)
  ·exact a e
  ·exact b e
 ·obtain⟨d,a,b⟩:=f.far x c
  exact⟨QX d t.1.size,a,t.fresh x d b⟩
theorem a8.reset{b:List Value}{a rows':Nat->dN}(h:a8 L I z4 b a N)(c:Nat)(u:Value)(o:∀i,aw L (N i) (rows' i)) :
  a8 (L.setCell ⟨I,c,none⟩ u) I z4 (b.set c u) rows' N/\aA I L N (L.setCell ⟨I,c,none⟩ u) N:=by
 obtain⟨d,e⟩:=h.set c u;refine⟨⟨d.blk,fun i=>(o i).Vg (fun k f=>Q4 _ _ _ _ ?_),h.apart,h.off⟩,e⟩;rintro rfl;exact h.off i f
theorem sC:rd i b f ⟨none,0⟩ []:=⟨Q1 rfl,fun x a=>by simp[Hd.blk]at a⟩
theorem yh(E:DB z7 a v d S w T y5 x y y9 z6)(P:l9 z7 i k a v d w.length S n H f)(R:b<w.length)(hA:sM w b=true)(cl:H.length<=2000000) :
  Calls prog 261 #[.pointer (some ⟨k,0,none⟩),.int .i64 b] i fun e u=>∃(ag:List Ex) (A:Ex),
   e=.returned (.tuple #[.slice A.hd.ao A.xs.length A.hd.cap,.int .i64 (iV w b x y (H.map Ex.xs)).1])/\A.xs=(iV w b x y (H.map Ex.xs)).2/\l9 z7 u k a v d w.length S n ag f/\rd u k f A.hd A.xs /\
   (((iV w b x y (H.map Ex.xs)).1==0)=true->ag=H.take (H.length-(aK w b).length))/\ag.length<=H.length:=by
 have Ew:=E.Vb P.kept;have bT:=E.ok.len;obtain⟨p0,p1,p2⟩:=P.ply.ctx.cells;obtain⟨p3,p4⟩:=P.ply.cells;have bj:lO w w.length b=aK w b:=by unfold lO;rw[QW ⟨R,hA⟩]
 have ca:=Ew.all.cell b R;have oa:=Ew.all.own b R;rw[bj]at ca oa;obtain⟨AO,bc⟩:∃AO,Hid ((y5 b).ao=AO):=⟨_,rfl⟩
 rw[bc.out]at ca;have cp:(aK w b).length<=w.length:=oy w b w.length;have bd:∀c (hi:c<(aK w b).length),(aK w b)[c]<w.length:=fun c hi=>Ca (Rb hi)
 have cc:(b:Int)<w.length:=by omega
 have b6:¬(b:Int) ≥ w.length:=by omega
 clear bj p2 p3
 by_cases hu:H.length<(aK w b).length
 ·have HF:Hid (iV w b x y (H.map Ex.xs)=(6,[])):=by show _=_;unfold iV;rw[Ri,QW hu]
  have b5:(H.length:Int)-(aK w b).length<0:=by omega
  go_enter func261,ntmps261;go_wp2
  exact QY (v:=.tuple #[.slice none 0 0,.int .i64 6]) (by simp[results,results261,go_sem]) rfl
   ⟨H,⟨⟨none,0⟩,[]⟩,by rw[HF.out];rfl,by rw[HF.out],P,sC _ _ _,by rw[HF.out];simp,QR _⟩
 ·obtain⟨g,hf⟩:∃g,H.length-(aK w b).length=g:=⟨_,rfl⟩
  have cs:(H.length:Int)-(aK w b).length=(g:Int):=by omega
  have cu:¬(g:Int)<0:=by omega
  obtain⟨RR,a1⟩:∃RR,Hid (RR=ov w (aK w b) ((H.map Ex.xs).drop g) ([],[])):=⟨_,rfl⟩
  have HF:Hid (iV w b x y (H.map Ex.xs)=tI w b x y w[b].U6 RR):=by
   show _=_
   unfold iV;rw[Ri,QT hu,zV w b R,hf,a1.out]
  rw[hf];have a0:g+(aK w b).length=H.length:=by omega
  have bg:=hI a0;clear hf a0;obtain⟨W,hW⟩:∃W,W=i.alloc (.cells #[.slice none 0 0,.slice none 0 0] 343):=⟨_,rfl⟩
  have kW:ab [] i W:=by rw[hW];exact(ab.refl [] _).alloc _
  have SI:ma W i.heap.size [] [] mE:=by
   rw[hW];refine⟨⟨QS _ _,?_,fun c j _=>Q1 rfl,fun c e=>by simp[mE,Hd.blk]at e⟩,rfl,by simp⟩;intro c
   match c with
   | 0=>exact QZ _ _ _ _
   | 1=>exact QZ _ _ _ _
   | m+2=>exact QZ _ _ _ _
  have HW:=hI hW.symm;clear hW;go_enter func261,ntmps261
  go_upto_region 8 with fail
  rw[HW.out];have PW:=P.Vb kW;clear HW p0 p1 p4 ca;go_wp2
  go_loopg [9] (aK w b).length (fun gk iv wr=>∃(c:Nat) (ar:On) (t:List Ex) (V:Nat->Hd),c<=(aK w b).length/\gk=(aK w b).length-c/\iv=.int .i64 c/\Kt ar c/\t.map Ex.xs=ar.2/\Hid (RR=ov w ((aK w b).drop c) (((H.map Ex.xs).drop g).drop c) ar)/\ma wr i.heap.size ar.1 t V/\(∀h,f9 V h->i.heap.size<=h)/\(∀e∈t,e.hd.blk≠some k)/\ab [] i wr)
  case atStart=>exact⟨0,([],[]),[],mE,by omega,by omega,rfl,⟨by simp,by simp⟩,rfl,a1.out,SI,fun h l=>by obtain⟨c,hi⟩:=l;simp[mE,Hd.blk]at hi,by simp,kW⟩
  case round =>
   obtain⟨c,ar,t,V,hi,hg,rfl,C,Z,hR,hS,L,aS,U⟩:=hrel
   by_cases N:c<(aK w b).length
   ·obtain⟨z,S2⟩:=ar
    simp only at Z;subst Z;have Pr:=P.Vb U;have al:g+c<H.length:=by have:=bg.out;omega
    have oT:aw wr (f 1) (gn H):=Pr.ply.bag.own 1
    rcases oT.Vm with ⟨_,h0,_⟩ | ⟨I,a4,et,-,az,-⟩
    ·have:H.length=0:=h0
     omega
    have oH:aw wr (y5 b) (bB (aK w b)):=oa.Vg (fun h l=>U.block h (oa.lt l) (by simp))
    rcases oH.Vm with ⟨_,h0,_⟩ | ⟨gh,b4,eh,-,bl,-⟩
    ·have:(aK w b).length=0:=h0
     omega
    have ch:=oH.cell eh c (.int .i64 (aK w b)[c]) (jP _ c N);have ct:=oT.cell et (g+c) (v6 H[g+c]) (sB H (g+c) al);obtain rfl:AO=some ⟨gh,0,none⟩:=bc.out.symm.trans eh;have a5:H.length<=(f 1).cap:=az;have b0:(aK w b).length<=(y5 b).cap:=bl;have s:=(P.ply.ths H[g+c] (Rb al));have Y:=bd c N;have G:=hI (hR.out.trans (Ih w (aK w b) ((H.map Ex.xs).drop g) (z,t.map Ex.xs) c N (by simp;omega) Y));have e1:((H.map Ex.xs).drop g)[c]'(by simp;omega)=H[g+c].xs:=by simp
    rw[e1]at G;have a6:=Nq w[(aK w b)[c]] H[g+c].xs (z,t.map Ex.xs) c C (by omega);have FT:=fun(w3:World) (B:ab [] wr w3)=>Nr i.heap.size z t V w[(aK w b)[c]] (T (10+2*(aK w b)[c])) (T (11+2*(aK w b)[c])) H[g+c].hd H[g+c].xs w3 (hS.Vb B) (by have:=C.one;simp only at this;omega) (fun e o=>C.two _ (TV o)) ((((E.Vb (Pr.kept.trans B)).recd.Vn.syms _ w[(aK w b)[c]] (QP Y)).view)) (E.ok.syms _ Y) ⟨(s.1.Vb (U.trans B)).view,fun h l=>⟨QX (s.1.far h l).1 (U.trans B).size,by have:=(s.1.far h l).1;omega,fun z6=>by have:=L h z6;have:=(s.1.far h l).1;omega⟩⟩ (by omega)
    have ST:=fun(w3:World) (B:ab [] wr w3)=>a9 a v (aK w b)[c] w T w3 (E.Vb (Pr.kept.trans B)).recd Y
    have p4:=Pr.ply.cells.2;have p0:=Pr.ply.ctx.cells.1;rw[et]at p4
    have K:Hid (∀u,ab [] i u->u.cell? ⟨k,0,none⟩=some (.pointer (some ⟨a,v,none⟩))/\u.cell? ⟨gh,c,none⟩=some (.int .i64 (aK w b)[c])/\u.cell? ⟨k,4,none⟩=some (.slice (some ⟨I,0,none⟩) H.length (f 1).cap)/\u.cell? ⟨I,g+c,none⟩=some (v6 H[g+c])):=by
     intro u b3;have P':=P.Vb b3;refine⟨P'.ply.ctx.cells.1,(oa.Vg (fun h l=>b3.block h (oa.lt l) (by simp))).cell eh c _ (jP _ c N),?_,(P'.ply.bag.own 1).cell et (g+c) (v6 H[g+c]) (sB H (g+c) al)⟩;rw[<-et];exact P'.ply.cells.2
    have a7:Hid (∀h,(h=i.heap.size∨f9 V h)->i.heap.size<=h):=by
     rintro h (e | e)
     ·omega
     ·exact L h e
    have M:=hI FT;have bf:=hI ST;have b2:IntKind.i64.wrap ((g:Int)+c)=(g:Int)+c:=by rw[R9];omega
    have b1:(0:Int)<=(g:Int)+c:=by omega
    have bz:(g:Int)+c<H.length:=by omega
    have ck:((g:Int)+c).toNat=g+c:=by omega
    have ai:=s.1.far;clear FT ST hR e1 oT oH s et eh;unfold v6 at ct K;generalize H[g+c]=A at *;generalize (aK w b)[c]=aT at *;generalize mW w[aT] A.xs (z,t.map Ex.xs)=Q at *;obtain⟨q,S9⟩:=Q;simp only at G a6 M;have bx:A.hd.blk≠some k:=fun e=>(ai k e).2.1 rfl
    cases hq:(q==0)
    ·have bw:(q != 0)=true:=by simp[bne,hq]
     have F:Hid (iV w b x y (H.map Ex.xs)=(q,[])):=by show _=_;rw[HF.out,G.out,QT (by rw[hq];simp)];simp[tI,hq]
     clear G
     go_upto_region 11 with fail
     go_region_held3 (fun u=>u.cell? ⟨k,0,none⟩=some (.pointer (some ⟨a,v,none⟩))/\u.cell? ⟨gh,c,none⟩=some (.int .i64 aT)/\u.cell? ⟨k,4,none⟩=some (.slice (some ⟨I,0,none⟩) H.length (f 1).cap)/\u.cell? ⟨I,g+c,none⟩=some (.slice A.hd.ao A.xs.length A.hd.cap)) (go_keep) (first | (go_at_call 97;refine(bf.out _ (by exact(ab.refl [] _).drew)).mono ?_;rintro e w3 ⟨rfl,B⟩;obtain⟨x0,x1,x2,x3⟩:=K.out w3 (U.drew.trans B)) | (go_at_call 272;refine(M.out _ (by exact(ab.refl [] _).drew.trans B)).mono ?_;rintro e w9 ⟨an,H9,rfl,ba,af,T9,O⟩;have K9:=(U.drew.trans B).ofP T9.1 a7.out;obtain⟨z0,z1,z2,z3⟩:=K.out w9 K9))
     all_goals
      clear z0 z1 z2 z3 x0 x1 x2 x3;go_wp2
      exact QY (v:=.tuple #[.slice none 0 0,.int .i64 q]) (by simp[results,results261,go_sem]) rfl
       ⟨H,⟨⟨none,0⟩,[]⟩,by rw[F.out];rfl,by rw[F.out],P.Vb K9,sC _ _ _,fun hh=>by rw[F.out]at hh;exact absurd (hq.symm.trans hh) (by simp),QR _⟩
    ·have bw:(q != 0)=false:=by simp[bne,hq]
     have F:Hid (RR=ov w ((aK w b).drop (c+1)) (((H.map Ex.xs).drop g).drop (c+1)) S9):=by show _=_;rw[G.out,QW hq]
     clear G
     go_upto_region 11 with fail
     go_region_held3 (fun u=>u.cell? ⟨k,0,none⟩=some (.pointer (some ⟨a,v,none⟩))/\u.cell? ⟨gh,c,none⟩=some (.int .i64 aT)/\u.cell? ⟨k,4,none⟩=some (.slice (some ⟨I,0,none⟩) H.length (f 1).cap)/\u.cell? ⟨I,g+c,none⟩=some (.slice A.hd.ao A.xs.length A.hd.cap)) (go_keep) (first | (go_at_call 97;refine(bf.out _ (by exact(ab.refl [] _).drew)).mono ?_;rintro e w3 ⟨rfl,B⟩;obtain⟨x0,x1,x2,x3⟩:=K.out w3 (U.drew.trans B)) | (go_at_call 272;refine(M.out _ (by exact(ab.refl [] _).drew.trans B)).mono ?_;rintro e w9 ⟨an,H9,rfl,ba,af,T9,O⟩;have K9:=(U.drew.trans B).ofP T9.1 a7.out;obtain⟨z0,z1,z2,z3⟩:=K.out w9 K9))
     all_goals
      have bp:∀h,f9 H9 h->i.heap.size<=h:=fun h l=>by
       rcases T9.2 h l with e | e
       ·exact L h e
       ·exact Q3 (U.drew.trans B).size e
      have br:∀e∈an,e.hd.blk≠some k:=fun e o=>by
       rcases O e o with q | q
       ·exact aS e q
       ·rw[q];exact bx
      clear z0 z1 z2 z3 x0 x1 x2 x3;go_wp2
      go_roundg ((aK w b).length-(c+1))
      case measure=>omega
      case rel=>exact⟨c+1,S9,an,H9,by omega,rfl,by go_num,a6,af,F.out,ba,bp,br,K9⟩
   ·obtain⟨z,S2⟩:=ar
    simp only at Z;subst Z
    have ac:Hid (iV w b x y (H.map Ex.xs)=tI w b x y w[b].U6 (0,(z,t.map Ex.xs))):=by
     show _=_
     rw[HF.out,hR.out,Eb _ _ _ _ _ N]
    have Pr:=P.Vb U;have Er:=E.Vb Pr.kept;have bs:=C.one;simp only at bs;have KA:=wB k a v d w.length S b i.heap.size w T x y y9 z6 z t V wr Pr.ply.ctx Er.ap E.hml E.hvl Er.recd E.ok hS (by omega) (fun e o=>C.two _ (TV o));clear hR
    cases hk:Cf w b (z,t.map Ex.xs) x y
    ·have F:Hid (iV w b x y (H.map Ex.xs)=(9,[])):=by show _=_;rw[ac.out];simp[tI,hk]
     rw[hk]at KA;clear ac
     go_upto_region 15 with (go_at_call 273;refine KA.mono ?_;rintro e D ⟨rfl,k2⟩)
     go_wp2
     exact QY (v:=.tuple #[.slice none 0 0,.int .i64 9]) (by simp[results,results261,go_sem]) rfl
      ⟨H,⟨⟨none,0⟩,[]⟩,by rw[F.out];rfl,by rw[F.out],Pr.Vb k2,sC _ _ _,by rw[F.out];simp,QR _⟩
    ·have F:Hid (iV w b x y (H.map Ex.xs)=(0,nY z (t.map Ex.xs) w[b].U6)):=by show _=_;rw[ac.out];simp[tI,hk]
     rw[hk]at KA;clear ac
     go_upto_region 16 with (go_at_call 273;refine KA.mono ?_;rintro e D ⟨rfl,k2⟩)
     have r:=Pr.Vb k2;have p:=hS.Vb k2;have p4:=r.ply.cells.2;have y4:=r.ply.bag.free;have cf:=r.ply.bag.lt;have oT:aw D (f 1) (gn H):=r.ply.bag.own 1;have ad:g<=H.length:=by have:=bg.out;omega
     have cb:(g:Int)<=H.length:=by omega
     have cj:i.heap.size > k:=P.ply.bag.lt
     rcases oT.Vm with ⟨e0,h0,-⟩ | ⟨I,a4,et,-,az,-⟩
     ·have a2:H.length=0:=h0
      have a3:g=0:=by omega
      have ax:Hid (Value.slice none 0 0=Value.slice (f 1).ao (H.take g).length (f 1).cap):=by show _=_;rw[e0,a3];rfl
      have cx:=hI e0;rw[e0,a2]at p4;have co:(g:Int)=0:=by omega
      clear e0 h0 a2
      go_upto_region 17 with fail
      have D5:Hid (a8 (D.setCell ⟨k,4,none⟩ (.slice none 0 0)) k 307 (id a v d w.length S n (H.take g) f) (pn n (H.take g)) f/\aA k D f (D.setCell ⟨k,4,none⟩ (.slice none 0 0)) f):=by
       have q:=r.ply.bag.reset (rows':=pn n (H.take g)) 4 (.slice none 0 0) (by
        intro j
        match j with
        | 0=>exact r.ply.bag.own 0
        | 1=>exact oT.cutE g ad
        | m+2=>exact r.ply.bag.own (m+2))
       have e:(id a v d w.length S n H f).set 4 (.slice none 0 0)=id a v d w.length S n (H.take g) f:=by
        simp only[id,List.set_cons_succ,List.set_cons_zero];rw[ax.out]
       rw[e]at q;exact q
      generalize hX:D.setCell ⟨k,4,none⟩ (.slice none 0 0)=X at D5 ⊢;have kX:ab [] z7 X:=by rw[<-hX];exact r.kept.setCell (QV P.hb) _
      have PX:l9 z7 X k a v d w.length S n (H.take g) f:=⟨⟨D5.out.1,fun e o=>⟨(r.ply.shs e o).1.turned D5.out.2,(r.ply.shs e o).2⟩,fun e o=>⟨(r.ply.ths e (Tb o)).1.turned D5.out.2,(r.ply.ths e (Tb o)).2⟩⟩,kX,P.hb,P.hin⟩;have kb:eK (fun h=>h=k) D X:=by rw[<-hX];exact(eK.refl (fun h=>h=k) D).setCell (Q1 (show k=k from rfl)) _
      have SX:ma X i.heap.size z t V:=⟨p.bag.keptP kb (by omega) (fun h l=>by have:=L h l;omega),p.len,fun e o=>⟨(p.exs e o).view.keptP kb (fun h l e2=>aS e o (e2 ▸ l)),(p.exs e o).adr,fun h l=>⟨QX ((p.exs e o).far h l).1 kb.size,((p.exs e o).far h l).2⟩⟩⟩;have p0:=PX.ply.ctx.cells.1;have bv:=PX.ply.bag.lt;have J:=fun h (l:f9 f h)=>PX.ply.bag.inlt l
      have bk:=E.ok.syms b R;have EX:=E.Vb kX;clear hX p4 y4 KA;go_wp2_with (first | (go_at_call 97;refine(a9 a v b w T _ (by exact EX.recd) R).mono ?_;rintro e w6 ⟨rfl,k6⟩;unfold ee) | (go_at_call 274;refine(pT i.heap.size z t V (T (10+2*b)) w[b].U6 _ (by exact SX.Vb k6) (by omega) (fun e o=>C.two _ (TV o)) (((EX.Vb k6).recd.Vn.syms b w[b] (QP R)).view) (by omega)).mono ?_;rintro e w7 ⟨hd,rfl,o7,n7,k7⟩));have bo:=k6.size
      exact QY (v:=.tuple #[.slice hd.ao (nY z (t.map Ex.xs) w[b].U6).length hd.cap,.int .i64 0]) (by simp[results,results261,go_sem]) rfl
       ⟨H.take g,⟨hd,nY z (t.map Ex.xs) w[b].U6⟩,by rw[F.out],by rw[F.out],PX.Vb (k6.trans k7),⟨o7.view,fun h l=>⟨o7.lt l,by have:=n7 h l;omega,fun z6=>by have:=n7 h l;have:=J h z6;omega⟩⟩,fun _=>rfl,by simp;omega⟩
     ·have ax:Hid (Value.slice (some ⟨I,0,none⟩) g (f 1).cap=Value.slice (f 1).ao (H.take g).length (f 1).cap):=by show _=_;rw[et];simp;omega
      have a5:H.length<=(f 1).cap:=az;have cq:(g:Int)<=(f 1).cap:=by omega
      rw[et]at p4;clear et
      go_upto_region 17 with fail
      have D5:Hid (a8 (D.setCell ⟨k,4,none⟩ (.slice (some ⟨I,0,none⟩) g (f 1).cap)) k 307 (id a v d w.length S n (H.take g) f) (pn n (H.take g)) f/\aA k D f (D.setCell ⟨k,4,none⟩ (.slice (some ⟨I,0,none⟩) g (f 1).cap)) f):=by
       have q:=r.ply.bag.reset (rows':=pn n (H.take g)) 4 (.slice (some ⟨I,0,none⟩) g (f 1).cap) (by
        intro j
        match j with
        | 0=>exact r.ply.bag.own 0
        | 1=>exact oT.cutE g ad
        | m+2=>exact r.ply.bag.own (m+2))
       have e:(id a v d w.length S n H f).set 4 (.slice (some ⟨I,0,none⟩) g (f 1).cap)=id a v d w.length S n (H.take g) f:=by
        simp only[id,List.set_cons_succ,List.set_cons_zero];rw[ax.out]
       rw[e]at q;exact q
      generalize hX:D.setCell ⟨k,4,none⟩ (.slice (some ⟨I,0,none⟩) g (f 1).cap)=X at D5 ⊢;have kX:ab [] z7 X:=by rw[<-hX];exact r.kept.setCell (QV P.hb) _
      have PX:l9 z7 X k a v d w.length S n (H.take g) f:=⟨⟨D5.out.1,fun e o=>⟨(r.ply.shs e o).1.turned D5.out.2,(r.ply.shs e o).2⟩,fun e o=>⟨(r.ply.ths e (Tb o)).1.turned D5.out.2,(r.ply.ths e (Tb o)).2⟩⟩,kX,P.hb,P.hin⟩;have kb:eK (fun h=>h=k) D X:=by rw[<-hX];exact(eK.refl (fun h=>h=k) D).setCell (Q1 (show k=k from rfl)) _
      have SX:ma X i.heap.size z t V:=⟨p.bag.keptP kb (by omega) (fun h l=>by have:=L h l;omega),p.len,fun e o=>⟨(p.exs e o).view.keptP kb (fun h l e2=>aS e o (e2 ▸ l)),(p.exs e o).adr,fun h l=>⟨QX ((p.exs e o).far h l).1 kb.size,((p.exs e o).far h l).2⟩⟩⟩;have p0:=PX.ply.ctx.cells.1;have bv:=PX.ply.bag.lt;have J:=fun h (l:f9 f h)=>PX.ply.bag.inlt l
      have bk:=E.ok.syms b R;have EX:=E.Vb kX;clear hX p4 y4 KA;go_wp2_with (first | (go_at_call 97;refine(a9 a v b w T _ (by exact EX.recd) R).mono ?_;rintro e w6 ⟨rfl,k6⟩;unfold ee) | (go_at_call 274;refine(pT i.heap.size z t V (T (10+2*b)) w[b].U6 _ (by exact SX.Vb k6) (by omega) (fun e o=>C.two _ (TV o)) (((EX.Vb k6).recd.Vn.syms b w[b] (QP R)).view) (by omega)).mono ?_;rintro e w7 ⟨hd,rfl,o7,n7,k7⟩));have bo:=k6.size
      exact QY (v:=.tuple #[.slice hd.ao (nY z (t.map Ex.xs) w[b].U6).length hd.cap,.int .i64 0]) (by simp[results,results261,go_sem]) rfl
       ⟨H.take g,⟨hd,nY z (t.map Ex.xs) w[b].U6⟩,by rw[F.out],by rw[F.out],PX.Vb (k6.trans k7),⟨o7.view,fun h l=>⟨o7.lt l,by have:=n7 h l;omega,fun z6=>by have:=n7 h l;have:=J h z6;omega⟩⟩,fun _=>rfl,by simp;omega⟩
end
def ju(l:List St)(vs:List ByteArray)(ms:List Bool)(sh th:List (List ByteArray))(s:nF):(Int×List ByteArray)×List (List ByteArray) :=
 if(s.kind==3)=true then(if s.U7<sh.length then((0,sh.getD s.U7 []),th) else((5,[]),th))
 else if sM l s.U7=true then(iV l s.U7 vs ms th,th.take (th.length-(aK l s.U7).length))
 else((0,(l.getD s.U7 PH).U6),th)
theorem Mt(E:DB z7 v d S b w T y5 x y y9 z6)(P:l9 z7 i a v d S w.length b n H f)(hn:(l.kind==3)=false->l.U7<w.length)(a4:l.U7<=2000000)(ad:H.length<=2000000) :
  Calls prog 239 #[.pointer (some ⟨a,0,none⟩),.agg #[.int .i64 l.kind,.int .i64 l.U7,.string l.at_.file,.int .i64 l.at_.line,.int .i64 l.at_.col]] i fun e C=>∃(L:List Ex) (t:Ex),
   e=.returned (.tuple #[.slice t.hd.ao t.xs.length t.hd.cap,.int .i64 (ju w x y (n.map Ex.xs) (H.map Ex.xs) l).1.1])/\t.xs=(ju w x y (n.map Ex.xs) (H.map Ex.xs) l).1.2/\l9 z7 C a v d S w.length b n L f/\rd C a f t.hd t.xs /\
   (((ju w x y (n.map Ex.xs) (H.map Ex.xs) l).1.1==0)=true->L.map Ex.xs=(ju w x y (n.map Ex.xs) (H.map Ex.xs) l).2)/\L.length<=H.length:=by
 obtain⟨W,hW⟩:∃W,W=i.alloc (.cells #[.int .i64 l.kind,.int .i64 l.U7,.string l.at_.file,.int .i64 l.at_.line,.int .i64 l.at_.col] 174):=⟨_,rfl⟩
 have kW:ab [] i W:=by rw[hW];exact(ab.refl [] _).alloc _
 have B:W.heap[i.heap.size]?=some (.cells #[.int .i64 l.kind,.int .i64 l.U7,.string l.at_.file,.int .i64 l.at_.line,.int .i64 l.at_.col] 174 (0,0)):=by rw[hW];exact QS _ _
 have HW:=hI hW.symm;have u0:W.cell? ⟨i.heap.size,0,none⟩=some (.int .i64 l.kind):=by rw[aa B];rfl
 have u1:W.cell? ⟨i.heap.size,1,none⟩=some (.int .i64 l.U7):=by rw[aa B];rfl
 have r:=P.Vb kW;have EW:=E.Vb r.kept;obtain⟨p0,p1,p2⟩:=r.ply.ctx.cells;obtain⟨p3,p4⟩:=r.ply.cells;have a5:=r.ply.bag.lt;have ba:=ae B;clear hW
 cases hk:(l.kind==3)
 ·have o:=hn hk
  have K:Hid (ju w x y (n.map Ex.xs) (H.map Ex.xs) l=if sM w l.U7=true then(iV w l.U7 x y (H.map Ex.xs),(H.map Ex.xs).take (H.length-(aK w l.U7).length)) else((0,w[l.U7].U6),H.map Ex.xs)):=by
   show _=_
   unfold ju;rw[hk,Ri,Ri,zV w _ o];rfl
  have Y:Hid (∀C,ab [] W C->C.cell? ⟨a,0,none⟩=some (.pointer (some ⟨v,d,none⟩))/\C.cell? ⟨i.heap.size,1,none⟩=some (.int .i64 l.U7)):=by
   intro C k;refine⟨(r.Vb k).ply.ctx.cells.1,?_⟩;rw[aa (k.get B (by simp))];rfl
  have ag:=hI (fun(c:World) (F:ab [] W c)=>a9 v d l.U7 w T c (EW.Vb F).recd o)
  have HZ:Hid (∀c,ab [] (W.alloc (.cells #[.int .i64 0,.string ⟨#[]⟩,.slice none 0 0,.slice none 0 0,.string ⟨#[]⟩,.int .i64 0,.int .i64 0,.int .i64 0] 158)).drew c->c.cell? ⟨W.heap.size,0,none⟩=some (.int .i64 0)/\c.cell? ⟨W.heap.size,1,none⟩=some (.string ⟨#[]⟩)/\c.cell? ⟨W.heap.size,2,none⟩=some (.slice none 0 0)/\c.cell? ⟨W.heap.size,3,none⟩=some (.slice none 0 0)/\c.cell? ⟨W.heap.size,4,none⟩=some (.string ⟨#[]⟩)/\c.cell? ⟨W.heap.size,5,none⟩=some (.int .i64 0)/\c.cell? ⟨W.heap.size,6,none⟩=some (.int .i64 0)/\c.cell? ⟨W.heap.size,7,none⟩=some (.int .i64 0)/\∀al,c.frozen? ⟨W.heap.size,al,none⟩=false):=by
   intro c k;have q:=k.get (show(W.alloc (.cells #[.int .i64 0,.string ⟨#[]⟩,.slice none 0 0,.slice none 0 0,.string ⟨#[]⟩,.int .i64 0,.int .i64 0,.int .i64 0] 158)).drew.heap[W.heap.size]?=_ from QS _ _) (by simp);refine⟨?_,?_,?_,?_,?_,?_,?_,?_,fun al=>am q al⟩ <;> (rw[aa q];rfl)
  have aT:W.heap.size≠a:=by omega
  have a1:a≠W.heap.size:=by omega
  have aS:W.heap.size≠i.heap.size:=by omega
  have a3:i.heap.size≠W.heap.size:=by omega
  clear p1 p2 p3 p4;go_enter func239,ntmps239
  go_upto_region 1 with fail
  rw[HW.out]
  go_upto_region 5 with fail
  go_region_held3 (fun C=>C.cell? ⟨a,0,none⟩=some (.pointer (some ⟨v,d,none⟩))/\C.cell? ⟨i.heap.size,1,none⟩=some (.int .i64 l.U7)) (go_keep) (first | (go_at_call 97;refine(ag.out _ (by exact(ab.refl [] W).drew)).mono ?_;rintro e c ⟨rfl,F⟩;obtain⟨x0,x1⟩:=Y.out c ((ab.refl [] _).drew.trans F);unfold ee) | (go_at_call 97;refine(ag.out _ (by exact((ab.refl [] W).alloc _).drew)).mono ?_;rintro e c ⟨rfl,F⟩;obtain⟨x0,x1⟩:=Y.out c (((ab.refl [] W).alloc _).drew.trans F);obtain⟨q0,q1,q2,q3,q4,q5,q6,q7,qf⟩:=HZ.out c F;unfold ee))
  ·obtain⟨X,J⟩:∃X,X=c.alloc (.cells #[.int .i64 w[l.U7].kind,.string w[l.U7].label,.slice (T (10+2*l.U7)).ao w[l.U7].U6.length (T (10+2*l.U7)).cap,.slice (T (11+2*l.U7)).ao w[l.U7].Vh.length (T (11+2*l.U7)).cap,.string w[l.U7].fin.file,.int .i64 w[l.U7].fin.line,.int .i64 w[l.U7].fin.col,.int .i64 w[l.U7].til] 158):=⟨_,rfl⟩
   have G:ab [] W X:=by rw[J];exact((ab.refl [] _).drew.trans F).alloc _
   have j:X.heap[c.heap.size]?=some (.cells #[.int .i64 w[l.U7].kind,.string w[l.U7].label,.slice (T (10+2*l.U7)).ao w[l.U7].U6.length (T (10+2*l.U7)).cap,.slice (T (11+2*l.U7)).ao w[l.U7].Vh.length (T (11+2*l.U7)).cap,.string w[l.U7].fin.file,.int .i64 w[l.U7].fin.line,.int .i64 w[l.U7].fin.col,.int .i64 w[l.U7].til] 158 (0,0)):=by rw[J];exact QS _ _
   rw[<-J];clear J x0 x1 u0 u1 p0;have m0:X.cell? ⟨c.heap.size,0,none⟩=some (.int .i64 w[l.U7].kind):=by rw[aa j];rfl
   have m1:X.cell? ⟨c.heap.size,1,none⟩=some (.string w[l.U7].label):=by rw[aa j];rfl
   have m2:X.cell? ⟨c.heap.size,2,none⟩=some (.slice (T (10+2*l.U7)).ao w[l.U7].U6.length (T (10+2*l.U7)).cap):=by rw[aa j];rfl
   have m3:X.cell? ⟨c.heap.size,3,none⟩=some (.slice (T (11+2*l.U7)).ao w[l.U7].Vh.length (T (11+2*l.U7)).cap):=by rw[aa j];rfl
   have m4:X.cell? ⟨c.heap.size,4,none⟩=some (.string w[l.U7].fin.file):=by rw[aa j];rfl
   have Z:X.cell? ⟨c.heap.size,5,none⟩=some (.int .i64 w[l.U7].fin.line):=by rw[aa j];rfl
   have m6:X.cell? ⟨c.heap.size,6,none⟩=some (.int .i64 w[l.U7].fin.col):=by rw[aa j];rfl
   have m7:X.cell? ⟨c.heap.size,7,none⟩=some (.int .i64 w[l.U7].til):=by rw[aa j];rfl
   have PX:=r.Vb G;have ap:=ae j;obtain⟨x0,x1⟩:=Y.out X G;have g:=hI (z9 w l.U7 o)
   cases p:qP w[l.U7].kind
   ·have h:Hid (ju w x y (n.map Ex.xs) (H.map Ex.xs) l=((0,w[l.U7].U6),H.map Ex.xs)):=by show _=_;rw[K.out,g.out,p];rfl
    clear K g
    go_upto_region 8 with (go_at_call 160;refine(dc w[l.U7].kind _ _ _ _ _ _ _ _).mono ?_;rintro e D ⟨rfl,A⟩;have O:=A.get j (by simp))
    have an:D.cell? ⟨c.heap.size,2,none⟩=some (.slice (T (10+2*l.U7)).ao w[l.U7].U6.length (T (10+2*l.U7)).cap):=by rw[aa O];rfl
    have I:=E.recd.Vn.syms l.U7 w[l.U7] (QP o);have kk:=(G.trans A);have s:=r.Vb kk;clear m0 m1 m2 m3 m4 Z m6 m7;go_wp2
    exact QY (v:=.tuple #[.slice (T (10+2*l.U7)).ao w[l.U7].U6.length (T (10+2*l.U7)).cap,.int .i64 0]) (by simp[results,results239,go_sem]) rfl
     ⟨H,⟨T (10+2*l.U7),w[l.U7].U6⟩,by rw[h.out],by rw[h.out],s,⟨I.view.Vb s.kept,fun az N=>⟨QX (I.lt N) s.kept.size,by have:=I.lt N;have:=P.hb;omega,fun z6=>by have:=P.hin az z6;have:=I.lt N;omega⟩⟩,fun _=>by rw[h.out],QR _⟩
   ·have h:Hid (ju w x y (n.map Ex.xs) (H.map Ex.xs) l=(iV w l.U7 x y (H.map Ex.xs),(H.map Ex.xs).take (H.length-(aK w l.U7).length))):=by show _=_;rw[K.out,g.out,p];rfl
    have M:sM w l.U7=true:=by rw[g.out,p]
    clear K g
    go_upto_region 7 with (go_at_call 160;refine(dc w[l.U7].kind _ _ _ _ _ _ _ _).mono ?_;rintro e D ⟨rfl,A⟩)
    obtain⟨y0,y1⟩:=Y.out D (G.trans A);have s:=PX.Vb A;clear m0 m1 m2 m3 m4 Z m6 m7;go_wp2_with fail;refine(yh z7 D a v d S b l.U7 w T y5 x y y9 z6 n H f E s o M ad).mono ?_;rintro e w6 ⟨Q,m,rfl,z,P6,F6,V,R⟩;have U:=hI z;clear z;go_wp2
    exact QY (v:=.tuple #[.slice m.hd.ao m.xs.length m.hd.cap,.int .i64 (iV w l.U7 x y (H.map Ex.xs)).1]) (by simp[results,results239,go_sem]) rfl
     ⟨Q,m,by rw[h.out],by rw[h.out];exact U.out,P6,F6,fun hh=>by rw[h.out]at hh ⊢;rw[V hh,UL],R⟩
  ·obtain⟨X,J⟩:∃X,X=(((((((c.setCell ⟨W.heap.size,0,none⟩ (.int .i64 w[l.U7].kind)).setCell ⟨W.heap.size,1,none⟩ (.string w[l.U7].label)).setCell ⟨W.heap.size,2,none⟩ (.slice (T (10+2*l.U7)).ao w[l.U7].U6.length (T (10+2*l.U7)).cap)).setCell ⟨W.heap.size,3,none⟩ (.slice (T (11+2*l.U7)).ao w[l.U7].Vh.length (T (11+2*l.U7)).cap)).setCell ⟨W.heap.size,4,none⟩ (.string w[l.U7].fin.file)).setCell ⟨W.heap.size,5,none⟩ (.int .i64 w[l.U7].fin.line)).setCell ⟨W.heap.size,6,none⟩ (.int .i64 w[l.U7].fin.col)).setCell ⟨W.heap.size,7,none⟩ (.int .i64 w[l.U7].til):=⟨_,rfl⟩
   have af:=(((ab.refl [] W).alloc _).drew.trans F);have ai:=F.get (show(W.alloc (.cells #[.int .i64 0,.string ⟨#[]⟩,.slice none 0 0,.slice none 0 0,.string ⟨#[]⟩,.int .i64 0,.int .i64 0,.int .i64 0] 158)).drew.heap[W.heap.size]?=_ from QS _ _) (by simp);have G:ab [] W X:=by rw[J];exact(((((((af.setCell (QV (QR _)) _).setCell (QV (QR _)) _).setCell (QV (QR _)) _).setCell (QV (QR _)) _).setCell (QV (QR _)) _).setCell (QV (QR _)) _).setCell (QV (QR _)) _).setCell (QV (QR _)) _
   have j:X.heap[W.heap.size]?=some (.cells #[.int .i64 w[l.U7].kind,.string w[l.U7].label,.slice (T (10+2*l.U7)).ao w[l.U7].U6.length (T (10+2*l.U7)).cap,.slice (T (11+2*l.U7)).ao w[l.U7].Vh.length (T (11+2*l.U7)).cap,.string w[l.U7].fin.file,.int .i64 w[l.U7].fin.line,.int .i64 w[l.U7].fin.col,.int .i64 w[l.U7].til] 158 (0,0)):=by
    rw[J,ah (ah (ah (ah (ah (ah (ah (ah ai _ _) _ _) _ _) _ _) _ _) _ _) _ _)];rfl
   rw[<-J];clear J x0 x1 u0 u1 p0 q0 q1 q2 q3 q4 q5 q6 q7 qf af ai;have m0:X.cell? ⟨W.heap.size,0,none⟩=some (.int .i64 w[l.U7].kind):=by rw[aa j];rfl
   have m1:X.cell? ⟨W.heap.size,1,none⟩=some (.string w[l.U7].label):=by rw[aa j];rfl
   have m2:X.cell? ⟨W.heap.size,2,none⟩=some (.slice (T (10+2*l.U7)).ao w[l.U7].U6.length (T (10+2*l.U7)).cap):=by rw[aa j];rfl
   have m3:X.cell? ⟨W.heap.size,3,none⟩=some (.slice (T (11+2*l.U7)).ao w[l.U7].Vh.length (T (11+2*l.U7)).cap):=by rw[aa j];rfl
   have m4:X.cell? ⟨W.heap.size,4,none⟩=some (.string w[l.U7].fin.file):=by rw[aa j];rfl
   have Z:X.cell? ⟨W.heap.size,5,none⟩=some (.int .i64 w[l.U7].fin.line):=by rw[aa j];rfl
   have m6:X.cell? ⟨W.heap.size,6,none⟩=some (.int .i64 w[l.U7].fin.col):=by rw[aa j];rfl
   have m7:X.cell? ⟨W.heap.size,7,none⟩=some (.int .i64 w[l.U7].til):=by rw[aa j];rfl
   have PX:=r.Vb G;have ap:=ae j;obtain⟨x0,x1⟩:=Y.out X G;have g:=hI (z9 w l.U7 o)
   cases p:qP w[l.U7].kind
   ·have h:Hid (ju w x y (n.map Ex.xs) (H.map Ex.xs) l=((0,w[l.U7].U6),H.map Ex.xs)):=by show _=_;rw[K.out,g.out,p];rfl
    clear K g
    go_upto_region 8 with (go_at_call 160;refine(dc w[l.U7].kind _ _ _ _ _ _ _ _).mono ?_;rintro e D ⟨rfl,A⟩;have O:=A.get j (by simp))
    have an:D.cell? ⟨W.heap.size,2,none⟩=some (.slice (T (10+2*l.U7)).ao w[l.U7].U6.length (T (10+2*l.U7)).cap):=by rw[aa O];rfl
    have I:=E.recd.Vn.syms l.U7 w[l.U7] (QP o);have kk:=(G.trans A);have s:=r.Vb kk;clear m0 m1 m2 m3 m4 Z m6 m7;go_wp2
    exact QY (v:=.tuple #[.slice (T (10+2*l.U7)).ao w[l.U7].U6.length (T (10+2*l.U7)).cap,.int .i64 0]) (by simp[results,results239,go_sem]) rfl
     ⟨H,⟨T (10+2*l.U7),w[l.U7].U6⟩,by rw[h.out],by rw[h.out],s,⟨I.view.Vb s.kept,fun az N=>⟨QX (I.lt N) s.kept.size,by have:=I.lt N;have:=P.hb;omega,fun z6=>by have:=P.hin az z6;have:=I.lt N;omega⟩⟩,fun _=>by rw[h.out],QR _⟩
   ·have h:Hid (ju w x y (n.map Ex.xs) (H.map Ex.xs) l=(iV w l.U7 x y (H.map Ex.xs),(H.map Ex.xs).take (H.length-(aK w l.U7).length))):=by show _=_;rw[K.out,g.out,p];rfl
    have M:sM w l.U7=true:=by rw[g.out,p]
    clear K g
    go_upto_region 7 with (go_at_call 160;refine(dc w[l.U7].kind _ _ _ _ _ _ _ _).mono ?_;rintro e D ⟨rfl,A⟩)
    obtain⟨y0,y1⟩:=Y.out D (G.trans A);have s:=PX.Vb A;clear m0 m1 m2 m3 m4 Z m6 m7;go_wp2_with fail;refine(yh z7 D a v d S b l.U7 w T y5 x y y9 z6 n H f E s o M ad).mono ?_;rintro e w6 ⟨Q,m,rfl,z,P6,F6,V,R⟩;have U:=hI z;clear z;go_wp2
    exact QY (v:=.tuple #[.slice m.hd.ao m.xs.length m.hd.cap,.int .i64 (iV w l.U7 x y (H.map Ex.xs)).1]) (by simp[results,results239,go_sem]) rfl
     ⟨Q,m,by rw[h.out],by rw[h.out];exact U.out,P6,F6,fun hh=>by rw[h.out]at hh ⊢;rw[V hh,UL],R⟩
 ·have a6:decide ((l.U7:Int)<0)=false:=by simp
  by_cases u:l.U7<n.length
  ·have h:Hid (ju w x y (n.map Ex.xs) (H.map Ex.xs) l=((0,n[l.U7].xs),H.map Ex.xs)):=by
    show _=_
    unfold ju;rw[hk,QW rfl,Ri,QW u,QQ];simp[u]
   have ar:decide ((l.U7:Int) ≥ n.length)=false:=by simp;omega
   have a0:(l.U7:Int)<n.length:=by omega
   have oS:aw W (f 0) (gn n):=r.ply.bag.own 0
   rcases oS.Vm with ⟨_,h0,_⟩ | ⟨gs,a2,es,-,ax,-⟩
   ·have:n.length=0:=h0
    omega
   have cs:=oS.cell es l.U7 (v6 n[l.U7]) (sB n l.U7 u);have a7:n.length<=(f 0).cap:=ax;have ac:=(r.ply.shs n[l.U7] (Rb u)).1;rw[es]at p3;unfold v6 at cs;generalize n[l.U7]=t at *;clear p0 p1 p2 p4 oS es;go_enter func239,ntmps239
   go_upto_region 1 with fail
   rw[HW.out]
   go_upto_region 2 with fail
   go_quiet (fail)
   go_upto_region 4 with fail
   go_quiet (fail)
   go_wp2
   exact QY (v:=.tuple #[.slice t.hd.ao t.xs.length t.hd.cap,.int .i64 0]) (by simp[results,results239,go_sem]) rfl
    ⟨H,t,by rw[h.out],by rw[h.out],r.Vb (((ab.refl [] _).drewN _).drewN _),ac.Vb (((ab.refl [] _).drewN _).drewN _),fun _=>by rw[h.out],QR _⟩
  ·have h:Hid (ju w x y (n.map Ex.xs) (H.map Ex.xs) l=((5,[]),H.map Ex.xs)):=by
    show _=_
    unfold ju;rw[hk,QW rfl,Ri,QT u]
   have ar:decide ((l.U7:Int) ≥ n.length)=true:=by simp;omega
   clear p0 p1 p2 p4;go_enter func239,ntmps239
   go_upto_region 1 with fail
   rw[HW.out]
   go_upto_region 2 with fail
   go_quiet (fail)
   go_wp2
   exact QY (v:=.tuple #[.slice none 0 0,.int .i64 5]) (by simp[results,results239,go_sem]) rfl
    ⟨H,⟨⟨none,0⟩,[]⟩,by rw[h.out];rfl,by rw[h.out],r.Vb ((ab.refl [] _).drewN _),sC _ _ _,by rw[h.out];simp,QR _⟩
def nh(l:List St)(vs:List ByteArray)(ms:List Bool)(S:List (List ByteArray)×List (List ByteArray))(s:nF):Int×List (List ByteArray)×List (List ByteArray) :=
 if((ju l vs ms S.1 S.2 s).1.1==0)=true then
  (if(ju l vs ms S.1 S.2 s).1.2.length<=32 then(0,S.1++[(ju l vs ms S.1 S.2 s).1.2],(ju l vs ms S.1 S.2 s).2++[(ju l vs ms S.1 S.2 s).1.2]) else(10,S))
 else((ju l vs ms S.1 S.2 s).1.1,S)
theorem l9.turned{b a:List Ex}(h:l9 L y2 I z4 zb zt y6 ya z5 yd N)(t:aA I y2 N yu yg)(d:a8 yu I 307 (id z4 zb zt y6 ya b a yg) (pn b a) yg)(g:∀e∈b,rd y2 I N e.hd e.xs/\e.xs.length<=32)(f:∀e∈a,rd y2 I N e.hd e.xs/\e.xs.length<=32):l9 L yu I z4 zb zt y6 ya b a yg:=by
 refine⟨⟨d,fun e c=>⟨(g e c).1.turned t,(g e c).2⟩,fun e c=>⟨(f e c).1.turned t,(f e c).2⟩⟩,h.kept.ofP t.1 ?_,h.hb,fun x i=>?_⟩
 ·rintro x (e | e)
  ·have:=h.hb;omega
  ·exact h.hin x e
 ·rcases t.2 x i with e | e
  ·exact h.hin x e
  ·exact Q3 h.kept.size e
theorem LT(E:DB z7 v d S b w T y5 x y y9 z6)(P:l9 z7 i a v d S w.length b n H f)(hn:(l.kind==3)=false->l.U7<w.length)(ap:l.U7<=2000000)(ar:H.length<=2000000)(a1:n.length<=2000000) :
  Calls prog 210 #[.pointer (some ⟨a,0,none⟩),.agg #[.int .i64 l.kind,.int .i64 l.U7,.string l.at_.file,.int .i64 l.at_.line,.int .i64 l.at_.col]] i fun e w'=>∃(N G:List Ex) (H':Nat->Hd),
   e=.returned (.int .i64 (nh w x y (n.map Ex.xs,H.map Ex.xs) l).1)/\l9 z7 w' a v d S w.length b N G H' /\
   (((nh w x y (n.map Ex.xs,H.map Ex.xs) l).1==0)=true->(N.map Ex.xs,G.map Ex.xs)=(nh w x y (n.map Ex.xs,H.map Ex.xs) l).2)/\G.length<=H.length+1/\N.length<=n.length+1:=by
 obtain⟨i1,R,U,af,ai⟩:=Re Lu;obtain⟨W,hW⟩:∃W,W=i.alloc (.cells #[.int .i64 l.kind,.int .i64 l.U7,.string l.at_.file,.int .i64 l.at_.line,.int .i64 l.at_.col] 174):=⟨_,rfl⟩
 have kW:ab [] i W:=by rw[hW];exact(ab.refl [] _).alloc _
 have B:W.heap[i.heap.size]?=some (.cells #[.int .i64 l.kind,.int .i64 l.U7,.string l.at_.file,.int .i64 l.at_.line,.int .i64 l.at_.col] 174 (0,0)):=by rw[hW];exact QS _ _
 have HW:=hI hW.symm;have u0:W.cell? ⟨i.heap.size,0,none⟩=some (.int .i64 l.kind):=by rw[aa B];rfl
 have u1:W.cell? ⟨i.heap.size,1,none⟩=some (.int .i64 l.U7):=by rw[aa B];rfl
 have u2:W.cell? ⟨i.heap.size,2,none⟩=some (.string l.at_.file):=by rw[aa B];rfl
 have u3:W.cell? ⟨i.heap.size,3,none⟩=some (.int .i64 l.at_.line):=by rw[aa B];rfl
 have u4:W.cell? ⟨i.heap.size,4,none⟩=some (.int .i64 l.at_.col):=by rw[aa B];rfl
 have PW:=P.Vb kW;have SH:=Mt z7 W a v d S b l w T y5 x y y9 z6 n H f E PW hn ap ar
 have ag:Hid (∀q,ju w x y (n.map Ex.xs) (H.map Ex.xs) l=q->nh w x y (n.map Ex.xs,H.map Ex.xs) l=if(q.1.1==0)=true then(if q.1.2.length<=32 then(0,n.map Ex.xs++[q.1.2],q.2++[q.1.2]) else(10,n.map Ex.xs,H.map Ex.xs)) else(q.1.1,n.map Ex.xs,H.map Ex.xs)):=by
  intro q z;subst z;rfl
 have s:=hI (ag.out _ rfl);generalize ju w x y (n.map Ex.xs) (H.map Ex.xs) l=Q at *;obtain⟨⟨q,xs⟩,t2⟩:=Q;simp only at SH s;clear hW ag B;go_enter func210,ntmps210
 go_upto_region 1 with fail
 rw[HW.out];go_wp2_with fail;refine SH.mono ?_;rintro e w2 ⟨g,c,rfl,al,I,F2,ac,a0⟩;subst al
 cases z:(q==0)
 ·have aS:(q != 0)=true:=by simp[bne,z]
  have F:Hid (nh w x y (n.map Ex.xs,H.map Ex.xs) l=(q,n.map Ex.xs,H.map Ex.xs)):=by show _=_;rw[s.out,z];rfl
  clear s SH u0 u1 u2 u3 u4;go_wp2;go_ret;exact⟨n,g,f,QN (by rw[F.out]),I,fun hh=>by rw[F.out]at hh;exact absurd (z.symm.trans hh) (by simp),by omega,by omega⟩
 ·have aS:(q != 0)=false:=by simp[bne,z]
  by_cases t:c.xs.length<=32
  ·have az:¬((c.xs.length:Int) > 32):=by omega
   have F:Hid (nh w x y (n.map Ex.xs,H.map Ex.xs) l=(0,n.map Ex.xs++[c.xs],t2++[c.xs])):=by show _=_;rw[s.out,z,QW rfl,QW t]
   have an:=hI (ac z);clear s SH u0 u1 u2 u3 u4 ac
   go_upto_region 6 with fail
   have D2:=I.ply.bag;have p3:=I.ply.cells.1;have y3:=D2.free;have aT:=D2.lt;have J:=D2.Vb ((ab.refl [] w2).alloc (.cells #[.slice c.hd.ao c.xs.length c.hd.cap] 61))
   have ax:Hid (∀j,j≠0->pn (n++[c]) g j=pn n g j):=by
    intro j k
    match j,k with
    | 0,k=>exact absurd rfl k
    | 1,_=>rfl
    | m+2,_=>rfl
   have O:Hid (∀j,j≠1->pn (n++[c]) (g++[c]) j=pn (n++[c]) g j):=by
    intro j k
    match j,k with
    | 0,_=>rfl
    | 1,k=>exact absurd rfl k
    | m+2,_=>rfl
   go_wp2_with (at_builtin;refine aM _ rfl (.tmp 23) (.tmp 25) 218 rfl i1 (.slice none 0 0) 24 (f 0) (gn n) underlying218 R U af ai rfl Rc rfl (by exact J.own 0) ⟨_,0,none⟩ 1 1 [.slice c.hd.ao c.xs.length c.hd.cap] rfl rfl ?e1 ?e2 Rc ?e3 ?e4 ?_)
   case e1=>intro j u k;match j,k with | 0,k=>simp at k;subst k;simp[Addr.add]
   case e2=>intro u Z;simp at Z;subst Z;rfl
   case e3=>simp only[gn];unfold maxLen;omega
   case e4=>simp only[gn];omega
   intro L h w4 ad A p;obtain⟨k4,f4,K⟩:=J.app (cs':=id v d S w.length b (n++[c]) g (g9 f 0 ⟨some ⟨L,0,none⟩,h⟩)) (rows':=pn (n++[c]) g) 3 0 L h ((gn n).n+1) _ ad (ug n c) A (by simpa using p) ax.out (.slice (f 0).ao n.length (f 0).cap) rfl (by simp[id,g9,gn]);clear ad A p J p3 y3
   go_upto_region 7 with fail
   generalize hX:w4.setCell ⟨a,3,none⟩ (.slice (some ⟨L,0,none⟩) ((gn n).n+1) h)=X at K ⊢;have DX:=K.out.1;have TX:=hI (K.out.2.first ((ab.refl [] _).alloc _));have p4:=DX.cell 4;simp only[id,List.getElem?_cons_succ,List.getElem?_cons_zero]at p4;have y4:=DX.free;have a2:=DX.lt;have M:=DX.Vb ((ab.refl [] X).alloc (.cells #[.slice c.hd.ao c.xs.length c.hd.cap] 61));clear hX k4 f4;go_wp2_with (at_builtin;refine aM _ rfl (.tmp 33) (.tmp 35) 218 rfl i1 (.slice none 0 0) 24 (g9 f 0 ⟨some ⟨L,0,none⟩,h⟩ 1) (gn g) underlying218 R U af ai rfl Rc rfl (by exact M.own 1) ⟨_,0,none⟩ 1 1 [.slice c.hd.ao c.xs.length c.hd.cap] rfl rfl ?e1 ?e2 Rc ?e3 ?e4 ?_)
   case e1=>intro j u k;match j,k with | 0,k=>simp at k;subst k;simp[Addr.add]
   case e2=>intro u Z;simp at Z;subst Z;rfl
   case e3=>simp only[gn];unfold maxLen;omega
   case e4=>simp only[gn];omega
   intro g6 C w6 V D o;obtain⟨k6,f6,Y⟩:=M.app (cs':=id v d S w.length b (n++[c]) (g++[c]) (g9 (g9 f 0 ⟨some ⟨L,0,none⟩,h⟩) 1 ⟨some ⟨g6,0,none⟩,C⟩)) (rows':=pn (n++[c]) (g++[c])) 4 1 g6 C ((gn g).n+1) _ V (ug g c) D (by simpa using o) O.out (.slice (g9 f 0 ⟨some ⟨L,0,none⟩,h⟩ 1).ao g.length (g9 f 0 ⟨some ⟨L,0,none⟩,h⟩ 1).cap) rfl (by simp[id,g9,gn]);have T6:=hI (aA.trans TX.out (Y.out.2.first ((ab.refl [] _).alloc _)));clear V D o M p4 y4;go_wp2;go_ret;refine⟨n++[c],g++[c],_,QN (by rw[F.out]),I.turned T6.out Y.out.1 (fun e r=>?_) (fun e r=>?_),fun _=>by rw[F.out];simp[an.out],by simp;omega,by simp⟩
   ·rw[Rr]at r
    rcases r with r | r
    ·exact I.ply.shs e r
    ·simp at r;subst r;exact⟨F2,t⟩
   ·rw[Rr]at r
    rcases r with r | r
    ·exact I.ply.ths e r
    ·simp at r;subst r;exact⟨F2,t⟩
  ·have az:(c.xs.length:Int) > 32:=by omega
   have F:Hid (nh w x y (n.map Ex.xs,H.map Ex.xs) l=(10,n.map Ex.xs,H.map Ex.xs)):=by show _=_;rw[s.out,z,QW rfl,QT t]
   clear s SH u0 u1 u2 u3 u4;go_wp2;go_ret;exact⟨n,g,f,QN (by rw[F.out]),I,by rw[F.out];simp,by omega,by omega⟩
def OD(fin:Pl)(goal:List ByteArray)(th:List (List ByteArray)):pA :=
 match th with
 | []=>(12,fin)
 | [x]=>if Dv x goal=true then cY else(12,fin)
 | _ :: _ :: _=>(11,fin)
def oK(l:List St)(vs:List ByteArray)(ms:List Bool)(fin:Pl)(goal:List ByteArray):List nF->List (List ByteArray)×List (List ByteArray)->pA
 | [],S=>OD fin goal S.2
 | s :: r,S=>if((nh l vs ms S s).1==0)=true then oK l vs ms fin goal r (nh l vs ms S s).2 else((nh l vs ms S s).1,s.at_)
def gJ(l:List St)(a:Nat)(s:St)(steps:List nF):pA:=oK l (yi l a) (fN l a (yi l a)) s.fin s.U6 steps ([],[])
theorem EV(a:o<D.length) :
  oK w x y yv yy (D.drop o) ys=if((nh w x y ys D[o]).1==0)=true then oK w x y yv yy (D.drop (o+1)) (nh w x y ys D[o]).2 else((nh w x y ys D[o]).1,D[o].at_):=by
 rw[Rf a];rfl
theorem CD(a:¬o<D.length) :
  oK w x y yv yy (D.drop o) ys=OD yv yy ys.2:=by
 rw[R8 (by omega)];rfl
theorem JU(l:List nF)(k:Nat)(a:k<l.length)(j:Nat)(d:j<5):(xi l)[k*5+j]?=(lh l[k])[j]?:=by
 induction l generalizing k with
 | nil=>simp at a
 | cons s r c =>
  have e:xi (s :: r)=lh s++xi r:=rfl;rw[e]
  cases k with
  | zero=>rw[Q7 (by simp[lh];omega)];simp
  | succ k =>
   rw[Q5 (by simp[lh];omega)];have b:(k+1)*5+j-(lh s).length=k*5+j:=by simp[lh];omega
   rw[b,c k (by simpa using a)];rfl
theorem aw.step{l:List nF}(o:aw L y8 (go l))(k:Nat)(e:k<l.length) :
  ∃g,y8.ao=some ⟨g,0,none⟩/\l.length<=y8.cap/\y8.cap<=9223372036854775807/\L.cell? ⟨g,k*5,none⟩=some (.int .i64 l[k].kind)/\L.cell? ⟨g,k*5+1,none⟩=some (.int .i64 l[k].U7)/\L.cell? ⟨g,k*5+2,none⟩=some (.string l[k].at_.file)/\L.cell? ⟨g,k*5+3,none⟩=some (.int .i64 l[k].at_.line)/\L.cell? ⟨g,k*5+4,none⟩=some (.int .i64 l[k].at_.col):=by
 rcases o.Vm with ⟨_,f,_⟩ | ⟨g,h,a,n,m,b,-⟩
 ·have:l.length=0:=f
  omega
 ·have c:=fun j (i:j<5) v (d:(lh l[k])[j]?=some v)=>o.cell a (k*5+j) v ((JU l k e j i).trans d)
  exact⟨g,a,m,by unfold maxLen at b;exact b,c 0 (by omega) _ rfl,c 1 (by omega) _ rfl,c 2 (by omega) _ rfl,c 3 (by omega) _ rfl,c 4 (by omega) _ rfl⟩
structure FS(l:List St)(steps:List nF):Prop where
 len:steps.length<=1100000
 num:∀s∈steps,s.U7<=2000000
 named:∀s∈steps,(s.kind==3)=false->s.U7<l.length
theorem Kp(hr:dF M v d w T)(ok:iH w)(ha:b<w.length)(ag:gW M S w w.length y5)(hO:aw M y7 (go D))(U:FS w D) :
  Calls prog 162 #[.pointer (some ⟨v,d,none⟩),.int .i64 b,.slice (some ⟨S,0,none⟩) w.length w.length,.slice y7.ao D.length y7.cap] M fun e a =>
   e=.returned (gU (gJ w b w[b] D))/\ab [] M a:=by
 have bc:=hr.lt;have a5:=ok.len;have br:=U.len;have bf:=ok.syms b ha;obtain⟨AO,ai⟩:∃AO,Hid (y7.ao=AO):=⟨_,rfl⟩
 rw[ai.out];obtain⟨W,hW⟩:∃W,W=M.alloc (.cells #[.int .i64 0,.string ⟨#[]⟩,.int .i64 0,.int .i64 0] 165):=⟨_,rfl⟩
 have kW:ab [] M W:=by rw[hW];exact(ab.refl [] _).alloc _
 have BF:W.heap[M.heap.size]?=some (.cells bA 165 (0,0)):=by rw[hW];exact QS _ _
 have HW:=hI hW.symm;have bv:(yi w b).length<=w.length:=Bd w b w.length;clear hW;go_enter func162,ntmps162
 go_upto_region 1 with fail
 rw[HW.out]
 go_upto_region 2 with (go_at_call 208;refine(qF v d b w T _ (by exact hr.Vb kW) ok).mono ?_;rintro e w2 ⟨aS,rfl,ar,bg,k2⟩)
 have K2:=kW.trans k2;go_wp2_with (go_at_call 209;refine(DH v d b w T aS (yi w b) _ (by exact hr.Vb K2) ok (by exact ar) (by omega)).mono ?_;rintro e p ⟨tb,hv,hm,rfl,A3,bp,bz,k3⟩);have K3:=K2.trans k3;have R:=(k2.trans k3).get BF (by simp);have E:DB p v d S tb w T y5 (yi w b) (fN w b (yi w b)) hv hm:=⟨hr.Vb K3,ok,ag.Vb K3,A3,ko _ _ _ _,by omega⟩;have t:aw p y7 (go D):=hO.Vg (fun x K=>K3.block x (hO.lt K) (by simp))
 have P4:l9 p (p.alloc (.cells #[.pointer (some ⟨v,d,none⟩),.slice (some ⟨S,0,none⟩) w.length w.length,.pointer (some ⟨tb,0,none⟩),.slice none 0 0,.slice none 0 0] 307)) p.heap.size v d S w.length tb [] [] mE:=by
  refine⟨⟨⟨QS _ _,?_,fun i j _=>Q1 rfl,fun i e=>by simp[mE,Hd.blk]at e⟩,by simp,by simp⟩,(ab.refl [] _).alloc _,QR _,fun x K=>by obtain⟨i,hi⟩:=K;simp[mE,Hd.blk]at hi⟩;intro i
  match i with
  | 0=>exact QZ _ _ _ _
  | 1=>exact QZ _ _ _ _
  | m+2=>exact QZ _ _ _ _
 have be:=ae R
 go_loopg [11] D.length (fun gk iv wr=>∃(i:Nat) (C l:List Ex) (H:Nat->Hd),i<=D.length/\gk=D.length-i/\iv=.int .i64 i/\C.length<=i/\l.length<=i/\Hid (gJ w b w[b] D=oK w (yi w b) (fN w b (yi w b)) w[b].fin w[b].U6 (D.drop i) (C.map Ex.xs,l.map Ex.xs))/\l9 p wr p.heap.size v d S w.length tb C l H)
 case atStart=>exact⟨0,[],[],mE,by omega,by omega,rfl,by simp,by simp,rfl,P4⟩
 case round =>
  obtain⟨i,C,l,H,hi,hg,rfl,bo,bk,hR,P⟩:=hrel;clear P4;have B:=P.kept.get R (by simp);obtain⟨o,f,g,r⟩:=da B;have G:=am B;have KW:=K3.trans P.kept;have aT:=hI (fun a0 a1 a2 a3=>kH (F:=M.heap.size) KW (QR _) a0 a1 a2 a3)
  by_cases n:i<D.length
  ·have V:aw wr y7 (go D):=t.Vg (fun x K=>P.kept.block x (t.lt K) (by simp))
   obtain⟨gp,ep,ba,ax,d0,d1,d2,d3,d4⟩:=V.step i n;obtain rfl:AO=some ⟨gp,0,none⟩:=ai.out.symm.trans ep;have bj:gp<wr.heap.size:=V.lt (by unfold Hd.blk;rw[ep];rfl);have h1:=U.num D[i] (Rb n);have h2:=U.named D[i] (Rb n);have h:=hI (hR.out.trans (EV w (yi w b) (fN w b (yi w b)) w[b].fin w[b].U6 D (C.map Ex.xs,l.map Ex.xs) i n));have PA:=LT p wr p.heap.size v d S tb D[i] w T y5 (yi w b) (fN w b (yi w b)) hv hm C l H E P h2 h1 (by omega) (by omega)
   have ac:Hid (∀a,ab [] p a->a.cell? ⟨gp,i*5+2,none⟩=some (.string D[i].at_.file)/\a.cell? ⟨gp,i*5+3,none⟩=some (.int .i64 D[i].at_.line)/\a.cell? ⟨gp,i*5+4,none⟩=some (.int .i64 D[i].at_.col)):=by
    intro a k;obtain⟨bw,an,-,-,-,-,q2,q3,q4⟩:=(t.Vg (w':=a) (fun x K=>k.block x (t.lt K) (by simp))).step i n;rw[ep]at an
    cases an
    exact⟨q2,q3,q4⟩
   clear hR ep V;generalize D[i]=st at *;obtain⟨sk,sn,J,N,I⟩:=st;simp only at d0 d1 d2 d3 d4 PA ac h;generalize nh w (yi w b) (fN w b (yi w b)) (C.map Ex.xs,l.map Ex.xs) ⟨sk,sn,⟨J,N,I⟩⟩=Q at *;obtain⟨q,Q2⟩:=Q;simp only at PA h
   cases hq:(q==0)
   ·have a4:(q != 0)=true:=by simp[bne,hq]
    have s:Hid (gJ w b w[b] D=(q,⟨J,N,I⟩)):=by show _=_;rw[h.out,QT (by rw[hq];simp)]
    clear h
    go_upto_region 8 with (go_at_call 210;refine PA.mono ?_;rintro e c ⟨ad,al,H5,rfl,P5,ap,-,-⟩)
    obtain⟨c2,c3,c4⟩:=ac.out c P5.kept;have O:=P5.kept.get R (by simp);clear o f g r G d0 d1 d2 d3 d4 aT;obtain⟨o,f,g,r⟩:=da O;have G:=am O;have K5:=K3.trans P5.kept;go_wp2
    exact QY (v:=.agg #[.int .i64 q,.string J,.int .i64 N,.int .i64 I]) (by simp[results,results162,go_sem,o,f,g,r]) rfl
     ⟨by rw[s.out];rfl,kH (F:=M.heap.size) K5 (QR _) _ _ _ _⟩
   ·have a4:(q != 0)=false:=by simp[bne,hq]
    have s:Hid (gJ w b w[b] D=oK w (yi w b) (fN w b (yi w b)) w[b].fin w[b].U6 (D.drop (i+1)) Q2):=by show _=_;rw[h.out,QW hq]
    clear h;go_wp2_with (go_at_call 210;refine PA.mono ?_;rintro e c ⟨ad,al,H5,rfl,P5,ap,bd,bs⟩)
    go_roundg (D.length-(i+1))
    case measure=>omega
    case rel=>exact⟨i+1,ad,al,H5,by omega,rfl,by go_num,by omega,by omega,by show _=_;rw[ap hq];exact s.out,P5⟩
  ·have HE:=hI (hR.out.trans (CD w (yi w b) (fN w b (yi w b)) w[b].fin w[b].U6 D (C.map Ex.xs,l.map Ex.xs) i n))
   have Er:=E.Vb P.kept;clear hR
   go_upto_region 10 with (go_at_call 97;refine(a9 v d b w T _ (by exact Er.recd) ha).mono ?_;rintro e c ⟨rfl,k5⟩;unfold ee)
   obtain⟨X,hX⟩:∃X,X=c.alloc (.cells #[.int .i64 w[b].kind,.string w[b].label,.slice (T (10+2*b)).ao w[b].U6.length (T (10+2*b)).cap,.slice (T (11+2*b)).ao w[b].Vh.length (T (11+2*b)).cap,.string w[b].fin.file,.int .i64 w[b].fin.line,.int .i64 w[b].fin.col,.int .i64 w[b].til] 158):=⟨_,rfl⟩
   have kX:ab [] wr X:=by rw[hX];exact k5.alloc _
   have Y:X.heap[c.heap.size]?=some (.cells #[.int .i64 w[b].kind,.string w[b].label,.slice (T (10+2*b)).ao w[b].U6.length (T (10+2*b)).cap,.slice (T (11+2*b)).ao w[b].Vh.length (T (11+2*b)).cap,.string w[b].fin.file,.int .i64 w[b].fin.line,.int .i64 w[b].fin.col,.int .i64 w[b].til] 158 (0,0)):=by rw[hX];exact QS _ _
   rw[<-hX];have PX:=P.Vb kX;have O:=kX.get B (by simp);clear hX o f g r G;obtain⟨o,f,g,r⟩:=da O;have G:=am O;have KX:=KW.trans kX;have m2:X.cell? ⟨c.heap.size,2,none⟩=some (.slice (T (10+2*b)).ao w[b].U6.length (T (10+2*b)).cap):=by rw[aa Y];rfl
   have m4:X.cell? ⟨c.heap.size,4,none⟩=some (.string w[b].fin.file):=by rw[aa Y];rfl
   have m5:X.cell? ⟨c.heap.size,5,none⟩=some (.int .i64 w[b].fin.line):=by rw[aa Y];rfl
   have m6:X.cell? ⟨c.heap.size,6,none⟩=some (.int .i64 w[b].fin.col):=by rw[aa Y];rfl
   have p4:=PX.ply.cells.2;have bx:=PX.ply.bag.lt
   rcases l with _ | ⟨x,l⟩
   ·have s:Hid (gJ w b w[b] D=(12,w[b].fin)):=HE.out
    simp only[List.length_nil]at p4;clear HE
    go_upto_region 12 with fail
    go_quiet (fail)
    go_wp2
    exact QY (v:=.agg #[.int .i64 12,.string w[b].fin.file,.int .i64 w[b].fin.line,.int .i64 w[b].fin.col]) (by simp[results,results162,go_sem,o,f,g,r]) rfl
     ⟨by rw[s.out];rfl,kH (F:=M.heap.size) (KX.drewN _) (QR _) _ _ _ _⟩
   ·rcases l with _ | ⟨y,l⟩
    ·have hE:gJ w b w[b] D=if Dv x.xs w[b].U6=true then cY else(12,w[b].fin):=HE.out
     have z:=hI hE;have oT:aw X (H 1) (gn [x]):=PX.ply.bag.own 1
     rcases oT.Vm with ⟨_,h0,_⟩ | ⟨gt,a6,et,-,az,-⟩
     ·simp[gn]at h0
     have ct:=oT.cell et 0 (v6 x) rfl;unfold v6 at ct;rw[et]at p4;simp only[List.length_cons,List.length_nil]at p4;have a7:1<=(H 1).cap:=az;have af:=(PX.ply.ths x (by simp));have u:=hI (fun(a:World) (k:ab [] X a)=>yo x.hd (T (10+2*b)) x.xs w[b].U6 a (af.1.view.Vb k) (((Er.Vb (kX.trans k)).recd.Vn.syms b w[b] (QP ha)).view) (by omega) (by omega))
     have HC:Hid (∀a,ab [] X a->a.cell? ⟨p.heap.size,4,none⟩=some (.slice (some ⟨gt,0,none⟩) 1 (H 1).cap)/\a.cell? ⟨gt,0,none⟩=some (.slice x.hd.ao x.xs.length x.hd.cap)/\a.cell? ⟨c.heap.size,2,none⟩=some (.slice (T (10+2*b)).ao w[b].U6.length (T (10+2*b)).cap)):=by
      intro a k;refine⟨?_,((PX.Vb k).ply.bag.own 1).cell et 0 (v6 x) rfl,?_⟩
      ·rw[<-et];exact(PX.Vb k).ply.cells.2
      ·rw[aa (k.get Y (by simp))];rfl
     clear hE HE et oT
     go_upto_region 12 with fail
     cases A:Dv x.xs w[b].U6
     ·have s:Hid (gJ w b w[b] D=(12,w[b].fin)):=by show _=_;rw[z.out,A];rfl
      rw[A]at u;clear z
      go_region_held3 (fun a=>a.cell? ⟨p.heap.size,4,none⟩=some (.slice (some ⟨gt,0,none⟩) 1 (H 1).cap)/\a.cell? ⟨gt,0,none⟩=some (.slice x.hd.ao x.xs.length x.hd.cap)/\a.cell? ⟨c.heap.size,2,none⟩=some (.slice (T (10+2*b)).ao w[b].U6.length (T (10+2*b)).cap)) (go_keep) (first | (go_at_call 211;refine(u.out _ (by exact(ab.refl [] X).drew)).mono ?_;rintro e w6 ⟨rfl,k6⟩;obtain⟨x0,x1,x2⟩:=HC.out w6 ((ab.refl [] X).drew.trans k6)))
      all_goals
       have Z:=((ab.refl [] X).drew.trans k6);have L:=Z.get Y (by simp);have B6:=Z.get O (by simp);clear o f g r G m2 m4 m5 m6 p4 ct;obtain⟨o,f,g,r⟩:=da B6;have G:=am B6;have m4:w6.cell? ⟨c.heap.size,4,none⟩=some (.string w[b].fin.file):=by rw[aa L];rfl
       have m5:w6.cell? ⟨c.heap.size,5,none⟩=some (.int .i64 w[b].fin.line):=by rw[aa L];rfl
       have m6:w6.cell? ⟨c.heap.size,6,none⟩=some (.int .i64 w[b].fin.col):=by rw[aa L];rfl
       go_wp2;exact QY (v:=.agg #[.int .i64 12,.string w[b].fin.file,.int .i64 w[b].fin.line,.int .i64 w[b].fin.col]) (by simp[results,results162,go_sem,o,f,g,r]) rfl ⟨by rw[s.out];rfl,kH (F:=M.heap.size) (KX.trans Z) (QR _) _ _ _ _⟩
     ·have s:Hid (gJ w b w[b] D=cY):=by show _=_;rw[z.out,A];rfl
      rw[A]at u;clear z
      go_region_held3 (fun a=>a.cell? ⟨p.heap.size,4,none⟩=some (.slice (some ⟨gt,0,none⟩) 1 (H 1).cap)/\a.cell? ⟨gt,0,none⟩=some (.slice x.hd.ao x.xs.length x.hd.cap)/\a.cell? ⟨c.heap.size,2,none⟩=some (.slice (T (10+2*b)).ao w[b].U6.length (T (10+2*b)).cap)) (go_keep) (first | (go_at_call 211;refine(u.out _ (by exact(ab.refl [] X).drew)).mono ?_;rintro e w6 ⟨rfl,k6⟩;obtain⟨x0,x1,x2⟩:=HC.out w6 ((ab.refl [] X).drew.trans k6)))
      all_goals
       have Z:=((ab.refl [] X).drew.trans k6);have B6:=Z.get O (by simp);clear o f g r G m2 m4 m5 m6 p4 ct;obtain⟨o,f,g,r⟩:=da B6;have G:=am B6;go_wp2;exact QY (v:=.agg #[.int .i64 0,.string ⟨#[]⟩,.int .i64 0,.int .i64 0]) (by simp[results,results162,go_sem,o,f,g,r]) rfl ⟨by rw[s.out];rfl,kH (F:=M.heap.size) (KX.trans Z) (QR _) _ _ _ _⟩
    ·have s:Hid (gJ w b w[b] D=(11,w[b].fin)):=HE.out
     have bl:((l.length:Int)+1+1 > 1):=by omega
     simp only[List.length_cons]at p4;clear HE;go_wp2
     exact QY (v:=.agg #[.int .i64 11,.string w[b].fin.file,.int .i64 w[b].fin.line,.int .i64 w[b].fin.col]) (by simp[results,results162,go_sem,o,f,g,r]) rfl
      ⟨by rw[s.out];rfl,kH (F:=M.heap.size) KX (QR _) _ _ _ _⟩
end Go.Proofs.YtpddjjabfbfifaaGreat
