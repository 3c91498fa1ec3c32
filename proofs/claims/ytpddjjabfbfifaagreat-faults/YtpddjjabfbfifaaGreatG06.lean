import Derived.Test.YtpddjjabfbfifaaGreatG05
namespace Go.Proofs.YtpddjjabfbfifaaGreat
open Go.RowKit Tryz
set_option maxHeartbeats 0
variable{T z4:World}{S o z6:Nat}{I:Nat->Hd}{a:List St}{z5 x3:List Rw}{x4:ByteArray}{y7:List Nat}{yd:Fs}{y6:List ByteArray}(y2:World)(y5:Int)(zt k x:Nat)(zb:Fs)(yu:List Value)(b:Nat)(y1:ByteArray)(w:List St)(D:Nat->Hd)(L:List ByteArray)(M:List Bool)(f:Nat)(y0:List Rw)(d:List Nat)(z7:Hd)(N:Nat->Hd)(y8:Pl)(n:List ByteArray)(v:List nF)(g:List Rw)(H:World)(x5 x6 x7 x8:Value)(y9:List (List ByteArray)×List (List ByteArray))(y:St)(i:Nat)(yy:ByteArray)(l:Nat)
def nh(l:List St)(vs:List ByteArray)(ms:List Bool)(S:List (List ByteArray)×List (List ByteArray))(s:nF):Int×List (List ByteArray)×List (List ByteArray) :=
 if((ju l vs ms S.1 S.2 s).1.1==0)=true then
  (if(ju l vs ms S.1 S.2 s).1.2.length<=32 then(0,S.1++[(ju l vs ms S.1 S.2 s).1.2],(ju l vs ms S.1 S.2 s).2++[(ju l vs ms S.1 S.2 s).1.2]) else(10,S))
 else((ju l vs ms S.1 S.2 s).1.1,S)
theorem l9.turned{j:World}{g n i:Nat}{p q a b:List Ex}{d:Nat->Hd}(h:l9 T z4 S o z6 g n i p q I)(t:aA S z4 I j d)(f:a8 j S 307 (id o z6 g n i a b d) (pn a b) d)(k:∀e∈a,rd z4 S I e.hd e.xs/\e.xs.length<=32)(l:∀e∈b,rd z4 S I e.hd e.xs/\e.xs.length<=32):l9 T j S o z6 g n i a b d:=by
 refine⟨⟨f,fun e c=>⟨(k e c).1.turned t,(k e c).2⟩,fun e c=>⟨(l e c).1.turned t,(l e c).2⟩⟩,h.kept.ofP t.1 ?_,h.hb,fun x m=>?_⟩
 ·rintro x (e | e)
  ·have:=h.hb;omega
  ·exact h.hin x e
 ·rcases t.2 x m with e | e
  ·exact h.hin x e
  ·exact Q3 h.kept.size e
set_option maxRecDepth 100000
theorem LT(R g S:Nat)(s:nF)(p:List St)(HR K:Nat->Hd)(y:List ByteArray)(x:List Bool)(hv hm:Hd)(a o:List Ex)(w:Nat->Hd)(E:DB y2 l R g S p HR K y x hv hm)(P:l9 y2 H i l R g p.length S a o w)(hn:(s.kind==3)=false->s.U7<p.length)(az:s.U7<=2000000)(aS:o.length<=2000000)(a3:a.length<=2000000) :
  Calls prog 210 #[.pointer (some ⟨i,0,none⟩),.agg #[.int .i64 s.kind,.int .i64 s.U7,.string s.at_.file,.int .i64 s.at_.line,.int .i64 s.at_.col]] H fun e w'=>∃(N O:List Ex) (H':Nat->Hd),
   e=.returned (.int .i64 (nh p y x (a.map Ex.xs,o.map Ex.xs) s).1)/\l9 y2 w' i l R g p.length S N O H' /\
   (((nh p y x (a.map Ex.xs,o.map Ex.xs) s).1==0)=true->(N.map Ex.xs,O.map Ex.xs)=(nh p y x (a.map Ex.xs,o.map Ex.xs) s).2)/\O.length<=o.length+1/\N.length<=a.length+1:=by
 obtain⟨i1,Y,ag,ai,al⟩:=Re Lu;obtain⟨W,hW⟩:∃W,W=H.alloc (.cells #[.int .i64 s.kind,.int .i64 s.U7,.string s.at_.file,.int .i64 s.at_.line,.int .i64 s.at_.col] 174):=⟨_,rfl⟩
 have kW:ab [] H W:=by rw[hW];exact(ab.refl [] _).alloc _
 have B:W.heap[H.heap.size]?=some (.cells #[.int .i64 s.kind,.int .i64 s.U7,.string s.at_.file,.int .i64 s.at_.line,.int .i64 s.at_.col] 174 (0,0)):=by rw[hW];exact QS _ _
 have HW:Hid _:=hW.symm;have u0:W.cell? ⟨H.heap.size,0,none⟩=some (.int .i64 s.kind):=by rw[aa B];rfl
 have u1:W.cell? ⟨H.heap.size,1,none⟩=some (.int .i64 s.U7):=by rw[aa B];rfl
 have u2:W.cell? ⟨H.heap.size,2,none⟩=some (.string s.at_.file):=by rw[aa B];rfl
 have u3:W.cell? ⟨H.heap.size,3,none⟩=some (.int .i64 s.at_.line):=by rw[aa B];rfl
 have u4:W.cell? ⟨H.heap.size,4,none⟩=some (.int .i64 s.at_.col):=by rw[aa B];rfl
 have PW:=P.Vb kW;have V:=Mt y2 W i l R g S s p HR K y x hv hm a o w E PW hn az aS
 have U:Hid (∀q,ju p y x (a.map Ex.xs) (o.map Ex.xs) s=q->nh p y x (a.map Ex.xs,o.map Ex.xs) s=if(q.1.1==0)=true then(if q.1.2.length<=32 then(0,a.map Ex.xs++[q.1.2],q.2++[q.1.2]) else(10,a.map Ex.xs,o.map Ex.xs)) else(q.1.1,a.map Ex.xs,o.map Ex.xs)):=by
  intro q z;subst z;rfl
 have r:Hid _:=U.out _ rfl;generalize ju p y x (a.map Ex.xs) (o.map Ex.xs) s=Q at *;obtain⟨⟨q,xs⟩,t2⟩:=Q;simp only at V r;clear hW U B;go_enter func210,ntmps210
 go_upto_region 1 with fail
 rw[HW.out];go_wp2_with fail;refine V.mono ?_;rintro e w2 ⟨c,b,rfl,aT,I,F2,Z,a2⟩;subst aT
 cases z:(q==0)
 ·have ar:(q != 0)=true:=by simp[bne,z]
  have A:Hid (nh p y x (a.map Ex.xs,o.map Ex.xs) s=(q,a.map Ex.xs,o.map Ex.xs)):=by show _=_;rw[r.out,z];rfl
  clear r V u0 u1 u2 u3 u4;go_wp2;go_ret;exact⟨a,c,w,QN (by rw[A.out]),I,fun hh=>by rw[A.out]at hh;exact absurd (z.symm.trans hh) (by simp),by omega,by omega⟩
 ·have ar:(q != 0)=false:=by simp[bne,z]
  by_cases v:b.xs.length<=32
  ·have ap:¬((b.xs.length:Int) > 32):=by omega
   have A:Hid (nh p y x (a.map Ex.xs,o.map Ex.xs) s=(0,a.map Ex.xs++[b.xs],t2++[b.xs])):=by show _=_;rw[r.out,z,QW rfl,QW v]
   have an:Hid _:=Z z;clear r V u0 u1 u2 u3 u4 Z
   go_upto_region 6 with fail
   have D2:=I.ply.bag;have p3:=I.ply.cells.1;have y3:=D2.free;have a0:=D2.lt;have L:=D2.Vb ((ab.refl [] w2).alloc (.cells #[.slice b.hd.ao b.xs.length b.hd.cap] 61))
   have ax:Hid (∀j,j≠0->pn (a++[b]) c j=pn a c j):=by
    intro j k
    match j,k with
    | 0,k=>exact absurd rfl k
    | 1,_=>rfl
    | m+2,_=>rfl
   have ac:Hid (∀j,j≠1->pn (a++[b]) (c++[b]) j=pn (a++[b]) c j):=by
    intro j k
    match j,k with
    | 0,_=>rfl
    | 1,k=>exact absurd rfl k
    | m+2,_=>rfl
   go_wp2_with (at_builtin;refine aM _ rfl (.tmp 23) (.tmp 25) 218 rfl i1 (.slice none 0 0) 24 (w 0) (gn a) underlying218 Y ag ai al rfl Rc rfl (by exact L.own 0) ⟨_,0,none⟩ 1 1 [.slice b.hd.ao b.xs.length b.hd.cap] rfl rfl ?e1 ?e2 Rc ?e3 ?e4 ?_)
   case e1=>intro j u k;match j,k with | 0,k=>simp at k;subst k;simp[Addr.add]
   case e2=>intro u hu;simp at hu;subst hu;rfl
   case e3=>simp only[gn];unfold maxLen;omega
   case e4=>simp only[gn];omega
   intro J d w4 ad D f;obtain⟨k4,f4,G⟩:=L.app (cs':=id l R g p.length S (a++[b]) c (g9 w 0 ⟨some ⟨J,0,none⟩,d⟩)) (rows':=pn (a++[b]) c) 3 0 J d ((gn a).n+1) _ ad (ug a b) D (by simpa using f) ax.out (.slice (w 0).ao a.length (w 0).cap) rfl (by simp[id,g9,gn]);clear ad D f L p3 y3
   go_upto_region 7 with fail
   generalize hX:w4.setCell ⟨i,3,none⟩ (.slice (some ⟨J,0,none⟩) ((gn a).n+1) d)=X at G ⊢;have DX:=G.out.1;have TX:Hid _:=G.out.2.first ((ab.refl [] _).alloc _);have p4:=DX.cell 4;simp only[id,List.getElem?_cons_succ,List.getElem?_cons_zero]at p4;have y4:=DX.free;have a1:=DX.lt;have M:=DX.Vb ((ab.refl [] X).alloc (.cells #[.slice b.hd.ao b.xs.length b.hd.cap] 61));clear hX k4 f4;go_wp2_with (at_builtin;refine aM _ rfl (.tmp 33) (.tmp 35) 218 rfl i1 (.slice none 0 0) 24 (g9 w 0 ⟨some ⟨J,0,none⟩,d⟩ 1) (gn c) underlying218 Y ag ai al rfl Rc rfl (by exact M.own 1) ⟨_,0,none⟩ 1 1 [.slice b.hd.ao b.xs.length b.hd.cap] rfl rfl ?e1 ?e2 Rc ?e3 ?e4 ?_)
   case e1=>intro j u k;match j,k with | 0,k=>simp at k;subst k;simp[Addr.add]
   case e2=>intro u hu;simp at hu;subst hu;rfl
   case e3=>simp only[gn];unfold maxLen;omega
   case e4=>simp only[gn];omega
   intro g6 C w6 af F h;obtain⟨k6,f6,T⟩:=M.app (cs':=id l R g p.length S (a++[b]) (c++[b]) (g9 (g9 w 0 ⟨some ⟨J,0,none⟩,d⟩) 1 ⟨some ⟨g6,0,none⟩,C⟩)) (rows':=pn (a++[b]) (c++[b])) 4 1 g6 C ((gn c).n+1) _ af (ug c b) F (by simpa using h) ac.out (.slice (g9 w 0 ⟨some ⟨J,0,none⟩,d⟩ 1).ao c.length (g9 w 0 ⟨some ⟨J,0,none⟩,d⟩ 1).cap) rfl (by simp[id,g9,gn]);have T6:Hid _:=aA.trans TX.out (T.out.2.first ((ab.refl [] _).alloc _));clear af F h M p4 y4;go_wp2;go_ret;refine⟨a++[b],c++[b],_,QN (by rw[A.out]),I.turned T6.out T.out.1 (fun e t=>?_) (fun e t=>?_),fun _=>by rw[A.out];simp[an.out],by simp;omega,by simp⟩
   ·rw[Rr]at t
    rcases t with t | t
    ·exact I.ply.shs e t
    ·simp at t;subst t;exact⟨F2,v⟩
   ·rw[Rr]at t
    rcases t with t | t
    ·exact I.ply.ths e t
    ·simp at t;subst t;exact⟨F2,v⟩
  ·have ap:(b.xs.length:Int) > 32:=by omega
   have A:Hid (nh p y x (a.map Ex.xs,o.map Ex.xs) s=(10,a.map Ex.xs,o.map Ex.xs)):=by show _=_;rw[r.out,z,QW rfl,QT v]
   clear r V u0 u1 u2 u3 u4;go_wp2;go_ret;exact⟨a,c,w,QN (by rw[A.out]),I,by rw[A.out];simp,by omega,by omega⟩
def OD(fin:Pl)(goal:List ByteArray)(th:List (List ByteArray)):pA :=
 match th with
 | []=>(12,fin)
 | [x]=>if Dv x goal=true then cY else(12,fin)
 | _ :: _ :: _=>(11,fin)
def oK(l:List St)(vs:List ByteArray)(ms:List Bool)(fin:Pl)(goal:List ByteArray):List nF->List (List ByteArray)×List (List ByteArray)->pA
 | [],S=>OD fin goal S.2
 | s :: r,S=>if((nh l vs ms S s).1==0)=true then oK l vs ms fin goal r (nh l vs ms S s).2 else((nh l vs ms S s).1,s.at_)
def gJ(l:List St)(a:Nat)(s:St)(steps:List nF):pA:=oK l (yi l a) (fN l a (yi l a)) s.fin s.U6 steps ([],[])
theorem EV(a:l<v.length) :
  oK w L M y8 n (v.drop l) y9=if((nh w L M y9 v[l]).1==0)=true then oK w L M y8 n (v.drop (l+1)) (nh w L M y9 v[l]).2 else((nh w L M y9 v[l]).1,v[l].at_):=by
 rw[Rf a];rfl
theorem CD(a:¬l<v.length) :
  oK w L M y8 n (v.drop l) y9=OD y8 n y9.2:=by
 rw[R8 (by omega)];rfl
theorem JU(l:List nF)(k:Nat)(a:k<l.length)(j:Nat)(d:j<5):(xi l)[k*5+j]?=(lh l[k])[j]?:=by
 induction l generalizing k with
 | nil=>simp at a
 | cons s r c =>
  have e:xi (s :: r)=lh s++xi r:=rfl;rw[e]
  cases k with
  | zero=>rw[Q7 (by simp[lh];omega)];simp
  | succ k =>
   rw[Q5 (by simp[lh];omega)];have b:(k+1)*5+j-(lh s).length=k*5+j:=by simp[lh];omega
   rw[b,c k (by simpa using a)];rfl
theorem aw.step{h:Hd}{l:List nF}(o:aw T h (go l))(k:Nat)(m:k<l.length) :
  ∃g,h.ao=some ⟨g,0,none⟩/\l.length<=h.cap/\h.cap<=9223372036854775807/\T.cell? ⟨g,k*5,none⟩=some (.int .i64 l[k].kind)/\T.cell? ⟨g,k*5+1,none⟩=some (.int .i64 l[k].U7)/\T.cell? ⟨g,k*5+2,none⟩=some (.string l[k].at_.file)/\T.cell? ⟨g,k*5+3,none⟩=some (.int .i64 l[k].at_.line)/\T.cell? ⟨g,k*5+4,none⟩=some (.int .i64 l[k].at_.col):=by
 rcases o.Vm with ⟨_,f,_⟩ | ⟨g,d,a,p,e,b,-⟩
 ·have:l.length=0:=f
  omega
 ·have c:=fun j (i:j<5) v (n:(lh l[k])[j]?=some v)=>o.cell a (k*5+j) v ((JU l k m j i).trans n)
  exact⟨g,a,e,by unfold maxLen at b;exact b,c 0 (by omega) _ rfl,c 1 (by omega) _ rfl,c 2 (by omega) _ rfl,c 3 (by omega) _ rfl,c 4 (by omega) _ rfl⟩
structure FS(l:List St)(steps:List nF):Prop where
 len:steps.length<=1100000
 num:∀s∈steps,s.U7<=2000000
 named:∀s∈steps,(s.kind==3)=false->s.U7<l.length
theorem Kp(n:Hd)(a:List nF)(g:World)(hr:dF g zt k w D)(ok:iH w)(ha:b<w.length)(ai:gW g x w w.length N)(hO:aw g n (go a))(T:FS w a) :
  Calls prog 162 #[.pointer (some ⟨zt,k,none⟩),.int .i64 b,.slice (some ⟨x,0,none⟩) w.length w.length,.slice n.ao a.length n.cap] g fun e c =>
   e=.returned (gU (gJ w b w[b] a))/\ab [] g c:=by
 have bf:=hr.lt;have ba:=ok.len;have bs:=T.len;have bz:=ok.syms b ha;obtain⟨AO,ac⟩:∃AO,Hid (n.ao=AO):=⟨_,rfl⟩
 rw[ac.out];obtain⟨W,hW⟩:∃W,W=g.alloc (.cells #[.int .i64 0,.string ⟨#[]⟩,.int .i64 0,.int .i64 0] 165):=⟨_,rfl⟩
 have kW:ab [] g W:=by rw[hW];exact(ab.refl [] _).alloc _
 have BF:W.heap[g.heap.size]?=some (.cells bA 165 (0,0)):=by rw[hW];exact QS _ _
 have HW:Hid _:=hW.symm;have bx:(yi w b).length<=w.length:=Bd w b w.length;clear hW;go_enter func162,ntmps162
 go_upto_region 1 with fail
 rw[HW.out]
 go_upto_region 2 with (go_at_call 208;refine(qF zt k b w D _ (by exact hr.Vb kW) ok).mono ?_;rintro e w2 ⟨a4,rfl,aS,bd,k2⟩)
 have K2:=kW.trans k2;go_wp2_with (go_at_call 209;refine(DH zt k b w D a4 (yi w b) _ (by exact hr.Vb K2) ok (by exact aS) (by omega)).mono ?_;rintro e p ⟨tb,hv,hm,rfl,A3,bv,bo,k3⟩);have K3:=K2.trans k3;have O:=(k2.trans k3).get BF (by simp);have E:DB p zt k x tb w D N (yi w b) (fN w b (yi w b)) hv hm:=⟨hr.Vb K3,ok,ai.Vb K3,A3,ko _ _ _ _,by omega⟩;have G:aw p n (go a):=hO.Vg (fun d U=>K3.block d (hO.lt U) (by simp))
 have P4:l9 p (p.alloc (.cells #[.pointer (some ⟨zt,k,none⟩),.slice (some ⟨x,0,none⟩) w.length w.length,.pointer (some ⟨tb,0,none⟩),.slice none 0 0,.slice none 0 0] 307)) p.heap.size zt k x w.length tb [] [] mE:=by
  refine⟨⟨⟨QS _ _,?_,fun i j _=>Q1 rfl,fun i e=>by simp[mE,Hd.blk]at e⟩,by simp,by simp⟩,(ab.refl [] _).alloc _,QR _,fun d U=>by obtain⟨i,hi⟩:=U;simp[mE,Hd.blk]at hi⟩;intro i
  match i with
  | 0=>exact QZ _ _ _ _
  | 1=>exact QZ _ _ _ _
  | m+2=>exact QZ _ _ _ _
 have bp:=ae O
 go_loopg [11] a.length (fun gk iv wr=>∃(i:Nat) (K o:List Ex) (H:Nat->Hd),i<=a.length/\gk=a.length-i/\iv=.int .i64 i/\K.length<=i/\o.length<=i/\Hid (gJ w b w[b] a=oK w (yi w b) (fN w b (yi w b)) w[b].fin w[b].U6 (a.drop i) (K.map Ex.xs,o.map Ex.xs))/\l9 p wr p.heap.size zt k x w.length tb K o H)
 case atStart=>exact⟨0,[],[],mE,by omega,by omega,rfl,by simp,by simp,rfl,P4⟩
 case round =>
  obtain⟨i,K,o,H,hi,hg,rfl,br,bw,hR,P⟩:=hrel;clear P4;have B:=P.kept.get O (by simp);obtain⟨r,s,t,u⟩:=da B;have L:=am B;have KW:=K3.trans P.kept;have ar:Hid _:=fun a0 a1 a2 a3=>kH (F:=g.heap.size) KW (QR _) a0 a1 a2 a3
  by_cases l:i<a.length
  ·have S:aw wr n (go a):=G.Vg (fun d U=>P.kept.block d (G.lt U) (by simp))
   obtain⟨gp,ep,a6,ax,d0,d1,d2,d3,d4⟩:=S.step i l;obtain rfl:AO=some ⟨gp,0,none⟩:=ac.out.symm.trans ep;have bg:gp<wr.heap.size:=S.lt (by unfold Hd.blk;rw[ep];rfl);have h1:=T.num a[i] (Rb l);have h2:=T.named a[i] (Rb l);have h:Hid _:=hR.out.trans (EV w (yi w b) (fN w b (yi w b)) w[b].fin w[b].U6 a (K.map Ex.xs,o.map Ex.xs) i l);have PA:=LT p wr p.heap.size zt k x tb a[i] w D N (yi w b) (fN w b (yi w b)) hv hm K o H E P h2 h1 (by omega) (by omega)
   have ad:Hid (∀c,ab [] p c->c.cell? ⟨gp,i*5+2,none⟩=some (.string a[i].at_.file)/\c.cell? ⟨gp,i*5+3,none⟩=some (.int .i64 a[i].at_.line)/\c.cell? ⟨gp,i*5+4,none⟩=some (.int .i64 a[i].at_.col)):=by
    intro c J;obtain⟨bc,af,-,-,-,-,q2,q3,q4⟩:=(G.Vg (w':=c) (fun d U=>J.block d (G.lt U) (by simp))).step i l;rw[ep]at af
    cases af
    exact⟨q2,q3,q4⟩
   clear hR ep S;generalize a[i]=st at *;obtain⟨sk,sn,Y,Z,V⟩:=st;simp only at d0 d1 d2 d3 d4 PA ad h;generalize nh w (yi w b) (fN w b (yi w b)) (K.map Ex.xs,o.map Ex.xs) ⟨sk,sn,⟨Y,Z,V⟩⟩=Q at *;obtain⟨q,Q2⟩:=Q;simp only at PA h
   cases hq:(q==0)
   ·have aT:(q != 0)=true:=by simp[bne,hq]
    have z:Hid (gJ w b w[b] a=(q,⟨Y,Z,V⟩)):=by show _=_;rw[h.out,QT (by rw[hq];simp)]
    clear h
    go_upto_region 8 with (go_at_call 210;refine PA.mono ?_;rintro e f ⟨an,ap,H5,rfl,P5,ag,-,-⟩)
    obtain⟨c2,c3,c4⟩:=ad.out f P5.kept;have M:=P5.kept.get O (by simp);clear r s t u L d0 d1 d2 d3 d4 ar;obtain⟨r,s,t,u⟩:=da M;have L:=am M;have K5:=K3.trans P5.kept;go_wp2
    exact QY (v:=.agg #[.int .i64 q,.string Y,.int .i64 Z,.int .i64 V]) (by simp[results,results162,go_sem,r,s,t,u]) rfl
     ⟨by rw[z.out];rfl,kH (F:=g.heap.size) K5 (QR _) _ _ _ _⟩
   ·have aT:(q != 0)=false:=by simp[bne,hq]
    have z:Hid (gJ w b w[b] a=oK w (yi w b) (fN w b (yi w b)) w[b].fin w[b].U6 (a.drop (i+1)) Q2):=by show _=_;rw[h.out,QW hq]
    clear h;go_wp2_with (go_at_call 210;refine PA.mono ?_;rintro e f ⟨an,ap,H5,rfl,P5,ag,bk,bl⟩)
    go_roundg (a.length-(i+1))
    case measure=>omega
    case rel=>exact⟨i+1,an,ap,H5,by omega,rfl,by go_num,by omega,by omega,by show _=_;rw[ag hq];exact z.out,P5⟩
  ·have HE:Hid _:=hR.out.trans (CD w (yi w b) (fN w b (yi w b)) w[b].fin w[b].U6 a (K.map Ex.xs,o.map Ex.xs) i l)
   have Er:=E.Vb P.kept;clear hR
   go_upto_region 10 with (go_at_call 97;refine(a9 zt k b w D _ (by exact Er.recd) ha).mono ?_;rintro e f ⟨rfl,k5⟩;unfold ee)
   obtain⟨X,hX⟩:∃X,X=f.alloc (.cells #[.int .i64 w[b].kind,.string w[b].label,.slice (D (10+2*b)).ao w[b].U6.length (D (10+2*b)).cap,.slice (D (11+2*b)).ao w[b].Vh.length (D (11+2*b)).cap,.string w[b].fin.file,.int .i64 w[b].fin.line,.int .i64 w[b].fin.col,.int .i64 w[b].til] 158):=⟨_,rfl⟩
   have kX:ab [] wr X:=by rw[hX];exact k5.alloc _
   have BX:X.heap[f.heap.size]?=some (.cells #[.int .i64 w[b].kind,.string w[b].label,.slice (D (10+2*b)).ao w[b].U6.length (D (10+2*b)).cap,.slice (D (11+2*b)).ao w[b].Vh.length (D (11+2*b)).cap,.string w[b].fin.file,.int .i64 w[b].fin.line,.int .i64 w[b].fin.col,.int .i64 w[b].til] 158 (0,0)):=by rw[hX];exact QS _ _
   rw[<-hX];have PX:=P.Vb kX;have M:=kX.get B (by simp);clear hX r s t u L;obtain⟨r,s,t,u⟩:=da M;have L:=am M;have KX:=KW.trans kX;have m2:X.cell? ⟨f.heap.size,2,none⟩=some (.slice (D (10+2*b)).ao w[b].U6.length (D (10+2*b)).cap):=by rw[aa BX];rfl
   have m4:X.cell? ⟨f.heap.size,4,none⟩=some (.string w[b].fin.file):=by rw[aa BX];rfl
   have m5:X.cell? ⟨f.heap.size,5,none⟩=some (.int .i64 w[b].fin.line):=by rw[aa BX];rfl
   have m6:X.cell? ⟨f.heap.size,6,none⟩=some (.int .i64 w[b].fin.col):=by rw[aa BX];rfl
   have p4:=PX.ply.cells.2;have be:=PX.ply.bag.lt
   rcases o with _ | ⟨d,o⟩
   ·have z:Hid (gJ w b w[b] a=(12,w[b].fin)):=HE.out
    simp only[List.length_nil]at p4;clear HE
    go_upto_region 12 with fail
    go_quiet (fail)
    go_wp2
    exact QY (v:=.agg #[.int .i64 12,.string w[b].fin.file,.int .i64 w[b].fin.line,.int .i64 w[b].fin.col]) (by simp[results,results162,go_sem,r,s,t,u]) rfl
     ⟨by rw[z.out];rfl,kH (F:=g.heap.size) (KX.drewN _) (QR _) _ _ _ _⟩
   ·rcases o with _ | ⟨y,o⟩
    ·have hE:gJ w b w[b] a=if Dv d.xs w[b].U6=true then cY else(12,w[b].fin):=HE.out
     have A:Hid _:=hE;have oT:aw X (H 1) (gn [d]):=PX.ply.bag.own 1
     rcases oT.Vm with ⟨_,h0,_⟩ | ⟨gt,a5,et,-,az,-⟩
     ·simp[gn]at h0
     have ct:=oT.cell et 0 (v6 d) rfl;unfold v6 at ct;rw[et]at p4;simp only[List.length_cons,List.length_nil]at p4;have a7:1<=(H 1).cap:=az;have al:=(PX.ply.ths d (by simp));have C:Hid _:=fun(c:World) (J:ab [] X c)=>yo d.hd (D (10+2*b)) d.xs w[b].U6 c (al.1.view.Vb J) (((Er.Vb (kX.trans J)).recd.Vn.syms b w[b] (QP ha)).view) (by omega) (by omega)
     have HC:Hid (∀c,ab [] X c->c.cell? ⟨p.heap.size,4,none⟩=some (.slice (some ⟨gt,0,none⟩) 1 (H 1).cap)/\c.cell? ⟨gt,0,none⟩=some (.slice d.hd.ao d.xs.length d.hd.cap)/\c.cell? ⟨f.heap.size,2,none⟩=some (.slice (D (10+2*b)).ao w[b].U6.length (D (10+2*b)).cap)):=by
      intro c J;refine⟨?_,((PX.Vb J).ply.bag.own 1).cell et 0 (v6 d) rfl,?_⟩
      ·rw[<-et];exact(PX.Vb J).ply.cells.2
      ·rw[aa (J.get BX (by simp))];rfl
     clear hE HE et oT
     go_upto_region 12 with fail
     cases I:Dv d.xs w[b].U6
     ·have z:Hid (gJ w b w[b] a=(12,w[b].fin)):=by show _=_;rw[A.out,I];rfl
      rw[I]at C;clear A
      go_region_held3 (fun c=>c.cell? ⟨p.heap.size,4,none⟩=some (.slice (some ⟨gt,0,none⟩) 1 (H 1).cap)/\c.cell? ⟨gt,0,none⟩=some (.slice d.hd.ao d.xs.length d.hd.cap)/\c.cell? ⟨f.heap.size,2,none⟩=some (.slice (D (10+2*b)).ao w[b].U6.length (D (10+2*b)).cap)) (go_keep) (first | (go_at_call 211;refine(C.out _ (by exact(ab.refl [] X).drew)).mono ?_;rintro e w6 ⟨rfl,k6⟩;obtain⟨x0,x1,x2⟩:=HC.out w6 ((ab.refl [] X).drew.trans k6)))
      all_goals
       have kk:=((ab.refl [] X).drew.trans k6);have R:=kk.get BX (by simp);have B6:=kk.get M (by simp);clear r s t u L m2 m4 m5 m6 p4 ct;obtain⟨r,s,t,u⟩:=da B6;have L:=am B6;have m4:w6.cell? ⟨f.heap.size,4,none⟩=some (.string w[b].fin.file):=by rw[aa R];rfl
       have m5:w6.cell? ⟨f.heap.size,5,none⟩=some (.int .i64 w[b].fin.line):=by rw[aa R];rfl
       have m6:w6.cell? ⟨f.heap.size,6,none⟩=some (.int .i64 w[b].fin.col):=by rw[aa R];rfl
       go_wp2;exact QY (v:=.agg #[.int .i64 12,.string w[b].fin.file,.int .i64 w[b].fin.line,.int .i64 w[b].fin.col]) (by simp[results,results162,go_sem,r,s,t,u]) rfl ⟨by rw[z.out];rfl,kH (F:=g.heap.size) (KX.trans kk) (QR _) _ _ _ _⟩
     ·have z:Hid (gJ w b w[b] a=cY):=by show _=_;rw[A.out,I];rfl
      rw[I]at C;clear A
      go_region_held3 (fun c=>c.cell? ⟨p.heap.size,4,none⟩=some (.slice (some ⟨gt,0,none⟩) 1 (H 1).cap)/\c.cell? ⟨gt,0,none⟩=some (.slice d.hd.ao d.xs.length d.hd.cap)/\c.cell? ⟨f.heap.size,2,none⟩=some (.slice (D (10+2*b)).ao w[b].U6.length (D (10+2*b)).cap)) (go_keep) (first | (go_at_call 211;refine(C.out _ (by exact(ab.refl [] X).drew)).mono ?_;rintro e w6 ⟨rfl,k6⟩;obtain⟨x0,x1,x2⟩:=HC.out w6 ((ab.refl [] X).drew.trans k6)))
      all_goals
       have kk:=((ab.refl [] X).drew.trans k6);have B6:=kk.get M (by simp);clear r s t u L m2 m4 m5 m6 p4 ct;obtain⟨r,s,t,u⟩:=da B6;have L:=am B6;go_wp2;exact QY (v:=.agg #[.int .i64 0,.string ⟨#[]⟩,.int .i64 0,.int .i64 0]) (by simp[results,results162,go_sem,r,s,t,u]) rfl ⟨by rw[z.out];rfl,kH (F:=g.heap.size) (KX.trans kk) (QR _) _ _ _ _⟩
    ·have z:Hid (gJ w b w[b] a=(11,w[b].fin)):=HE.out
     have bj:((o.length:Int)+1+1 > 1):=by omega
     simp only[List.length_cons]at p4;clear HE;go_wp2
     exact QY (v:=.agg #[.int .i64 11,.string w[b].fin.file,.int .i64 w[b].fin.line,.int .i64 w[b].fin.col]) (by simp[results,results162,go_sem,r,s,t,u]) rfl
      ⟨by rw[z.out];rfl,kH (F:=g.heap.size) KX (QR _) _ _ _ _⟩
structure kC(w:World)(b o:Nat)(l:List St)(H:Nat->Hd)(g:Nat)(L:List Rw):Prop where
 recd:dF w b o l H
 cell:∃arr t,w.heap[b]?=some (.cells arr t (0,0))/\arr[o+2]?=some (.slice (some ⟨g,0,none⟩) L.length L.length)
 arr:w.heap[g]?=some (.cells (kL L).toArray 38 (0,0))
theorem kC.Vb(h:kC T S o a I z6 z5)(k:ab [] T z4):kC z4 S o a I z6 z5:=by
 obtain⟨b,t,c,d⟩:=h.cell;exact⟨h.recd.Vb k,⟨b,t,k.get c (by simp),d⟩,k.get h.arr (by simp)⟩
theorem kC.at2(h:kC T S o a I z6 z5):T.cell? ⟨S,o+2,none⟩=some (.slice (some ⟨z6,0,none⟩) z5.length z5.length):=by
 obtain⟨b,t,c,d⟩:=h.cell;rw[aa c];exact d
theorem kC.row(h:kC T S o a I z6 z5)(k:Nat)(d:k<z5.length) :
  T.cell? ⟨z6,k*6,none⟩=some (.string z5[k].label)/\T.cell? ⟨z6,k*6+1,none⟩=some (.int .i64 z5[k].Vc)/\T.cell? ⟨z6,k*6+2,none⟩=some (.int .i64 z5[k].why)/\T.cell? ⟨z6,k*6+3,none⟩=some (.string z5[k].at_.file)/\T.cell? ⟨z6,k*6+4,none⟩=some (.int .i64 z5[k].at_.line)/\T.cell? ⟨z6,k*6+5,none⟩=some (.int .i64 z5[k].at_.col):=by
 have c:=fun j (b:j<6) v (e:(mL z5[k])[j]?=some v)=>(aa h.arr (k*6+j)).trans ((by simp only[List.getElem?_toArray];exact(GJ z5 k d j b).trans e))
 exact⟨c 0 (by omega) _ rfl,c 1 (by omega) _ rfl,c 2 (by omega) _ rfl,c 3 (by omega) _ rfl,c 4 (by omega) _ rfl,c 5 (by omega) _ rfl⟩
def o8(L:List Rw)(n:Nat):Int:=(L.getD n qd).Vc
set_option maxRecDepth 512
theorem Dm(h:kC H k x w D f g) :
  Calls prog 95 #[.pointer (some ⟨k,x,none⟩),.int .i64 b] H fun e i=>e=.returned (.int .i64 (o8 g b))/\i=H:=by
 have j:=h.at2
 by_cases a:b<g.length
 ·have d:Hid (o8 g b=g[b].Vc):=by show _=_;unfold o8;rw[QQ,QP a];rfl
  obtain⟨-,l,-,-,-,-⟩:=h.row b a;have c:¬((b:Int) ≥ g.length):=by omega
  go_enter func95,ntmps95;go_wp2;go_ret;exact⟨QN (by rw[d.out]),rfl⟩
 ·have d:Hid (o8 g b=0):=by show _=_;unfold o8;rw[QQ,Rx (by omega)];rfl
  have c:(b:Int) ≥ g.length:=by omega
  go_enter func95,ntmps95;go_wp2;go_ret;exact⟨QN (by rw[d.out]),rfl⟩
def Fw(steps:List nF):Option Nat:=(List.range steps.length).find? (fun i=>match steps[i]? with | some s=>s.kind==1 | none=>false)
theorem tU(r:aw H z7 (go v))(z:v.length<=1073741824) :
  Calls prog 161 #[.slice z7.ao v.length z7.cap] H fun e u=>e=.returned (.int .i64 (nB (Fw v)))/\u=H:=by
 obtain⟨f,c⟩:∃f,Hid (z7.ao=f):=⟨_,rfl⟩
 rw[c.out];go_enter func161,ntmps161;go_wp2
 go_loopg [3] v.length (fun g i wr=>∃k:Nat,k<=v.length/\g=v.length-k/\i=.int .i64 k/\Hid (∀i,i<k->(match v[i]? with | some s=>s.kind==1 | none=>false)=false)/\wr=H)
 case atStart=>exact⟨0,by omega,by omega,rfl,fun i o=>by omega,rfl⟩
 case round =>
  obtain⟨k,y,x,rfl,a,rfl⟩:=hrel
  by_cases b:k<v.length
  ·obtain⟨q,m,l,j,w,-⟩:=r.step k b
   obtain rfl:f=some ⟨q,0,none⟩:=c.out.symm.trans m;clear m;have d:Hid (v[k]?=some v[k]):=QP b;generalize v[k]=t at *
   cases n:(t.kind==1)
   ·have p:Hid (∀i,i<k+1->(match v[i]? with | some s=>s.kind==1 | none=>false)=false):=by
     intro i o
     by_cases e:i=k
     ·subst e;rw[d.out];exact n
     ·exact a.out i (by omega)
    clear d a;go_wp2
    go_roundg (v.length-(k+1))
    case measure=>omega
    case rel=>exact⟨k+1,by omega,rfl,by go_num,p,rfl⟩
   ·have h:Hid (Fw v=some k):=nV b (by rw[d.out];exact n) a.out
    clear d a;go_wp2;go_ret;exact⟨QN (by rw[h.out];rfl),rfl⟩
  ·have h:Hid (Fw v=none):=mI (fun i o=>a.out i (by omega))
   clear a;go_wp2;go_ret;exact⟨QN (by rw[h.out];rfl),rfl⟩
def DI(v:Int):Bool:=v==2||v==3||v==4
def pm(L:List Rw)(steps:List nF):Bool:=steps.all (fun s=>!(s.kind==2) || !(DI (o8 L s.U7)))
theorem N5(c:l<v.length)(a:(v[l].kind==2)=true)(b:DI (o8 y0 v[l].U7)=true):pm y0 v=false:=by
 cases e:pm y0 v
 ·rfl
 ·unfold pm at e;rw[Sn]at e
  have:=e _ (Rb c);rw[a,b]at this;cases this
theorem Mi(h:∀k (a:k<v.length),(!(v[k].kind==2) || !(DI (o8 y0 v[k].U7)))=true):pm y0 v=true:=by
 unfold pm;rw[Sn];intro x b;obtain⟨k,a,rfl⟩:=R0 b;exact h k a
theorem Mh(h:kC H x b w D f y0)(L:aw H z7 (go v))(M:v.length<=1100000) :
  Calls prog 163 #[.pointer (some ⟨x,b,none⟩),.slice z7.ao v.length z7.cap] H fun e N=>e=.returned (.bool (pm y0 v))/\N=H:=by
 obtain⟨u,o⟩:∃u,Hid (z7.ao=u):=⟨_,rfl⟩
 rw[o.out];go_enter func163,ntmps163;go_wp2
 go_loopg [5] v.length (fun f i wr=>∃k:Nat,k<=v.length/\f=v.length-k/\i=.int .i64 k/\Hid (∀i (n:i<v.length),i<k->(!(v[i].kind==2) || !(DI (o8 y0 v[i].U7)))=true)/\wr=H)
 case atStart=>exact⟨0,by omega,by omega,rfl,fun i _ n=>by omega,rfl⟩
 case round =>
  obtain⟨k,R,Q,rfl,g,rfl⟩:=hrel
  by_cases q:k<v.length
  ·obtain⟨I,F,E,z,O,P,-⟩:=L.step k q
   obtain rfl:u=some ⟨I,0,none⟩:=o.out.symm.trans F;clear F
   have c:Hid ((!(v[k].kind==2) || !(DI (o8 y0 v[k].U7)))=true->∀i (n:i<v.length),i<k+1->(!(v[i].kind==2) || !(DI (o8 y0 v[i].U7)))=true):=by
    intro J i n K
    by_cases e:i=k
    ·subst e;exact J
    ·exact g.out i n (by omega)
   have a:Hid _:=N5 y0 v k q;have p:=Dm x b v[k].U7 w D f y0 wr h;clear g;generalize v[k]=s at *
   cases m:(s.kind==2)
   ·have B:(s.kind != 2)=true:=by simp[bne,m]
    have y:Hid _:=(c.out (by rw[m];rfl));clear c a p;go_wp2
    go_roundg (v.length-(k+1))
    case measure=>omega
    case rel=>exact⟨k+1,by omega,rfl,by go_num,y.out,rfl⟩
   ·have B:(s.kind != 2)=false:=by simp[bne,m]
    have j:Hid (∀t,DI t=(t==2||t==3||t==4)):=fun _=>rfl
    generalize o8 y0 s.U7=V at *
    cases r:(V==2)
    ·cases A:(V==3)
     ·cases G:(V==4)
      ·have y:Hid _:=c.out (by rw[j.out,r,A,G];simp)
       clear c a;go_wp2_with (go_at_call 95;refine p.mono ?_;rintro e C ⟨rfl,d⟩;rw[d])
       go_roundg (v.length-(k+1))
       case measure=>omega
       case rel=>exact⟨k+1,by omega,rfl,by go_num,y.out,rfl⟩
      ·have l:Hid _:=a.out m (by rw[j.out,r,A,G];rfl)
       clear c a;go_wp2_with (go_at_call 95;refine p.mono ?_;rintro e C ⟨rfl,d⟩;rw[d]);go_ret;exact⟨aD l.out.symm,rfl⟩
     ·have l:Hid _:=a.out m (by rw[j.out,r,A];rfl)
      clear c a;go_wp2_with (go_at_call 95;refine p.mono ?_;rintro e C ⟨rfl,d⟩;rw[d]);go_ret;exact⟨aD l.out.symm,rfl⟩
    ·have l:Hid _:=a.out m (by rw[j.out,r];rfl)
     clear c a;go_wp2_with (go_at_call 95;refine p.mono ?_;rintro e C ⟨rfl,d⟩;rw[d]);go_ret;exact⟨aD l.out.symm,rfl⟩
  ·have l:Hid (pm y0 v=true):=Mi y0 v (fun i n=>g.out i n (by omega))
   clear g;go_wp2;go_ret;exact⟨aD l.out.symm,rfl⟩
theorem yw(h:my a x4 S=some o):o<a.length:=by
 unfold my at h;have:=Rz h;simpa using this
def FO(l:List St)(s:nF):Prop:=s.U7<=1020000/\((s.kind==3)=false->s.U7<l.length)
theorem I6(i:0<w.length)(j:w.length<=10000)(c:List (ByteArray×Pl))(a:List nF)(h:∀s∈a,FO w s)(N:Nat)(g:a.length<=N) :
  (∀s∈(fL w f y8 c a).1,FO w s)/\(fL w f y8 c a).1.length<=N+c.length:=by
 induction c generalizing a N with
 | nil =>
  rw[fL]
  split
  ·exact⟨by simp,by simp⟩
  ·exact⟨h,by simpa using g⟩
 | cons x r e =>
  obtain⟨t,p⟩:=x;rw[fL]
  split
  ·have:=e (a++[⟨1,0,p⟩]) (by intro s b;simp at b;rcases b with b | rfl;exact h s b;exact⟨by simp,fun _=>i⟩) (N+1) (by simp;omega)
   exact⟨this.1,by have:=this.2;simp;omega⟩
  ·split
   ·exact⟨by simp,by simp⟩
   ·next n k =>
    have d:=yw k;have:=e (a++[⟨2,n,p⟩]) (by intro s b;simp at b;rcases b with b | rfl;exact h s b;exact⟨by simp only;omega,fun _=>d⟩) (N+1) (by simp;omega);exact⟨this.1,by have:=this.2;simp;omega⟩
structure xB(l:List St)(c:mg):Prop where
 names:∀n∈c.names,n<l.length
 Vj:∀n∈c.Vj,n<=1020000
 steps:∀s∈c.steps,FO l s
theorem xB.letter{c:mg}(g:xB a c)(h:gu c S)(i:0<a.length)(j:a.length<=10000)(l:S<=1020000)(n:Nat)(p:Pl):xB a (cD c n p).2:=by
 have k:=h.steps;unfold cD
 split
 ·unfold kF eC
  split
  ·next d =>
   refine⟨g.names,g.Vj,?_⟩;intro s b;simp at b
   rcases b with b | rfl
   ·exact g.steps s b
   ·have:=g.names _ (Rb d)
    rw[QP d];exact⟨by simp only[Option.getD_some];omega,fun _=>this⟩
  ·split
   ·next d =>
    refine⟨g.names,g.Vj,?_⟩;intro s b;simp at b
    rcases b with b | rfl
    ·exact g.steps s b
    ·have:=g.Vj _ (Rb d)
     rw[QP d];exact⟨this,fun e=>by simp at e⟩
   ·exact⟨g.names,g.Vj,g.steps⟩
 ·split
  ·unfold mN
   split <;> exact⟨g.names,g.Vj,g.steps⟩
  ·split
   ·refine⟨g.names,?_,g.steps⟩
    intro x f;simp at f
    rcases f with f | rfl
    ·exact g.Vj x f
    ·omega
   ·split
    ·refine⟨g.names,g.Vj,?_⟩
     intro s b;simp[eC]at b
     rcases b with b | rfl
     ·exact g.steps s b
     ·exact⟨by simp,fun _=>i⟩
    ·exact g
theorem AS(m:0<a.length)(d:a.length<=10000)(t:ByteArray)(p:Pl)(f:Nat):∀(j:Nat) (c:mg) (N:Nat),xB a c->gu c (N+j)->j<=t.size->N+t.size<=1020000->xB a (iQ t p f j c).2:=by
 induction f with
 | zero=>intro j c N g h l i;exact g
 | succ f o =>
  intro j c N g h l i;rw[iQ]
  split
  ·next n =>
   have k:=h.letter (aF t j).toNat { p with col:=p.col+j };have e:=g.letter h m d (by omega) (aF t j).toNat { p with col:=p.col+j }
   split
   ·exact o (j+1) _ N e (by rw[<-U3];exact k) (by omega) i
   ·exact e
  ·exact g
theorem AT(k:0<a.length)(e:a.length<=10000)(b:List (ByteArray×Pl)):∀(c:mg) (N:Nat),xB a c->gu c N->N+kt b<=1020000->xB a (tD b c).2/\gu (tD b c).2 1020000:=by
 induction b with
 | nil=>intro c N g h d;exact⟨g,h.mono (by simp[kt]at d;omega)⟩
 | cons x r l =>
  intro c N g h d;obtain⟨t,p⟩:=x;have j:kt ((t,p) :: r)=t.size+kt r:=by simp[kt]
  rw[j]at d;have f:xB a (mT t p c).2:=AS k e t p _ 0 c N g h (Ro _) (by omega);have i:=zr t p h;rw[tD]
  split
  ·exact l _ (N+t.size) f i (by omega)
  ·exact⟨f,i.mono (by omega)⟩
theorem DM(c:List (ByteArray×Pl))(i:Nat)(b:List Nat)(h:∀n∈b,n<w.length):∀n∈(dD w f y8 i c b).2,n<w.length:=by
 induction c generalizing i b with
 | nil=>exact h
 | cons x r e =>
  obtain⟨t,p⟩:=x;rw[dD]
  split
  ·exact h
  ·split
   ·exact h
   ·next n d =>
    split
    ·exact h
    ·exact e (i+1) (b++[n]) (by intro m a;simp at a;rcases a with a | rfl;exact h m a;exact yw d)
theorem Po(c:iH w)(m:l<w.length)(i:yc w[l]):FS w (lx w l w[l]).1:=by
 have j:0<w.length:=by omega
 have p:=c.prfs l m;have q:=i.size
 have a:(∀s∈(lx w l w[l]).1,FO w s)/\(lx w l w[l]).1.length<=1100000:=by
  unfold lx
  split
  ·unfold lK Gb
   have e:=Bp w l w[l] c.len p;have f:xB w ⟨(dD w l w[l].fin 1 (w[l].Vh.drop 1) (aK w l)).2,[],[],0,false⟩:=⟨DM w l w[l].fin _ 1 _ (fun n o=>Ca o),by simp,by simp⟩;generalize dD w l w[l].fin 1 (w[l].Vh.drop 1) (aK w l)=k at *;obtain⟨⟨b,d⟩,h⟩:=k;simp only at e f ⊢
   have rC:xB w (Gz d (w[l].Vh.drop b) ⟨h,[],[],0,false⟩).2/\gu (Gz d (w[l].Vh.drop b) ⟨h,[],[],0,false⟩).2 1020000:=by
    unfold Gz
    split
    ·exact AT j c.len _ _ 20000 f e (by have:=C2 w[l].Vh b;omega)
    ·exact⟨f,e.mono (by omega)⟩
   generalize Gz d (w[l].Vh.drop b) ⟨h,[],[],0,false⟩=R at *;unfold uF
   split
   ·split
    ·split
     ·exact⟨by simp,by simp⟩
     ·exact⟨rC.1.steps,by have:=rC.2.steps;simp only;omega⟩
    ·exact⟨by simp,by simp⟩
   ·exact⟨by simp,by simp⟩
  ·have:=I6 w l w[l].fin j c.len w[l].Vh [] (by simp) 0 (by simp)
   exact⟨this.1,by have:=this.2;omega⟩
 exact⟨a.2,fun s g=>by have:=(a.1 s g).1;omega,fun s g=>(a.1 s g).2⟩
section
theorem BA(l c u:Int)(a f:ByteArray)(b d:Option Addr)(h e i g:Nat) :
    (Instr.field 158 (.agg #[.int .i64 y5,.string a,.slice b h e,.slice d i g,.string f,.int .i64 l,.int .i64 c,.int .i64 u]) 1).run prog y2=.ok (.string a) y2:=by kernel_rfl
attribute [local go_sem] BA
def ny(label:ByteArray)(L:List Rw)(steps:List nF)(f:pA):Rw :=
  if(f.1==0)=true then
    (match Fw steps with
     | some u=>⟨label,3,0,((steps[u]?).map nF.at_).getD kT⟩
     | none=>if pm L steps=true then⟨label,5,0,kT⟩ else⟨label,4,0,kT⟩)
  else⟨label,2,f.1,f.2⟩
def iC(l:List St)(n:Nat)(s:St)(L:List Rw):Rw :=
  ny s.label L (lx l n s).1 (if(Fw (lx l n s).1).isNone=true/\((lx l n s).2.1==0)=true then gJ l n s (lx l n s).1 else(lx l n s).2)
theorem dY{x:Rw}(h:T.heap[S]?=some (.cells (mL x).toArray 38 (0,0))) :
    T.cell? ⟨S,0,none⟩=some (.string x.label)/\T.cell? ⟨S,1,none⟩=some (.int .i64 x.Vc)/\T.cell? ⟨S,2,none⟩=some (.int .i64 x.why)/\T.cell? ⟨S,3,none⟩=some (.string x.at_.file)/\T.cell? ⟨S,4,none⟩=some (.int .i64 x.at_.line)/\T.cell? ⟨S,5,none⟩=some (.int .i64 x.at_.col):=by
  refine⟨?_,?_,?_,?_,?_,?_⟩ <;> (rw[aa h];rfl)
theorem yI(K:ab [] T z4)(a:T.heap.size<=S)(b c d e f g:Value):ab [] T ((((((z4.setCell ⟨S,0,none⟩ b).setCell ⟨S,1,none⟩ c).setCell ⟨S,2,none⟩ d).setCell ⟨S,3,none⟩ e).setCell ⟨S,4,none⟩ f).setCell ⟨S,5,none⟩ g) :=
  (((((K.setCell (QV a) _).setCell (QV a) _).setCell (QV a) _).setCell (QV a) _).setCell (QV a) _).setCell (QV a) _
set_option maxRecDepth 100000
theorem Iy(a:List St)(H K:Nat->Hd)(L:List Rw)(w:World)(h:kC w x b a H i L)(ok:iH a)(ha:f<a.length)(a1:yc a[f])(aS:gW w l a a.length K) :
    Calls prog 114 #[.pointer (some ⟨x,b,none⟩),.int .i64 f,.slice (some ⟨l,0,none⟩) a.length a.length] w fun e w' =>
      e=.returned (.agg (mL (iC a f a[f] L)).toArray)/\ab [] w w':=by
  have bf:=h.recd.lt;have a6:=ok.len;have ap:=Po a f ok ha a1;obtain⟨W,hW⟩:∃W,W=w.alloc (.cells #[.string ⟨#[]⟩,.int .i64 0,.int .i64 0,.string ⟨#[]⟩,.int .i64 0,.int .i64 0] 38):=⟨_,rfl⟩
  have kW:ab [] w W:=by rw[hW];exact(ab.refl [] _).alloc _
  have BF:W.heap[w.heap.size]?=some (.cells (mL qd).toArray 38 (0,0)):=by rw[hW];exact QS _ _
  have HW:Hid _:=hW.symm;clear hW;have U:Hid (iC a f a[f] L=ny a[f].label L (lx a f a[f]).1 (if(Fw (lx a f a[f]).1).isNone=true/\((lx a f a[f]).2.1==0)=true then gJ a f a[f] (lx a f a[f]).1 else(lx a f a[f]).2)):=rfl;have RD:=fun(w':World) (k:ab [] w w')=>Jb x b f a H w' (h.Vb k).recd ha ok a1
  have PL:=fun(hd:Hd) (w':World) (k:ab [] w w') (o':aw w' hd (go (lx a f a[f]).1))=>Kp x b l f a H K hd (lx a f a[f]).1 w' (h.Vb k).recd ok ha (aS.Vb k) o' ap
  have al:=ap.len;have ax:Hid _:=RD;have ar:Hid _:=PL;clear RD PL ap;generalize lx a f a[f]=PF at *;obtain⟨c,J,G⟩:=PF;simp only at U ax ar al;go_enter func114,ntmps114
  go_upto_region 1 with fail
  rw[HW.out]
  go_upto_region 2 with (go_at_call 97;refine(a9 x b f a H _ (by exact(h.Vb kW).recd) ha).mono ?_;rintro e m ⟨rfl,k1⟩;unfold ee)
  obtain⟨W2,ac⟩:∃W2,W2=m.alloc (.cells #[.string a[f].label,.int .i64 0,.int .i64 0,.string ⟨#[]⟩,.int .i64 0,.int .i64 0] 38):=⟨_,rfl⟩
  have k2:ab [] W W2:=by rw[ac];exact k1.alloc _
  have BR:W2.heap[m.heap.size]?=some (.cells (mL ⟨a[f].label,0,0,kT⟩).toArray 38 (0,0)):=by rw[ac];exact QS _ _
  have d:w.heap.size<m.heap.size:=by have:=k1.size;have:=ae BF;omega
  rw[<-ac];clear ac;have K2:=kW.trans k2;have a3:=k2.get BF (by simp)
  go_upto_region 3 with (go_at_call 100;refine(ax.out _ (by exact K2)).mono ?_;rintro e w3 ⟨hd,rfl,ai,be,k3⟩;unfold gU)
  obtain⟨Z,S⟩:∃Z,Z=w3.alloc (.cells #[.int .i64 J,.string G.file,.int .i64 G.line,.int .i64 G.col] 165):=⟨_,rfl⟩
  have k4:ab [] W2 Z:=by rw[S];exact k3.alloc _
  have B9:Z.heap[w3.heap.size]?=some (.cells (Ec (J,G)) 165 (0,0)):=by rw[S];exact QS _ _
  have N:aw Z hd (go c):=by rw[S];exact ai.Vg (fun a2 hx=>((ab.refl [] _).alloc _).block a2 (ai.lt hx) (by simp))
  rw[<-S];clear S;have bg:m.heap.size<w3.heap.size:=by have:=k3.size;have:=ae BR;omega
  have K4:=K2.trans k4;have af:=k4.get BR (by simp);have ad:=k4.get a3 (by simp);have FU:=tU hd c Z N (by omega)
  cases hu:Fw c with
  | some u =>
    have HU:Hid _:=hu;rw[hu]at FU;simp only[nB]at FU
    have a0:u<c.length:=by
      have:=Rz hu;simpa using this
    have bj:¬((u:Int)<0):=by omega
    have a7:(u:Int) ≥ 0:=by omega
    have ba:(u:Int)<c.length:=by omega
    clear hu;have Y:=K4;have O:=B9;have n:=af;have z:=ad;obtain⟨f0,f1,f2,f3⟩:=jh O;obtain⟨o,p,q,r,s,t⟩:=dY n;have yr:=am n;simp only[kT]at o p q r s t
    cases T:(J==0)
    · have aT:(J != 0)=true:=by simp[bne,T]
      have Q:Hid (iC a f a[f] L=⟨a[f].label,2,J,G⟩):=by show _=_;rw[U.out,HU.out,T];simp[ny,T]
      clear U
      go_upto_region 4 with (go_at_call 161;refine FU.mono ?_;rintro e wu ⟨rfl,I⟩;rw[I])
      go_upto_region 16 with fail
      obtain⟨X,j⟩:∃X,X=((((Z.setCell ⟨m.heap.size,1,none⟩ (.int .i64 2)).setCell ⟨m.heap.size,2,none⟩ (.int .i64 J)).setCell ⟨m.heap.size,3,none⟩ (.string G.file)).setCell ⟨m.heap.size,4,none⟩ (.int .i64 G.line)).setCell ⟨m.heap.size,5,none⟩ (.int .i64 G.col):=⟨_,rfl⟩
      have P:X.heap[m.heap.size]?=some (.cells (mL ⟨a[f].label,2,J,G⟩).toArray 38 (0,0)):=by
        rw[j];rw[ah (ah (ah (ah (ah n _ _) _ _) _ _) _ _) _ _];rfl
      have R:ab [] w X:=by rw[j];exact(((((Y.setCell (QV (RM d)) _).setCell (QV (RM d)) _).setCell (QV (RM d)) _).setCell (QV (RM d)) _).setCell (QV (RM d)) _)
      have g:X.heap[w.heap.size]?=some (.cells (mL qd).toArray 38 (0,0)):=by
        rw[j];rw[Q4 _ _ _ _ (by simp;omega)];rw[Q4 _ _ _ _ (by simp;omega)];rw[Q4 _ _ _ _ (by simp;omega)];rw[Q4 _ _ _ _ (by simp;omega)];rw[Q4 _ _ _ _ (by simp;omega)];exact z
      rw[<-j];clear j o p q r s t yr;obtain⟨o,p,q,r,s,t⟩:=dY P;obtain⟨A,B,C,D,E,F⟩:=dY g;have ys:=am g;simp only[qd,kT]at o p q r s t A B C D E F;go_wp2;exact QY (v:=.agg (mL ⟨a[f].label,2,J,G⟩).toArray) (by simp[results,results114,go_sem,A,B,C,D,E,F,mL]) rfl ⟨by rw[Q.out],yI R (QR _) _ _ _ _ _ _⟩
    · have aT:(J != 0)=false:=by simp[bne,T]
      obtain⟨gp,ep,az,ag,-,-,d2,d3,d4⟩:=N.step u a0;have Q:Hid (iC a f a[f] L=⟨a[f].label,3,0,c[u].at_⟩):=by show _=_;rw[U.out,HU.out,T];simp[ny,T,HU.out,a0]
      obtain⟨ao,bd⟩:=hd;simp only at ep az ag;subst ep;clear U;generalize c[u]=st at *
      go_upto_region 4 with (go_at_call 161;refine FU.mono ?_;rintro e wu ⟨rfl,I⟩;rw[I])
      go_upto_region 16 with fail
      obtain⟨X,j⟩:∃X,X=(((Z.setCell ⟨m.heap.size,1,none⟩ (.int .i64 3)).setCell ⟨m.heap.size,3,none⟩ (.string st.at_.file)).setCell ⟨m.heap.size,4,none⟩ (.int .i64 st.at_.line)).setCell ⟨m.heap.size,5,none⟩ (.int .i64 st.at_.col):=⟨_,rfl⟩
      have P:X.heap[m.heap.size]?=some (.cells (mL ⟨a[f].label,3,0,st.at_⟩).toArray 38 (0,0)):=by
        rw[j];rw[ah (ah (ah (ah n _ _) _ _) _ _) _ _];rfl
      have R:ab [] w X:=by rw[j];exact((((Y.setCell (QV (RM d)) _).setCell (QV (RM d)) _).setCell (QV (RM d)) _).setCell (QV (RM d)) _)
      have g:X.heap[w.heap.size]?=some (.cells (mL qd).toArray 38 (0,0)):=by
        rw[j];rw[Q4 _ _ _ _ (by simp;omega)];rw[Q4 _ _ _ _ (by simp;omega)];rw[Q4 _ _ _ _ (by simp;omega)];rw[Q4 _ _ _ _ (by simp;omega)];exact z
      rw[<-j];clear j o p q r s t yr;obtain⟨o,p,q,r,s,t⟩:=dY P;obtain⟨A,B,C,D,E,F⟩:=dY g;have ys:=am g;simp only[qd,kT]at o p q r s t A B C D E F;go_wp2;exact QY (v:=.agg (mL ⟨a[f].label,3,0,st.at_⟩).toArray) (by simp[results,results114,go_sem,A,B,C,D,E,F,mL]) rfl ⟨by rw[Q.out],yI R (QR _) _ _ _ _ _ _⟩
  | none =>
    have HU:Hid _:=hu;rw[hu]at FU;simp only[nB]at FU;clear hu
    cases T:(J==0)
    · have aT:(J != 0)=true:=by simp[bne,T]
      have Q:Hid (iC a f a[f] L=⟨a[f].label,2,J,G⟩):=by show _=_;rw[U.out,HU.out,T];simp[ny,T]
      have Y:=K4;have O:=B9;have n:=af;have z:=ad;obtain⟨f0,f1,f2,f3⟩:=jh O;obtain⟨o,p,q,r,s,t⟩:=dY n;have yr:=am n;simp only[kT]at o p q r s t;clear U
      go_upto_region 4 with (go_at_call 161;refine FU.mono ?_;rintro e wu ⟨rfl,I⟩;rw[I])
      go_upto_region 16 with fail
      obtain⟨X,j⟩:∃X,X=((((Z.setCell ⟨m.heap.size,1,none⟩ (.int .i64 2)).setCell ⟨m.heap.size,2,none⟩ (.int .i64 J)).setCell ⟨m.heap.size,3,none⟩ (.string G.file)).setCell ⟨m.heap.size,4,none⟩ (.int .i64 G.line)).setCell ⟨m.heap.size,5,none⟩ (.int .i64 G.col):=⟨_,rfl⟩
      have P:X.heap[m.heap.size]?=some (.cells (mL ⟨a[f].label,2,J,G⟩).toArray 38 (0,0)):=by
        rw[j];rw[ah (ah (ah (ah (ah n _ _) _ _) _ _) _ _) _ _];rfl
      have R:ab [] w X:=by rw[j];exact(((((Y.setCell (QV (RM d)) _).setCell (QV (RM d)) _).setCell (QV (RM d)) _).setCell (QV (RM d)) _).setCell (QV (RM d)) _)
      have g:X.heap[w.heap.size]?=some (.cells (mL qd).toArray 38 (0,0)):=by
        rw[j];rw[Q4 _ _ _ _ (by simp;omega)];rw[Q4 _ _ _ _ (by simp;omega)];rw[Q4 _ _ _ _ (by simp;omega)];rw[Q4 _ _ _ _ (by simp;omega)];rw[Q4 _ _ _ _ (by simp;omega)];exact z
      rw[<-j];clear j o p q r s t yr;obtain⟨o,p,q,r,s,t⟩:=dY P;obtain⟨A,B,C,D,E,F⟩:=dY g;have ys:=am g;simp only[qd,kT]at o p q r s t A B C D E F;go_wp2;exact QY (v:=.agg (mL ⟨a[f].label,2,J,G⟩).toArray) (by simp[results,results114,go_sem,A,B,C,D,E,F,mL]) rfl ⟨by rw[Q.out],yI R (QR _) _ _ _ _ _ _⟩
    · have M:Hid (iC a f a[f] L=ny a[f].label L c (gJ a f a[f] c)):=by show _=_;rw[U.out,HU.out,T];simp
      obtain⟨f0,f1,f2,f3⟩:=jh B9;clear U;generalize gJ a f a[f] c=y at *
      go_upto_region 4 with (go_at_call 161;refine FU.mono ?_;rintro e wu ⟨rfl,I⟩;rw[I])
      have bc:=K4
      go_upto_region 7 with (go_at_call 162;refine(ar.out hd _ (by exact K4) (by exact N)).mono ?_;rintro e w5 ⟨rfl,k5⟩;unfold gU;obtain⟨t0,t1,t2,t3⟩:=jh (k5.get B9 (by simp));have yt:=am (k5.get B9 (by simp)))
      obtain⟨V,hV⟩:∃V,V=(((w5.setCell ⟨w3.heap.size,0,none⟩ (.int .i64 y.1)).setCell ⟨w3.heap.size,1,none⟩ (.string y.2.file)).setCell ⟨w3.heap.size,2,none⟩ (.int .i64 y.2.line)).setCell ⟨w3.heap.size,3,none⟩ (.int .i64 y.2.col):=⟨_,rfl⟩
      have O:V.heap[w3.heap.size]?=some (.cells (Ec y) 165 (0,0)):=by
        rw[hV,ah (ah (ah (ah (k5.get B9 (by simp)) _ _) _ _) _ _)];rfl
      have k9:ab [w3.heap.size] w5 V:=by rw[hV];exact ji _ _ _ _
      have Y:ab [] w V:=by rw[hV];exact kH (K4.trans k5) (by omega) _ _ _ _
      have n:=k9.get (k5.get af (by simp)) (by simp;omega);have z:=k9.get (k5.get ad (by simp)) (by simp;omega);have a4:aw V hd (go c):=(N.Vg (w':=w5) (fun a2 hx=>k5.block a2 (N.lt hx) (by simp))).Vg (fun a2 hx=>k9.block a2 (QX (N.lt hx) k5.size) (by simp;rintro rfl;have:=ai.lt hx;omega));rw[<-hV];clear hV t0 t1 t2 t3 yt;clear f0 f1 f2 f3;obtain⟨f0,f1,f2,f3⟩:=jh O;obtain⟨o,p,q,r,s,t⟩:=dY n;have yr:=am n;simp only[kT]at o p q r s t
      cases hf:(y.1==0)
      · have a5:(y.1 != 0)=true:=by simp[bne,hf]
        have Q:Hid (iC a f a[f] L=⟨a[f].label,2,y.1,y.2⟩):=by show _=_;rw[M.out];simp[ny,hf]
        clear M
        go_upto_region 16 with fail
        obtain⟨X,j⟩:∃X,X=((((V.setCell ⟨m.heap.size,1,none⟩ (.int .i64 2)).setCell ⟨m.heap.size,2,none⟩ (.int .i64 y.1)).setCell ⟨m.heap.size,3,none⟩ (.string y.2.file)).setCell ⟨m.heap.size,4,none⟩ (.int .i64 y.2.line)).setCell ⟨m.heap.size,5,none⟩ (.int .i64 y.2.col):=⟨_,rfl⟩
        have P:X.heap[m.heap.size]?=some (.cells (mL ⟨a[f].label,2,y.1,y.2⟩).toArray 38 (0,0)):=by
          rw[j];rw[ah (ah (ah (ah (ah n _ _) _ _) _ _) _ _) _ _];rfl
        have R:ab [] w X:=by rw[j];exact(((((Y.setCell (QV (RM d)) _).setCell (QV (RM d)) _).setCell (QV (RM d)) _).setCell (QV (RM d)) _).setCell (QV (RM d)) _)
        have g:X.heap[w.heap.size]?=some (.cells (mL qd).toArray 38 (0,0)):=by
          rw[j];rw[Q4 _ _ _ _ (by simp;omega)];rw[Q4 _ _ _ _ (by simp;omega)];rw[Q4 _ _ _ _ (by simp;omega)];rw[Q4 _ _ _ _ (by simp;omega)];rw[Q4 _ _ _ _ (by simp;omega)];exact z
        rw[<-j];clear j o p q r s t yr;obtain⟨o,p,q,r,s,t⟩:=dY P;obtain⟨A,B,C,D,E,F⟩:=dY g;have ys:=am g;simp only[qd,kT]at o p q r s t A B C D E F;go_wp2;exact QY (v:=.agg (mL ⟨a[f].label,2,y.1,y.2⟩).toArray) (by simp[results,results114,go_sem,A,B,C,D,E,F,mL]) rfl ⟨by rw[Q.out],yI R (QR _) _ _ _ _ _ _⟩
      · have a5:(y.1 != 0)=false:=by simp[bne,hf]
        have RE:=Mh x b a H i L hd c V (h.Vb Y) a4 (by omega)
        cases hr:pm L c
        · have Q:Hid (iC a f a[f] L=⟨a[f].label,4,0,kT⟩):=by show _=_;rw[M.out];simp[ny,hf,HU.out,hr]
          rw[hr]at RE;clear M
          go_upto_region 6 with (go_at_call 163;refine RE.mono ?_;rintro e wv ⟨rfl,an⟩;rw[an])
          go_upto_region 16 with fail
          obtain⟨X,j⟩:∃X,X=V.setCell ⟨m.heap.size,1,none⟩ (.int .i64 4):=⟨_,rfl⟩
          have P:X.heap[m.heap.size]?=some (.cells (mL ⟨a[f].label,4,0,kT⟩).toArray 38 (0,0)):=by
            rw[j];rw[ah n _ _];rfl
          have R:ab [] w X:=by rw[j];exact(Y.setCell (QV (RM d)) _)
          have g:X.heap[w.heap.size]?=some (.cells (mL qd).toArray 38 (0,0)):=by
            rw[j];rw[Q4 _ _ _ _ (by simp;omega)];exact z
          rw[<-j];clear j o p q r s t yr;obtain⟨o,p,q,r,s,t⟩:=dY P;obtain⟨A,B,C,D,E,F⟩:=dY g;have ys:=am g;simp only[qd,kT]at o p q r s t A B C D E F;go_wp2;exact QY (v:=.agg (mL ⟨a[f].label,4,0,kT⟩).toArray) (by simp[results,results114,go_sem,A,B,C,D,E,F,mL,kT]) rfl ⟨by rw[Q.out],yI R (QR _) _ _ _ _ _ _⟩
        · have Q:Hid (iC a f a[f] L=⟨a[f].label,5,0,kT⟩):=by show _=_;rw[M.out];simp[ny,hf,HU.out,hr]
          rw[hr]at RE;clear M
          go_upto_region 15 with (go_at_call 163;refine RE.mono ?_;rintro e wv ⟨rfl,an⟩;rw[an])
          go_upto_region 16 with fail
          obtain⟨X,j⟩:∃X,X=V.setCell ⟨m.heap.size,1,none⟩ (.int .i64 5):=⟨_,rfl⟩
          have P:X.heap[m.heap.size]?=some (.cells (mL ⟨a[f].label,5,0,kT⟩).toArray 38 (0,0)):=by
            rw[j];rw[ah n _ _];rfl
          have R:ab [] w X:=by rw[j];exact(Y.setCell (QV (RM d)) _)
          have g:X.heap[w.heap.size]?=some (.cells (mL qd).toArray 38 (0,0)):=by
            rw[j];rw[Q4 _ _ _ _ (by simp;omega)];exact z
          rw[<-j];clear j o p q r s t yr;obtain⟨o,p,q,r,s,t⟩:=dY P;obtain⟨A,B,C,D,E,F⟩:=dY g;have ys:=am g;simp only[qd,kT]at o p q r s t A B C D E F;go_wp2;exact QY (v:=.agg (mL ⟨a[f].label,5,0,kT⟩).toArray) (by simp[results,results114,go_sem,A,B,C,D,E,F,mL,kT]) rfl ⟨by rw[Q.out],yI R (QR _) _ _ _ _ _ _⟩
end
def Ap(l:List St)(n:Nat)(prev:List Rw):Rw:=match l[n]? with
 | some s=>if(s.kind==4)=true then⟨s.label,1,0,kT⟩ else if(s.kind==5)=true then iC l n s prev else qd
 | none=>qd
def jZ(l:List St):Nat->List Rw
 | 0=>[]
 | k+1=>jZ l k++[Ap l k (jZ l k)]
theorem oN(k:Nat):(jZ w k).length=k:=by
 induction k with
 | zero=>rfl
 | succ k a=>simp[jZ,a]
def jk(l:List St)(k:Nat):List Rw:=jZ l k++List.replicate (l.length-k) qd
theorem sY(h:l<=w.length):(jk w l).length=w.length:=by simp[jk,oN];omega
theorem Jc(h:l<w.length):jk w (l+1)=(jk w l).set l (Ap w l (jZ w l)):=by
 unfold jk;have e:w.length-l=(w.length-(l+1))+1:=by omega
 rw[e,TY,jZ];have a:=oN w l;rw[SS _ _ (by omega),a,RY,Tv,Sy];rfl
theorem LQ:jk w w.length=jZ w w.length:=by simp[jk]
theorem LR(h:l<w.length):(jk w l).set l qd=jk w l:=by
 unfold jk;have e:w.length-l=(w.length-(l+1))+1:=by omega
 have a:=oN w l;rw[e,TY,SS _ _ (by omega),a,RY,Tv]
theorem MR:o8 (g++List.replicate i qd) l=o8 g l:=by
 unfold o8;rw[QQ,QQ]
 by_cases h:l<g.length
 ·rw[Q7 h]
 ·rw[Q5 (by omega),Rx (l:=g) (by omega),Sf]
  split <;> rfl
theorem CQ(h:∀n,o8 z5 n=o8 x3 n)(a:List nF):pm z5 a=pm x3 a:=by
 unfold pm;simp only[h]
theorem Ac(h:∀n,o8 z5 n=o8 x3 n)(l:List St)(n:Nat)(s:St):iC l n s z5=iC l n s x3:=by
 unfold iC ny;rw[CQ h]
theorem Em:iC w f y (jk w l)=iC w f y (jZ w l):=Ac (fun _=>MR _ _ _) w f y
theorem nU(M B:List Value)(i j:Nat)(v:Value)(a:i=yu.length+j)(b:j<M.length):(yu++(M++B)).set i v=yu++(M.set j v++B):=by
 subst a;rw[SS _ _ (by omega),Nat.add_sub_cancel_left,TM _ _ b]
theorem zg(a:l<g.length):kL g=kL (g.take l)++(mL g[l]++kL (g.drop (l+1))):=by
 have e:g=g.take l++(g[l] :: g.drop (l+1)):=by rw[<-Rf a,Ul]
 conv=>lhs;rw[e]
 unfold kL;rw[Sh,RI]
theorem N9(a:l<g.length)(r:Rw) :
  (((((((kL g).set (l*6) (.string r.label)).set (l*6+1) (.int .i64 r.Vc)).set (l*6+2) (.int .i64 r.why)).set (l*6+3) (.string r.at_.file)).set (l*6+4) (.int .i64 r.at_.line)).set (l*6+5) (.int .i64 r.at_.col))=kL (g.set l r):=by
 have c:(kL (g.take l)).length=l*6:=by rw[CZ,RQ];congr 1;omega
 have b:kL (g.set l r)=kL (g.take l)++(mL r++kL (g.drop (l+1))):=by
  rw[zg (g.set l r) l (by simpa using a)];simp[List.take_set,List.drop_set];rw[List.set_eq_of_length_le (by simp;omega)]
 rw[b,zg g l a,mL,nU _ _ _ _ 0 _ (by omega) (by simp),nU _ _ _ _ 1 _ (by omega) (by simp),nU _ _ _ _ 2 _ (by omega) (by simp),nU _ _ _ _ 3 _ (by omega) (by simp),nU _ _ _ _ 4 _ (by omega) (by simp),nU _ _ _ _ 5 _ (by omega) (by simp)];rfl
theorem ab.wide(k:ab [] T z4):ab y7 T z4:=k.mono (by simp)
def C1(w:World)(g k:Nat)(r:Rw):World :=
 (((((w.setCell ⟨g,k*6,none⟩ (.string r.label)).setCell ⟨g,k*6+1,none⟩ (.int .i64 r.Vc)).setCell ⟨g,k*6+2,none⟩ (.int .i64 r.why)).setCell ⟨g,k*6+3,none⟩ (.string r.at_.file)).setCell ⟨g,k*6+4,none⟩ (.int .i64 r.at_.line)).setCell ⟨g,k*6+5,none⟩ (.int .i64 r.at_.col)
theorem rM(r:Rw):ab [i] H (C1 H i l r) :=
 ((((((ab.refl [i] H).setCell (Q1 (by simp)) _).setCell (Q1 (by simp)) _).setCell (Q1 (by simp)) _).setCell (Q1 (by simp)) _).setCell (Q1 (by simp)) _).setCell (Q1 (by simp)) _
theorem kC.store(h:kC T S o a I z6 z5)(c:S≠z6)(g:∀x,f9 I x->x≠z6)(k:Nat)(i:k<z5.length)(r:Rw):kC (C1 T z6 k r) S o a I z6 (z5.set k r):=by
 have d:=rM T z6 k r;obtain⟨b,t,e,f⟩:=h.cell;refine⟨h.recd.kept d (by simpa using c) (fun x j=>by simpa using g x j),⟨b,t,d.get e (by simpa using c),by rw[Rv];exact f⟩,?_⟩;unfold C1;rw[ah (ah (ah (ah (ah (ah h.arr _ _) _ _) _ _) _ _) _ _)];simp only[List.setIfInBounds_toArray];rw[N9 z5 k i r]
def uU(l:List St)(H:Nat->Hd):Nat->Hd:=fun i=>if i=6∨(10<=i/\i<10+2*l.length) then H i else⟨none,0⟩
theorem oe(h:l=6∨(10<=l/\l<10+2*w.length)):uU w N l=N l:=QW h
theorem gj.trim(h:gj T a I):gj T a (uU a I)/\∀k,f9 (uU a I) k->k<T.heap.size/\f9 I k:=by
 refine⟨⟨?_,fun i s d=>?_,fun i s d=>?_⟩,?_⟩
 ·have e:mo a (uU a I)=mo a I:=by
   rw[<-uR a I (fun i=>if i<10+2*a.length then I i else⟨none,0⟩) (fun j g=>QW g)]
   apply xl
   intro j g
   by_cases c:j<10+2*a.length
   ·simp only[if_pos c];exact oe a I j (QV ⟨g,c⟩)
   ·simp only[if_neg c];exact QT (by omega)
  rw[oe a I 6 (Q1 rfl)];unfold iE;rw[e];exact h.own
 ·have b:i<a.length:=(Q8.1 d).1
  rw[oe a I (10+2*i) (by omega)];exact h.syms i s d
 ·have b:i<a.length:=(Q8.1 d).1
  rw[oe a I (11+2*i) (by omega)];exact h.prfs i s d
 ·rintro k ⟨i,b⟩
  by_cases f:i=6∨(10<=i/\i<10+2*a.length)
  ·rw[oe a I i f]at b
   refine⟨?_,⟨i,b⟩⟩
   rcases f with rfl | ⟨l,m⟩
   ·exact h.own.lt b
   ·by_cases n:(i-10) % 2=0
    ·have e:i=10+2*((i-10) / 2):=by omega
     rw[e]at b;have c:(i-10) / 2<a.length:=by omega
     exact(h.syms _ _ (QP c)).lt b
    ·have e:i=11+2*((i-10) / 2):=by omega
     rw[e]at b;have c:(i-10) / 2<a.length:=by omega
     exact(h.prfs _ _ (QP c)).lt b
  ·have e:uU a I i=⟨none,0⟩:=QT f
   rw[e]at b;simp[Hd.blk]at b
set_option maxRecDepth 100000
theorem oA(h:kC H k x w N b (jk w 0))(ok:iH w)(ac:∀i (hi:i<w.length),yc w[i])(hb:k≠b)(hg:∀B,f9 N B->B≠b) :
  Calls prog 81 #[.pointer (some ⟨k,x,none⟩)] H fun e c=>e=.returned (.tuple #[])/\kC c k x w N b (jZ w w.length)/\ab [b] H c:=by
 have ar:=h.recd.lt;have aT:=ae h.arr;have ag:=ok.len;go_enter func81,ntmps81;go_wp2_with (go_at_call 113;refine(rY k x w N _ (by exact h.recd) ok).mono ?_;rintro e w1 ⟨W,K,rfl,A1,aS,Z,k1⟩)
 go_loopg [3] w.length (fun gk iv wr=>∃(a:Nat),a<=w.length/\gk=w.length-a/\iv=.int .i64 a/\kC wr k x w N b (jk w a)/\gW wr W w w.length K/\ab [b] H wr)
 case atStart=>exact⟨0,by omega,by omega,rfl,h.Vb k1,A1,k1.wide⟩
 case round =>
  obtain⟨a,hk,ax,rfl,v,hA,hK⟩:=hrel;have m:Hid _:=sY w a hk;have c2:=v.at2;rw[m.out]at c2
  by_cases f:a<w.length
  ·have j:Hid (Ap w a (jZ w a)=if(w[a].kind==4)=true then⟨w[a].label,1,0,kT⟩ else if(w[a].kind==5)=true then iC w a w[a] (jk w a) else qd):=by
    show _=_
    unfold Ap;rw[QP f,Em]
   have g:Hid _:=Jc w a f
   go_upto_region 5 with (go_at_call 97;refine(a9 k x a w N _ (by exact v.recd) f).mono ?_;rintro e A ⟨rfl,k3⟩;unfold ee)
   obtain⟨X,R⟩:∃X,X=A.alloc (.cells #[.int .i64 w[a].kind,.string w[a].label,.slice (N (10+2*a)).ao w[a].U6.length (N (10+2*a)).cap,.slice (N (11+2*a)).ao w[a].Vh.length (N (11+2*a)).cap,.string w[a].fin.file,.int .i64 w[a].fin.line,.int .i64 w[a].fin.col,.int .i64 w[a].til] 158):=⟨_,rfl⟩
   have kX:ab [] wr X:=by rw[R];exact k3.alloc _
   have BX:X.heap[A.heap.size]?=some (.cells #[.int .i64 w[a].kind,.string w[a].label,.slice (N (10+2*a)).ao w[a].U6.length (N (10+2*a)).cap,.slice (N (11+2*a)).ao w[a].Vh.length (N (11+2*a)).cap,.string w[a].fin.file,.int .i64 w[a].fin.line,.int .i64 w[a].fin.col,.int .i64 w[a].til] 158 (0,0)):=by rw[R];exact QS _ _
   rw[<-R];clear R;have m0:X.cell? ⟨A.heap.size,0,none⟩=some (.int .i64 w[a].kind):=by rw[aa BX];rfl
   have m1:X.cell? ⟨A.heap.size,1,none⟩=some (.string w[a].label):=by rw[aa BX];rfl
   have d:=v.Vb kX;have P:=hA.Vb kX;have V:=hK.trans kX.wide;have az:=ae d.arr;have ap:=d.recd.lt;have a1:wr.heap.size<=A.heap.size:=k3.size;have af:=ae v.arr;have ad:=v.recd.lt;have t:W≠b:=by omega
   have s:∀n B,(K n).blk=some B->B∉[b]:=fun n B hx=>by have:=Z n B hx;simp;omega
   have u:=d.at2;rw[m.out]at u;have y:a<(jk w a).length:=by rw[m.out];exact f
   obtain⟨G,I,J,L,M,O⟩:=d.row a y;have S:=am d.arr;have a0:(a:Int)<w.length:=by omega
   have ai:A.heap.size≠b:=by omega
   have al:b≠A.heap.size:=by omega
   have an:b≠k:=fun e=>hb e.symm
   clear c2;generalize (jk w a)[a]=l at *
   cases Q:(w[a].kind==4)
   ·cases Y:(w[a].kind==5)
    ·have E:Hid (jk w (a+1)=jk w a):=by
      show _=_
      rw[g.out,j.out,Q,Y];simp only[Bool.false_eq_true,if_false];exact LR w a f
     clear j g;go_wp2
     go_roundg (w.length-(a+1))
     case measure=>omega
     case rel=>exact⟨a+1,by omega,rfl,by go_num,by rw[E.out];exact d,P,V⟩
    ·have E:Hid (jk w (a+1)=(jk w a).set a (iC w a w[a] (jk w a))):=by show _=_;rw[g.out,j.out,Q,Y];rfl
     have JA:=fun(c:World) (q:ab [] X c)=>Iy k x a b W w N K (jk w a) c (d.Vb q) ok f (ac a f) (P.Vb q)
     have F:Hid _:=JA
     have T:Hid (∀c,ab [] X c->c.cell? ⟨k,x+2,none⟩=some (.slice (some ⟨b,0,none⟩) w.length w.length)):=by
      intro c q;have:=(d.Vb q).at2;rw[m.out]at this;exact this
     have U:Hid (∀c,ab [] X c->c.cell? ⟨b,a*6,none⟩=some (.string l.label)/\c.cell? ⟨b,a*6+1,none⟩=some (.int .i64 l.Vc)/\c.cell? ⟨b,a*6+2,none⟩=some (.int .i64 l.why)/\c.cell? ⟨b,a*6+3,none⟩=some (.string l.at_.file)/\c.cell? ⟨b,a*6+4,none⟩=some (.int .i64 l.at_.line)/\c.cell? ⟨b,a*6+5,none⟩=some (.int .i64 l.at_.col)/\∀n,c.frozen? ⟨b,n,none⟩=false):=by
      intro c q;have z:=q.get d.arr (by simp);refine⟨?_,?_,?_,?_,?_,?_,fun n=>am z n⟩
      ·rw[aa z,<-aa d.arr];exact G
      ·rw[aa z,<-aa d.arr];exact I
      ·rw[aa z,<-aa d.arr];exact J
      ·rw[aa z,<-aa d.arr];exact L
      ·rw[aa z,<-aa d.arr];exact M
      ·rw[aa z,<-aa d.arr];exact O
     unfold mL at F;clear j g JA G I J L M O S;generalize iC w a w[a] (jk w a)=r at *
     go_upto_region 8 with fail
     go_region_held3 (fun c=>c.cell? ⟨k,x+2,none⟩=some (.slice (some ⟨b,0,none⟩) w.length w.length)) (go_keep) (first | (go_at_call 114;refine(F.out _ (by exact(ab.refl [] X).drew)).mono ?_;rintro e w5 ⟨rfl,k5⟩;have x0:=T.out w5 ((ab.refl [] X).drew.trans k5);obtain⟨G,I,J,L,M,O,S⟩:=U.out w5 ((ab.refl [] X).drew.trans k5)))
     all_goals
      have kk:=((ab.refl [] X).drew.trans k5);have p:=(d.Vb kk).store hb hg a y r;have o:=rM w5 b a r;have C:=(P.Vb kk).kept o (by simpa using t) s;have D:=(V.trans kk.wide).trans o;rw[<-E.out]at p;unfold C1 at p o C D;clear m0 m1 u G I J L M O S x0;go_wp2
      go_roundg (w.length-(a+1))
      case measure=>omega
      case rel=>exact⟨a+1,by omega,rfl,by go_num,p,C,D⟩
   ·have Y:(w[a].kind==5)=false:=by have:=TR Q;rw[this];rfl
    have E:Hid (jk w (a+1)=(jk w a).set a ⟨w[a].label,1,0,kT⟩):=by show _=_;rw[g.out,j.out,Q];rfl
    clear j g
    go_upto_region 6 with fail
    go_region
    all_goals
     have p:=d.store hb hg a y ⟨w[a].label,1,0,kT⟩;have o:=rM X b a ⟨w[a].label,1,0,kT⟩;have C:=P.kept o (by simpa using t) s;have D:=V.trans o;rw[<-E.out]at p;unfold C1 at p o C D;simp only[kT]at p C D;clear m1 u G I J L M O S o;go_wp2
     go_roundg (w.length-(a+1))
     case measure=>omega
     case rel=>exact⟨a+1,by omega,rfl,by go_num,p.Vb (ab.refl [] _).drew,C.Vb (ab.refl [] _).drew,D.drew⟩
  ·have e:a=w.length:=by omega
   subst e;rw[LQ]at v;go_wp2;go_end0;exact⟨rfl,v,hK⟩
theorem IM:madeCells (Value.agg #[.string ⟨#[]⟩,.int .i64 0,.int .i64 0,.string ⟨#[]⟩,.int .i64 0,.int .i64 0]).cells (l*6)=(kL (List.replicate l qd)).toArray:=by
  have k:(Value.agg #[.string ⟨#[]⟩,.int .i64 0,.int .i64 0,.string ⟨#[]⟩,.int .i64 0,.int .i64 0]).cells=(mL qd).toArray:=by rfl
  rw[k]
  apply Array.ext
  · rw[Su];simp[CZ]
  · intro i f g
    rw[Su]at f;have n:i / 6<(List.replicate l qd).length:=by simp;omega
    have e:=GJ (List.replicate l qd) (i / 6) n (i % 6) (by omega);have d:i / 6*6+i % 6=i:=by omega
    have a:(List.replicate l qd)[i / 6]=qd:=by simp
    rw[d,a]at e;have j:i<(kL (List.replicate l qd)).length:=by simpa using g
    have b:(kL (List.replicate l qd)).toArray[i]=(kL (List.replicate l qd))[i]:=by simp
    rw[b];have c:some (kL (List.replicate l qd))[i]=(mL qd)[i % 6]?:=by rw[<-e,QP j]
    have p:some (madeCells (mL qd).toArray (l*6))[i]=(mL qd)[i % 6]?:=by
      have m:i % 6=0∨i % 6=1∨i % 6=2∨i % 6=3∨i % 6=4∨i % 6=5:=by omega
      have o:(mL qd).toArray.size=6:=rfl;simp only[madeCells,Array.getElem_map,Array.getElem_range,o]
      rcases m with h | h | h | h | h | h <;> rw[h] <;> rfl
    exact Option.some.inj (p.trans c.symm)
theorem LS:jk w 0=List.replicate w.length qd:=by simp[jk,jZ]
theorem ni(h:ab [] T z4)(b:T.heap.size<=S)(a:T.heap.size<=o)(c d e f g i j:Value) :
    ab [] T (((((((z4.setCell ⟨S,0,none⟩ c).setCell ⟨S,1,none⟩ d).setCell ⟨S,2,none⟩ e).setCell ⟨o,0,none⟩ f).setCell ⟨o,1,none⟩ g).setCell ⟨o,2,none⟩ i).setCell ⟨o,3,none⟩ j) :=
  ((((((h.setCell (QV b) _).setCell (QV b) _).setCell (QV b) _).setCell (QV a) _).setCell (QV a) _).setCell (QV a) _).setCell (QV a) _
theorem oP(a c d:Value) :
    ab [b,f] y2 (((((((y2.setCell ⟨b,0,none⟩ x5).setCell ⟨b,1,none⟩ x6).setCell ⟨b,2,none⟩ x7).setCell ⟨f,0,none⟩ x8).setCell ⟨f,1,none⟩ a).setCell ⟨f,2,none⟩ c).setCell ⟨f,3,none⟩ d) :=
  (((((((ab.refl [b,f] y2).setCell (Q1 (by simp)) _).setCell (Q1 (by simp)) _).setCell (Q1 (by simp)) _).setCell (Q1 (by simp)) _).setCell (Q1 (by simp)) _).setCell (Q1 (by simp)) _).setCell (Q1 (by simp)) _
def Dz(fs:Fs)(k0:Nat)(w:World)(e:Ending)(w':World):Prop :=
  (if((bK fs k0).1.1==0)=true then ∃(H:Nat->Hd) (g:Nat) (a7:Option Addr) (n7 c7:Nat),
      e=.returned (.tuple #[.agg #[.slice (H 6).ao (bK fs k0).2.2.Vn.length (H 6).cap,.slice a7 n7 c7,.slice (some ⟨g,0,none⟩) (bK fs k0).2.2.Vn.length (bK fs k0).2.2.Vn.length],gU cY]) /\
      gj w' (bK fs k0).2.2.Vn H/\w'.heap[g]?=some (.cells (kL (jZ (bK fs k0).2.2.Vn (bK fs k0).2.2.Vn.length)).toArray 38 (0,0))/\(∀k,f9 H k->w.heap.size<=k)/\w.heap.size<=g
   else e=.returned (.tuple #[.agg #[.slice none 0 0,.slice none 0 0,.slice none 0 0],gU (bK fs k0).1]))/\ab [] w w'
theorem Pk(ht:bi H zt k zb yu)(aS:x<zb.length)(ap:∀j,j<zb.length->(ak zb j).size<=1024) :
    Calls prog 53 #[.pointer (some ⟨zt,0,none⟩),.int .i64 x] H fun e w=>Dz zb x H e w:=by
  have bf:=ht.lt;obtain⟨i0,hi,a3,a4,a5⟩:=Re Qa;have V:Hid _:=wT zb ap x;obtain⟨W,hW⟩:∃W,W=(H.alloc (.cells #[.slice none 0 0,.slice none 0 0,.slice none 0 0] 78)).alloc (.cells #[.int .i64 0,.string ⟨#[]⟩,.int .i64 0,.int .i64 0] 87):=⟨_,rfl⟩
  have hK:ab [] H W:=by rw[hW];exact((ab.refl [] _).alloc _).alloc _
  have hA:W.heap[H.heap.size]?=some (.cells #[.slice none 0 0,.slice none 0 0,.slice none 0 0] 78 (0,0)):=by
    rw[hW];exact((ab.refl [] _).alloc _).get (QS _ _) (by simp)
  have hF:W.heap[H.heap.size+1]?=some (.cells bA 87 (0,0)):=by
    rw[hW];have e:(H.alloc (.cells #[.slice none 0 0,.slice none 0 0,.slice none 0 0] 78)).heap.size=H.heap.size+1:=by simp
    rw[<-e];exact QS _ _
  have HW:Hid _:=hW.symm;have RD:=Md zt k x zb yu W (ht.kept hK (by simp)) aS ap;have ag:Hid _:=RD;clear RD hW;unfold Dz;generalize bK zb x=R at *;obtain⟨⟨r,pf,pl,pc⟩,bd,d'⟩:=R;simp only[gU,cY]at ag V ⊢;generalize d'.Vn=l at *;generalize d'.rbl=rb at *;go_enter func53,ntmps53;go_wp2_with fail;rw[HW.out];refine QU ag.out ?_;rintro e a ⟨t,v⟩;have J:=v.get hA (by simp);have ad:=v.get hF (by simp);have hz:=v.size;have be:=ae hF
  cases hr:(r==0)
  · have aT:(r != 0)=true:=by simp[bne,hr]
    simp only[hr,Bool.false_eq_true,if_false]at t ⊢;subst t;have a0:a.cell? ⟨H.heap.size,0,none⟩=some (.slice none 0 0):=by rw[aa J];rfl
    have a1:a.cell? ⟨H.heap.size,1,none⟩=some (.slice none 0 0):=by rw[aa J];rfl
    have a2:a.cell? ⟨H.heap.size,2,none⟩=some (.slice none 0 0):=by rw[aa J];rfl
    obtain⟨z0,z1,z2,z3⟩:=b8 ad;have ya:=am J;have yf:=am ad;have B:=ae J;have C:=ae ad;go_wp2_with fail
    go_region
    all_goals go_wp2
    all_goals exact QY (v:=.tuple #[.agg #[.slice none 0 0,.slice none 0 0,.slice none 0 0],.agg #[.int .i64 r,.string pf,.int .i64 pl,.int .i64 pc]]) (by simp[results,results53,go_sem,a0,a1,a2,z0,z1,z2,z3,B,C]) rfl ⟨rfl,(((ni (hK.trans v) (QR _) (TO _) _ _ _ _ _ _ _).alloc _).alloc _).drew⟩
  · have aT:(r != 0)=false:=by simp[bne,hr]
    simp only[hr,if_true]at t ⊢;obtain⟨U,rfl,an,al⟩:=t;obtain⟨hS,hT⟩:=an.trim;have ai:U 6=uU l U 6:=(oe l U 6 (Q1 rfl)).symm;rw[ai];have hN:∀i,f9 (uU l U) i->i<a.heap.size/\H.heap.size+2<=i:=fun i p=>⟨(hT i p).1,by have:=al i (hT i p).2;omega⟩
    clear an al hT ai;generalize uU l U=b at *;generalize (U 7).ao=g at *;generalize (U 7).cap=hh at *;generalize rb.length=m at *;clear U;have M:Hid _:=hN;have ba:=V.out.ok.len;obtain⟨f,K⟩:∃f,f=(a.alloc (.cells #[.slice (b 6).ao l.length (b 6).cap,.slice g m hh] 76)).alloc (.cells #[.int .i64 0,.string ⟨#[]⟩,.int .i64 0,.int .i64 0] 87):=⟨_,rfl⟩
    have k3:ab [] a f:=by rw[K];exact((ab.refl [] _).alloc _).alloc _
    have B3:f.heap[a.heap.size]?=some (.cells #[.slice (b 6).ao l.length (b 6).cap,.slice g m hh] 76 (0,0)):=by
      rw[K];exact((ab.refl [] _).alloc _).get (QS _ _) (by simp)
    have D:f.heap.size=a.heap.size+2:=by rw[K];simp
    have N:=hS.Vb k3;have R3:dF f a.heap.size 0 l b:=⟨⟨_,_,B3,rfl⟩,N⟩;have r0:f.cell? ⟨a.heap.size,0,none⟩=some (.slice (b 6).ao l.length (b 6).cap):=by rw[aa B3];rfl
    have r1:f.cell? ⟨a.heap.size,1,none⟩=some (.slice g m hh):=by rw[aa B3];rfl
    have ax:Hid (∀w,ab [] f w->Calls prog 80 #[.pointer (some ⟨a.heap.size,0,none⟩)] w fun e a6=>e=.returned (.int .i64 l.length)/\a6=w):=fun w q=>eM a.heap.size 0 l b w (R3.Vb q)
    have bc:Hid (∀w,ab [] f w->w.cell? ⟨a.heap.size,0,none⟩=some (.slice (b 6).ao l.length (b 6).cap)/\w.cell? ⟨a.heap.size,1,none⟩=some (.slice g m hh)):=fun w q=>by
      have q2:=q.get B3 (by simp);exact⟨by rw[aa q2];rfl,by rw[aa q2];rfl⟩
    have m1:=fun H=>dB (P:=prog) H 54 38 i0 _ underlying54 hi a3 l.length 6 a4 (by rw[a5];omega) (by omega)
    obtain⟨E,af⟩:∃E,E=madeCells (Value.agg #[.string ⟨#[]⟩,.int .i64 0,.int .i64 0,.string ⟨#[]⟩,.int .i64 0,.int .i64 0]).cells (l.length*6):=⟨_,rfl⟩
    have ac:Hid (E=(kL (jk l 0)).toArray):=by show _=_;rw[af,IM,LS]
    rw[<-af]at m1;clear af hN hS;have az:Hid _:=K.symm;clear K
    go_upto_region 4 with fail
    rw[az.out]
    go_region_held3 (fun w=>w.cell? ⟨a.heap.size,0,none⟩=some (.slice (b 6).ao l.length (b 6).cap)/\w.cell? ⟨a.heap.size,1,none⟩=some (.slice g m hh)) (go_keep) (first | (go_at_call 80;refine(ax.out _ (by first | exact(ab.refl [] f).drew | exact((ab.refl [] f).alloc _).drew | exact(ab.refl [] f).drew.alloc _)).mono ?_;rintro e wc ⟨rfl,O⟩;rw[O]))
    · obtain⟨o,c⟩:∃o,o=((f.alloc (.cells E 38)).alloc (.cells #[.slice (b 6).ao l.length (b 6).cap,.slice g m hh,.slice (some ⟨a.heap.size+2,0,none⟩) l.length l.length] 78)).drew:=⟨_,rfl⟩
      have Z:ab [] f o:=by rw[c];exact(((ab.refl [] _).alloc _).alloc _).drew
      have y:o.heap[a.heap.size+2+1]?=some (.cells #[.slice (b 6).ao l.length (b 6).cap,.slice g m hh,.slice (some ⟨a.heap.size+2,0,none⟩) l.length l.length] 78 (0,0)):=by
        rw[c];have e1:(f.alloc (.cells E 38)).heap.size=a.heap.size+2+1:=by simp[D]
        have e:=QS (f.alloc (.cells E 38)) (.cells #[.slice (b 6).ao l.length (b 6).cap,.slice g m hh,.slice (some ⟨a.heap.size+2,0,none⟩) l.length l.length] 78);rw[e1]at e;exact(ab.refl [] _).drew.get e (by simp)
      have T:o.heap[a.heap.size+2]?=some (.cells (kL (jk l 0)).toArray 38 (0,0)):=by
        rw[c,<-ac.out];have e:=((ab.refl [] (f.alloc (.cells E 38))).alloc (.cells #[.slice (b 6).ao l.length (b 6).cap,.slice g m hh,.slice (some ⟨a.heap.size+2,0,none⟩) l.length l.length] 78)).drew.get (QS _ _) (by simp);rw[D]at e;exact e
      rw[<-c];clear c;have Y:kC o (a.heap.size+2+1) 0 l b (a.heap.size+2) (jk l 0):=⟨⟨⟨_,_,y,rfl⟩,N.Vb Z⟩,⟨_,_,y,by rw[sY l 0 (Ro _)];rfl⟩,T⟩;have HJ:Hid _:=(oA (a.heap.size+2+1) 0 (a.heap.size+2) l b o Y V.out.ok V.out.prf (by omega) (fun ar hx=>by have:=M.out ar hx;omega));have L:=(v.trans k3).trans Z;have Q:=L.get hA (by simp);have S:=L.get hF (by simp);clear Y O;go_wp2_with fail;refine QU HJ.out ?_;rintro e d ⟨rfl,I,n⟩;have z:=n.get y (by simp);have s:=n.get Q (by simp;omega);have A:=n.get S (by simp;omega);have b0:d.cell? ⟨a.heap.size+2+1,0,none⟩=some (.slice (b 6).ao l.length (b 6).cap):=by rw[aa z];rfl
      have b1:d.cell? ⟨a.heap.size+2+1,1,none⟩=some (.slice g m hh):=by rw[aa z];rfl
      have b2:d.cell? ⟨a.heap.size+2+1,2,none⟩=some (.slice (some ⟨a.heap.size+2,0,none⟩) l.length l.length):=by rw[aa z];rfl
      have a0:d.cell? ⟨H.heap.size,0,none⟩=some (.slice none 0 0):=by rw[aa s];rfl
      have a1:d.cell? ⟨H.heap.size,1,none⟩=some (.slice none 0 0):=by rw[aa s];rfl
      have a2:d.cell? ⟨H.heap.size,2,none⟩=some (.slice none 0 0):=by rw[aa s];rfl
      obtain⟨z0,z1,z2,z3⟩:=b8 A;have ya:=am s;have yf:=am A;have B:=ae s;have C:=ae A
      have KW:ab [] H d:=by
        have q:=(hK.trans L);exact⟨n.os.trans q.os,n.tape.trans q.tape,n.output.trans q.output,Q3 q.size n.size,fun i p _=>(n.block i (QX p q.size) (by simp;omega)).trans (q.block i p (by simp))⟩
      have X:=oP d H.heap.size (H.heap.size+1);have G:Hid (gj d l b):=I.recd.Vn;have F:Hid _:=I.arr;have u:Hid _:=X;clear I X z s A y Q S T;go_wp2
      exact QY (v:=.tuple #[.agg #[.slice (b 6).ao l.length (b 6).cap,.slice g m hh,.slice (some ⟨a.heap.size+2,0,none⟩) l.length l.length],.agg #[.int .i64 0,.string ⟨#[]⟩,.int .i64 0,.int .i64 0]]) (by simp[results,results53,go_sem,a0,a1,a2,z0,z1,z2,z3]) rfl
        ⟨⟨b,a.heap.size+2,⟨g,m,hh,rfl⟩,G.out.kept (u.out _ _ _ _ _ _ _) (fun i p=>by have:=M.out i p;simp;omega),(u.out _ _ _ _ _ _ _).get F.out (by simp;omega),fun i p=>by have:=M.out i p;omega,by omega⟩,ni KW (QR _) (TO _) _ _ _ _ _ _ _⟩
    · obtain⟨o,c⟩:∃o,o=((f.alloc (.cells #[.slice (b 6).ao l.length (b 6).cap,.slice g m hh,.slice (some ⟨a.heap.size+2+1,0,none⟩) l.length l.length] 78)).alloc (.cells E 38)).drew:=⟨_,rfl⟩
      have Z:ab [] f o:=by rw[c];exact(((ab.refl [] _).alloc _).alloc _).drew
      have y:o.heap[a.heap.size+2]?=some (.cells #[.slice (b 6).ao l.length (b 6).cap,.slice g m hh,.slice (some ⟨a.heap.size+2+1,0,none⟩) l.length l.length] 78 (0,0)):=by
        rw[c];have e:=((ab.refl [] (f.alloc (.cells #[.slice (b 6).ao l.length (b 6).cap,.slice g m hh,.slice (some ⟨a.heap.size+2+1,0,none⟩) l.length l.length] 78))).alloc (.cells E 38)).drew.get (QS _ _) (by simp);rw[D]at e;exact e
      have T:o.heap[a.heap.size+2+1]?=some (.cells (kL (jk l 0)).toArray 38 (0,0)):=by
        rw[c,<-ac.out];have e1:(f.alloc (.cells #[.slice (b 6).ao l.length (b 6).cap,.slice g m hh,.slice (some ⟨a.heap.size+2+1,0,none⟩) l.length l.length] 78)).heap.size=a.heap.size+2+1:=by simp[D]
        have e:=QS (f.alloc (.cells #[.slice (b 6).ao l.length (b 6).cap,.slice g m hh,.slice (some ⟨a.heap.size+2+1,0,none⟩) l.length l.length] 78)) (.cells E 38);rw[e1]at e;exact(ab.refl [] _).drew.get e (by simp)
      rw[<-c];clear c;have Y:kC o (a.heap.size+2) 0 l b (a.heap.size+2+1) (jk l 0):=⟨⟨⟨_,_,y,rfl⟩,N.Vb Z⟩,⟨_,_,y,by rw[sY l 0 (Ro _)];rfl⟩,T⟩;have HJ:Hid _:=(oA (a.heap.size+2) 0 (a.heap.size+2+1) l b o Y V.out.ok V.out.prf (by omega) (fun ar hx=>by have:=M.out ar hx;omega));have L:=(v.trans k3).trans Z;have Q:=L.get hA (by simp);have S:=L.get hF (by simp);clear Y O;go_wp2_with fail;refine QU HJ.out ?_;rintro e d ⟨rfl,I,n⟩;have z:=n.get y (by simp);have s:=n.get Q (by simp;omega);have A:=n.get S (by simp;omega);have b0:d.cell? ⟨a.heap.size+2,0,none⟩=some (.slice (b 6).ao l.length (b 6).cap):=by rw[aa z];rfl
      have b1:d.cell? ⟨a.heap.size+2,1,none⟩=some (.slice g m hh):=by rw[aa z];rfl
      have b2:d.cell? ⟨a.heap.size+2,2,none⟩=some (.slice (some ⟨a.heap.size+2+1,0,none⟩) l.length l.length):=by rw[aa z];rfl
      have a0:d.cell? ⟨H.heap.size,0,none⟩=some (.slice none 0 0):=by rw[aa s];rfl
      have a1:d.cell? ⟨H.heap.size,1,none⟩=some (.slice none 0 0):=by rw[aa s];rfl
      have a2:d.cell? ⟨H.heap.size,2,none⟩=some (.slice none 0 0):=by rw[aa s];rfl
      obtain⟨z0,z1,z2,z3⟩:=b8 A;have ya:=am s;have yf:=am A;have B:=ae s;have C:=ae A
      have KW:ab [] H d:=by
        have q:=(hK.trans L);exact⟨n.os.trans q.os,n.tape.trans q.tape,n.output.trans q.output,Q3 q.size n.size,fun i p _=>(n.block i (QX p q.size) (by simp;omega)).trans (q.block i p (by simp))⟩
      have X:=oP d H.heap.size (H.heap.size+1);have G:Hid (gj d l b):=I.recd.Vn;have F:Hid _:=I.arr;have u:Hid _:=X;clear I X z s A y Q S T;go_wp2
      exact QY (v:=.tuple #[.agg #[.slice (b 6).ao l.length (b 6).cap,.slice g m hh,.slice (some ⟨a.heap.size+2+1,0,none⟩) l.length l.length],.agg #[.int .i64 0,.string ⟨#[]⟩,.int .i64 0,.int .i64 0]]) (by simp[results,results53,go_sem,a0,a1,a2,z0,z1,z2,z3]) rfl
        ⟨⟨b,a.heap.size+2+1,⟨g,m,hh,rfl⟩,G.out.kept (u.out _ _ _ _ _ _ _) (fun i p=>by have:=M.out i p;simp;omega),(u.out _ _ _ _ _ _ _).get F.out (by simp;omega),fun i p=>by have:=M.out i p;omega,by omega⟩,ni KW (QR _) (TO _) _ _ _ _ _ _ _⟩
    · obtain⟨o,c⟩:∃o,o=((f.alloc (.cells #[.slice (b 6).ao l.length (b 6).cap,.slice g m hh,.slice (some ⟨a.heap.size+2+1,0,none⟩) l.length l.length] 78)).alloc (.cells E 38)).drew:=⟨_,rfl⟩
      have Z:ab [] f o:=by rw[c];exact(((ab.refl [] _).alloc _).alloc _).drew
      have y:o.heap[a.heap.size+2]?=some (.cells #[.slice (b 6).ao l.length (b 6).cap,.slice g m hh,.slice (some ⟨a.heap.size+2+1,0,none⟩) l.length l.length] 78 (0,0)):=by
        rw[c];have e:=((ab.refl [] (f.alloc (.cells #[.slice (b 6).ao l.length (b 6).cap,.slice g m hh,.slice (some ⟨a.heap.size+2+1,0,none⟩) l.length l.length] 78))).alloc (.cells E 38)).drew.get (QS _ _) (by simp);rw[D]at e;exact e
      have T:o.heap[a.heap.size+2+1]?=some (.cells (kL (jk l 0)).toArray 38 (0,0)):=by
        rw[c,<-ac.out];have e1:(f.alloc (.cells #[.slice (b 6).ao l.length (b 6).cap,.slice g m hh,.slice (some ⟨a.heap.size+2+1,0,none⟩) l.length l.length] 78)).heap.size=a.heap.size+2+1:=by simp[D]
        have e:=QS (f.alloc (.cells #[.slice (b 6).ao l.length (b 6).cap,.slice g m hh,.slice (some ⟨a.heap.size+2+1,0,none⟩) l.length l.length] 78)) (.cells E 38);rw[e1]at e;exact(ab.refl [] _).drew.get e (by simp)
      rw[<-c];clear c;have Y:kC o (a.heap.size+2) 0 l b (a.heap.size+2+1) (jk l 0):=⟨⟨⟨_,_,y,rfl⟩,N.Vb Z⟩,⟨_,_,y,by rw[sY l 0 (Ro _)];rfl⟩,T⟩;have HJ:Hid _:=(oA (a.heap.size+2) 0 (a.heap.size+2+1) l b o Y V.out.ok V.out.prf (by omega) (fun ar hx=>by have:=M.out ar hx;omega));have L:=(v.trans k3).trans Z;have Q:=L.get hA (by simp);have S:=L.get hF (by simp);clear Y O;go_wp2_with fail;refine QU HJ.out ?_;rintro e d ⟨rfl,I,n⟩;have z:=n.get y (by simp);have s:=n.get Q (by simp;omega);have A:=n.get S (by simp;omega);have b0:d.cell? ⟨a.heap.size+2,0,none⟩=some (.slice (b 6).ao l.length (b 6).cap):=by rw[aa z];rfl
      have b1:d.cell? ⟨a.heap.size+2,1,none⟩=some (.slice g m hh):=by rw[aa z];rfl
      have b2:d.cell? ⟨a.heap.size+2,2,none⟩=some (.slice (some ⟨a.heap.size+2+1,0,none⟩) l.length l.length):=by rw[aa z];rfl
      have a0:d.cell? ⟨H.heap.size,0,none⟩=some (.slice none 0 0):=by rw[aa s];rfl
      have a1:d.cell? ⟨H.heap.size,1,none⟩=some (.slice none 0 0):=by rw[aa s];rfl
      have a2:d.cell? ⟨H.heap.size,2,none⟩=some (.slice none 0 0):=by rw[aa s];rfl
      obtain⟨z0,z1,z2,z3⟩:=b8 A;have ya:=am s;have yf:=am A;have B:=ae s;have C:=ae A
      have KW:ab [] H d:=by
        have q:=(hK.trans L);exact⟨n.os.trans q.os,n.tape.trans q.tape,n.output.trans q.output,Q3 q.size n.size,fun i p _=>(n.block i (QX p q.size) (by simp;omega)).trans (q.block i p (by simp))⟩
      have X:=oP d H.heap.size (H.heap.size+1);have G:Hid (gj d l b):=I.recd.Vn;have F:Hid _:=I.arr;have u:Hid _:=X;clear I X z s A y Q S T;go_wp2
      exact QY (v:=.tuple #[.agg #[.slice (b 6).ao l.length (b 6).cap,.slice g m hh,.slice (some ⟨a.heap.size+2+1,0,none⟩) l.length l.length],.agg #[.int .i64 0,.string ⟨#[]⟩,.int .i64 0,.int .i64 0]]) (by simp[results,results53,go_sem,a0,a1,a2,z0,z1,z2,z3]) rfl
        ⟨⟨b,a.heap.size+2+1,⟨g,m,hh,rfl⟩,G.out.kept (u.out _ _ _ _ _ _ _) (fun i p=>by have:=M.out i p;simp;omega),(u.out _ _ _ _ _ _ _).get F.out (by simp;omega),fun i p=>by have:=M.out i p;omega,by omega⟩,ni KW (QR _) (TO _) _ _ _ _ _ _ _⟩
structure nI(w:World)(x:Nat)(fs:Fs)(l:List St)(H:Nat->Hd)(g:Nat):Prop where
  ver:∃(a7:Option Addr) (n7 c7:Nat),iI w x fs true (.slice (H 6).ao l.length (H 6).cap) (.slice a7 n7 c7) (.slice (some ⟨g,0,none⟩) l.length l.length)
  Vn:gj w l H
  arr:w.heap[g]?=some (.cells (kL (jZ l l.length)).toArray 38 (0,0))
  far:x≠g/\∀k,f9 H k->k≠x
theorem nI.anyR(h:nI T S yd a I o):li T S yd:=by
  obtain⟨b,d,c,h⟩:=h.ver;exact h.anyR
theorem nI.Vb(h:nI T S yd a I o)(k:ab [] T z4):nI z4 S yd a I o:=by
  obtain⟨b,e,c,d⟩:=h.ver;exact⟨⟨b,e,c,bi.kept d k (by simp)⟩,h.Vn.Vb k,k.get h.arr (by simp),h.far⟩
theorem Ip(h:ab y7 T z4)(a:T.heap.size<=S)(b c d e:Value) :
    ab y7 T ((((z4.setCell ⟨S,0,none⟩ b).setCell ⟨S,1,none⟩ c).setCell ⟨S,2,none⟩ d).setCell ⟨S,3,none⟩ e) :=
  (((h.setCell (QV a) _).setCell (QV a) _).setCell (QV a) _).setCell (QV a) _
theorem wi :
    ab [f] y2 ((((y2.setCell ⟨f,0,none⟩ x5).setCell ⟨f,1,none⟩ x6).setCell ⟨f,2,none⟩ x7).setCell ⟨f,3,none⟩ x8) :=
  ((((ab.refl [f] y2).setCell (Q1 (by simp)) _).setCell (Q1 (by simp)) _).setCell (Q1 (by simp)) _).setCell (Q1 (by simp)) _
theorem rs(h:ab y7 T z4)(a:S∈y7∨T.heap.size<=S)(b:o∈y7∨T.heap.size<=o)(c d e f g i j k:Value) :
    ab y7 T ((((((((z4.setCell ⟨S,9,none⟩ c).setCell ⟨S,10,none⟩ d).setCell ⟨S,11,none⟩ e).setCell ⟨S,12,none⟩ f).setCell ⟨o,0,none⟩ g).setCell ⟨o,1,none⟩ i).setCell ⟨o,2,none⟩ j).setCell ⟨o,3,none⟩ k) :=
  (((((((h.setCell a _).setCell a _).setCell a _).setCell a _).setCell b _).setCell b _).setCell b _).setCell b _
def FV(fs:Fs)(k0 x:Nat)(w:World)(e:Ending)(w':World):Prop :=
  (if((bK fs k0).1.1==0)=true then e=.returned (.tuple #[gU cY,.int .i64 0])/\∃H g,nI w' x fs (bK fs k0).2.2.Vn H g/\w.heap.size<=g/\∀k,f9 H k->w.heap.size<=k
   else e=.returned (.tuple #[gU (bK fs k0).1,.int .i64 6])/\jR w' x fs)/\ab [x] w w'
theorem FD(h:li H k zb)(hf:bF zb y1=x)(O:x<zb.length)(Q:∀j,j<zb.length->(ak zb j).size<=1024) :
    Calls prog 36 #[.pointer (some ⟨k,0,none⟩),.string y1] H fun e S=>FV zb x k H e S:=by
  have al:=h.lt;obtain⟨W,A⟩:∃W,W=H.alloc (.cells #[.int .i64 0,.string ⟨#[]⟩,.int .i64 0,.int .i64 0] 87):=⟨_,rfl⟩
  have hK:ab [] H W:=by rw[A];exact(ab.refl [] _).alloc _
  have hF:W.heap[H.heap.size]?=some (.cells bA 87 (0,0)):=by rw[A];exact QS _ _
  have z:=h.kept hK (by simp);have HW:Hid _:=A.symm
  have V:Calls prog 50 #[.pointer (some ⟨k,0,none⟩),.string y1] W fun e S=>e=.returned (.int .i64 x)/\S=W:=by
    obtain⟨ax,a,b,c,hv⟩:=z;rw[<-hf];exact lN k _ zb _ y1 W hv
  have G:Hid _:=V;have U:=vW k zb W z;have F:Hid _:=U;clear V U A;have ag:¬((x:Int)<0):=by omega
  have J:=fun(T:World) (i:jR T k zb)=>Pk k _ x zb _ T i O Q
  unfold Dz at J;have s:Hid _:=J;clear J;unfold FV;generalize bK zb x=R at *;obtain⟨⟨r,pf,pl,pc⟩,af,d'⟩:=R;simp only[gU,cY]at s ⊢;generalize d'.Vn=l at *;go_enter func36,ntmps36;go_wp2_with fail;rw[HW.out];refine QU G.out ?_;rintro e w9 ⟨rfl,rfl⟩;go_wp2_with fail;refine QU F.out ?_;rintro e T ⟨rfl,i,q⟩;have N:=q.get hF (by simp;omega);go_wp2_with fail;refine QU (s.out _ i) ?_;rintro e y ⟨d,m⟩;have p:=m.get N (by simp);have f:=i.kept m (by simp);have t:ab [k] H y:=((hK.mono (by simp)).trans q).trans (m.mono (by simp));obtain⟨z0,z1,z2,z3⟩:=b8 p;have yf:=am p;have n:=ae p;have ai:H.heap.size≠k:=by omega
  have ac:k≠H.heap.size:=by omega
  cases B:(r==0)
  · have P:(r != 0)=true:=by simp[bne,B]
    simp only[B,Bool.false_eq_true,if_false]at d ⊢;subst d;have E:Hid _:=f;clear f i z;go_wp2
    exact QY (v:=.tuple #[.agg #[.int .i64 r,.string pf,.int .i64 pl,.int .i64 pc],.int .i64 6]) (by simp[results,results36,go_sem,z0,z1,z2,z3,n]) rfl
      ⟨⟨rfl,E.out.kept (((wi y H.heap.size _ _ _ _).alloc _).alloc _) (by simp;omega)⟩,((Ip t (QR _) _ _ _ _).alloc _).alloc _⟩
  · have P:(r != 0)=false:=by simp[bne,B]
    simp only[B,if_true]at d ⊢;obtain⟨C,g,Y,n7,Z,rfl,hS,hA,hN,hg⟩:=d;have ar:=ae hF;have an:=q.size;have ap:=m.size;obtain⟨c9,K,L,M⟩:=iI.cells f;have yv:=bi.free f;have X:Hid _:=iI.turn f true (.slice (C 6).ao l.length (C 6).cap) (.slice Y n7 Z) (.slice (some ⟨g,0,none⟩) l.length l.length);have I:Hid _:=hS;have D:Hid _:=hA;have o:Hid _:=hN;have ad:k<y.heap.size:=bi.lt f;clear f i z hS hA hN;unfold NO at K L M;unfold Dh at X;go_wp2
    exact QY (v:=.tuple #[.agg #[.int .i64 0,.string ⟨#[]⟩,.int .i64 0,.int .i64 0],.int .i64 0]) (by simp[results,results36,go_sem,z0,z1,z2,z3,n]) rfl
      ⟨⟨rfl,C,g,⟨⟨Y,n7,Z,bi.kept X.out (((wi _ H.heap.size _ _ _ _).alloc _).alloc _) (by simp;omega)⟩,I.out.kept (((rs (ab.refl [k,H.heap.size] y) (Q1 (by simp)) (Q1 (by simp)) _ _ _ _ _ _ _ _).alloc _).alloc _) (fun w u=>by have:=o.out w u;simp;omega),(((rs (ab.refl [k,H.heap.size] y) (Q1 (by simp)) (Q1 (by simp)) _ _ _ _ _ _ _ _).alloc _).alloc _).get D.out (by simp;omega),⟨by omega,fun w u=>by have:=o.out w u;omega⟩⟩,by omega,fun w u=>by have:=o.out w u;omega⟩,
        ((rs t (Q1 (by simp)) (QV (QR _)) _ _ _ _ _ _ _ _).alloc _).alloc _⟩
def mD(l:List St)(lab:ByteArray)(n:Nat):Bool:=match l[n]? with | some s=>(s.label.toList==lab.toList)&&qP s.kind | none=>false
def gC(l:List St)(lab:ByteArray):Option Nat:=(List.range l.length).find? (mD l lab)
theorem yQ(h:l<w.length):mD w yy l=((w[l].label.toList==yy.toList)&&qP w[l].kind):=by
 unfold mD;rw[QP h]
set_option maxRecDepth 512
theorem sG(h:dF H x b w N)(M:w.length<=1073741824) :
  Calls prog 134 #[.pointer (some ⟨x,b,none⟩),.string y1] H fun e v=>e=.returned (.int .i64 (nB (gC w y1)))/\ab [] H v:=by
 have t:=h.lt;go_enter func134,ntmps134;go_wp2
 go_loopg [5] w.length (fun g i wr=>∃k:Nat,k<=w.length/\g=w.length-k/\i=.int .i64 k/\Hid (∀i,i<k->mD w y1 i=false)/\ab [] H wr)
 case atStart=>exact⟨0,by omega,by omega,rfl,fun i q=>by omega,ab.refl _ _⟩
 case round =>
  obtain⟨k,L,K,rfl,a,n⟩:=hrel;have m:=h.Vb n;have c:=m.at
  by_cases j:k<w.length
  ·obtain⟨g,r,I,J,z,A,B,C,D,E,F,G⟩:=m.Vn.stmt k j
   rw[r]at c;have l:Hid _:=yQ w y1 k j
   have next:Hid (mD w y1 k=false->∀i,i<k+1->mD w y1 i=false):=by
    intro u i q
    by_cases e:i=k
    ·subst e;exact u
    ·exact a.out i (by omega)
   generalize w[k]=s at *
   cases p:(s.label.toList==y1.toList)
   ·have d:Hid (mD w y1 k=false):=by show _=_;rw[l.out,p];simp
    clear l m;go_wp2
    go_roundg (w.length-(k+1))
    case measure=>omega
    case rel=>exact⟨k+1,by omega,rfl,by go_num,next.out d.out,n⟩
   ·cases o:qP s.kind
    ·have d:Hid (mD w y1 k=false):=by show _=_;rw[l.out,o];simp
     clear l m;go_wp2_with (go_at_call 160;refine(dc s.kind _ _ _ _ _ _ _ _).mono ?_;rintro e y ⟨rfl,f⟩;rw[o])
     go_roundg (w.length-(k+1))
     case measure=>omega
     case rel=>exact⟨k+1,by omega,rfl,by go_num,next.out d.out,n.trans f⟩
    ·have d:Hid (gC w y1=some k):=nV j (by rw[l.out,p,o];rfl) a.out
     clear l m;go_wp2_with (go_at_call 160;refine(dc s.kind _ _ _ _ _ _ _ _).mono ?_;rintro e y ⟨rfl,f⟩;rw[o]);go_ret;exact⟨QN (by rw[d.out];rfl),n.trans f⟩
  ·have d:Hid (gC w y1=none):=mI (fun i q=>a.out i (by omega))
   clear m;go_wp2;go_ret;exact⟨QN (by rw[d.out];rfl),n⟩
def sN(k:Int):ByteArray:=if(k==2)=true then⟨#[36,102]⟩ else if(k==3)=true then⟨#[36,101]⟩ else if(k==4)=true then⟨#[36,97]⟩ else⟨#[36,112]⟩
theorem Cg:Calls prog 182 #[.int .i64 y5] H fun e f=>e=.returned (.string (sN y5))/\f=H:=by
 cases b:(y5==2)
 ·cases c:(y5==3)
  ·cases d:(y5==4)
   ·have a:Hid (sN y5=⟨#[36,112]⟩):=by show _=_;simp only[sN,b,c,d];rfl
    go_enter func182,ntmps182;go_wp2;go_ret;exact⟨by rw[a.out];rfl,rfl⟩
   ·have a:Hid (sN y5=⟨#[36,97]⟩):=by show _=_;simp only[sN,b,c,d];rfl
    go_enter func182,ntmps182;go_wp2;go_ret;exact⟨by rw[a.out];rfl,rfl⟩
  ·have a:Hid (sN y5=⟨#[36,101]⟩):=by show _=_;simp only[sN,b,c];rfl
   go_enter func182,ntmps182;go_wp2;go_ret;exact⟨by rw[a.out];rfl,rfl⟩
 ·have a:Hid (sN y5=⟨#[36,102]⟩):=by show _=_;simp only[sN,b];rfl
  go_enter func182,ntmps182;go_wp2;go_ret;exact⟨by rw[a.out];rfl,rfl⟩
def nz(s:St)(k:Nat):ByteArray:=(s.U6.take k).foldl (fun t x=>t++(⟨#[32]⟩++x)) (s.label++⟨#[32]⟩++sN s.kind)
def sR(s:St):ByteArray:=nz s s.U6.length
theorem uK(h:l<y.U6.length):nz y (l+1)=nz y l++(⟨#[32]⟩++y.U6[l]):=by
 unfold nz;rw[jo y.U6 l h,Sw];rfl
structure M5(s:St):Prop where
 label:s.label.size<=100000
 syms:∀x∈s.U6,x.size<=100000
theorem yJ:(sN y5).size=2:=by
 unfold sN
 repeat' split
 all_goals rfl
theorem mG:(⟨#[32]⟩:ByteArray).size=1:=rfl
theorem uL(h:M5 y)(k:Nat)(b:k<=y.U6.length):(nz y k).size<=100003+k*100001:=by
 induction k with
 | zero =>
  unfold nz;have:=h.label;simp only[List.take_zero,List.foldl_nil,ByteArray.size_append,mG,yJ];omega
 | succ k a =>
  have c:=h.syms _ (Rb (show k<y.U6.length by omega));rw[uK y k (by omega)];simp only[ByteArray.size_append,mG];have:=a (by omega);omega
def mQ(l:List St)(n:Nat):Option ByteArray:=match l[n]? with
 | some s=>if(s.kind==2)=true then some (aL s) else none
 | none=>none
def jc(l:List St)(hs:List Nat)(k:Nat):List ByteArray:=(hs.take k).filterMap (mQ l)
def eW(l:List St)(hs:List Nat):List ByteArray:=hs.filterMap (mQ l)
theorem FB(h:l<d.length)(b:d[l]<w.length)(a:(w[d[l]].kind==2)=true):jc w d (l+1)=jc w d l++[aL w[d[l]]]:=by
 unfold jc;rw[jo d l h,SU];have:mQ w d[l]=some (aL w[d[l]]):=by unfold mQ;rw[QP b];simp[a]
 simp[this]
theorem J3(h:l<d.length)(b:d[l]<w.length)(a:(w[d[l]].kind==2)=false):jc w d (l+1)=jc w d l:=by
 unfold jc;rw[jo d l h,SU];have:mQ w d[l]=none:=by unfold mQ;rw[QP b];simp[a]
 simp[this]
theorem Fz:(jc w d l).length<=d.length:=by
 unfold jc;have a:=To (mQ w) (d.take l);have b:(d.take l).length<=d.length:=by simp;omega
 omega
set_option maxRecDepth 100000
theorem vh(h:dF H x b w D)(ok:iH w)(J:aw H z7 (bB d))(ap:d.length<=10000)(K:∀c∈d,c<w.length) :
  Calls prog 180 #[.pointer (some ⟨x,b,none⟩),.slice z7.ao d.length z7.cap] H fun e w'=>∃f:Hd,e=.returned (.slice f.ao (eW w d).length f.cap)/\aw w' f (aB (eW w d))/\(∀c,f.blk=some c->H.heap.size<=c)/\ab [] H w':=by
 obtain⟨i0,hi,ag,ai,al⟩:=Re js;have aS:=ok.len;have HE:Hid (jc w d d.length=eW w d):=by show _=_;unfold jc eW;rw[RK]
 rw[<-HE.out];clear HE;obtain⟨P,y⟩:∃P,Hid (z7.ao=P):=⟨_,rfl⟩
 rw[y.out];go_enter func180,ntmps180;go_wp2
 go_loopg [5,6] d.length (fun gk sv i wr=>∃(k:Nat) (f:Hd),k<=d.length/\gk=d.length-k/\i=.int .i64 k/\sv=.slice f.ao (jc w d k).length f.cap/\aw wr f (aB (jc w d k))/\(∀c,f.blk=some c->H.heap.size<=c)/\ab [] H wr)
 case atStart=>exact⟨0,⟨none,0⟩,by omega,by omega,rfl,rfl,QZ _ _ _ _,by intro c s;simp[Hd.blk]at s,ab.refl _ _⟩
 case round =>
  obtain⟨k,f,hk,hg,rfl,rfl,hO,N,M⟩:=hrel;have hr:=h.Vb M;have ar:=Fz w d k
  by_cases r:k<d.length
  ·have m:=K d[k] (Rb r)
   have l:aw wr z7 (bB d):=J.Vg (fun c s=>M.block c (J.lt s) (by simp))
   rcases l.Vm with ⟨_,h0,_⟩ | ⟨gh,an,T,U,V,-⟩
   ·have:d.length=0:=h0
    omega
   have ch:=l.cell T k (.int .i64 d[k]) (jP d k r);have X:P=some ⟨gh,0,none⟩:=by rw[<-y.out];exact T
   subst X;have az:(k:Int)<d.length:=by omega
   have R:Hid _:=FB w d k r m;have z:Hid _:=J3 w d k r m;have aT:=ok.syms d[k] m;clear T U V l y;generalize d[k]=q at *;have S:=mq w[q] (D (10+2*q)) (D (11+2*q));unfold ee at S;have Q:Hid _:=S;clear S
   go_upto_region 6 with (go_at_call 97;refine(a9 x b q w D _ (by exact hr) m).mono ?_;rintro e o ⟨rfl,ad⟩;unfold ee)
   obtain⟨g,p⟩:∃g,g=o.alloc (.cells #[.int .i64 w[q].kind,.string w[q].label,.slice (D (10+2*q)).ao w[q].U6.length (D (10+2*q)).cap,.slice (D (11+2*q)).ao w[q].Vh.length (D (11+2*q)).cap,.string w[q].fin.file,.int .i64 w[q].fin.line,.int .i64 w[q].fin.col,.int .i64 w[q].til] 158):=⟨_,rfl⟩
   have B:ab [] wr g:=by rw[p];exact ad.alloc _
   have t:g.heap[o.heap.size]?=some (.cells #[.int .i64 w[q].kind,.string w[q].label,.slice (D (10+2*q)).ao w[q].U6.length (D (10+2*q)).cap,.slice (D (11+2*q)).ao w[q].Vh.length (D (11+2*q)).cap,.string w[q].fin.file,.int .i64 w[q].fin.line,.int .i64 w[q].fin.col,.int .i64 w[q].til] 158 (0,0)):=by rw[p];exact QS _ _
   rw[<-p];clear p;have u0:g.cell? ⟨o.heap.size,0,none⟩=some (.int .i64 w[q].kind):=by rw[aa t];rfl
   have u1:g.cell? ⟨o.heap.size,1,none⟩=some (.string w[q].label):=by rw[aa t];rfl
   have u2:g.cell? ⟨o.heap.size,2,none⟩=some (.slice (D (10+2*q)).ao w[q].U6.length (D (10+2*q)).cap):=by rw[aa t];rfl
   have u3:g.cell? ⟨o.heap.size,3,none⟩=some (.slice (D (11+2*q)).ao w[q].Vh.length (D (11+2*q)).cap):=by rw[aa t];rfl
   have u4:g.cell? ⟨o.heap.size,4,none⟩=some (.string w[q].fin.file):=by rw[aa t];rfl
   have u5:g.cell? ⟨o.heap.size,5,none⟩=some (.int .i64 w[q].fin.line):=by rw[aa t];rfl
   have u6:g.cell? ⟨o.heap.size,6,none⟩=some (.int .i64 w[q].fin.col):=by rw[aa t];rfl
   have u7:g.cell? ⟨o.heap.size,7,none⟩=some (.int .i64 w[q].til):=by rw[aa t];rfl
   have af:=hr.Vb B;have A:aw g f (aB (jc w d k)):=hO.Vg (fun c s=>B.block c (hO.lt s) (by simp));have ac:=(af.Vn.syms q w[q] (QP m)).view;have F:=M.trans B
   cases h2:(w[q].kind==2)
   ·have C:Hid _:=z.out h2
    clear R z;go_wp2
    go_roundg (d.length-(k+1))
    case measure=>omega
    case rel=>exact⟨k+1,f,by omega,rfl,by go_num,by rw[C.out],by rw[C.out];exact A,N,F⟩
   ·have C:Hid _:=R.out h2
    clear R z;go_wp2_with (first | (go_at_call 189;refine(Q.out _ (by exact ac) (by omega)).mono ?_;rintro e w5 ⟨rfl,k5⟩;have I:=A.Vg (fun c s=>(k5.alloc (.cells #[.string (aL w[q])] 9)).block c (A.lt s) (by simp))) | (at_builtin;refine aM _ rfl (.tmp 23) (.tmp 26) 61 rfl i0 (.string ⟨#[]⟩) 16 f (aB (jc w d k)) underlying61 hi ag ai al rfl Rc rfl (by exact I) ⟨_,0,none⟩ 1 1 [.string (aL w[q])] rfl rfl ?d1 ?d2 Rc ?d3 ?d4 ?_))
    case d1=>intro j u O;match j,O with | 0,O=>simp at O;subst O;simp[Addr.add]
    case d2=>intro u hu;simp at hu;subst hu;rfl
    case d3=>simp only[aB];unfold maxLen;omega
    case d4=>simp only[aB];omega
    intro W E w6 L v a;rw[dr (jc w d k) (aL w[q]),<-C.out]at L;have G:=(F.trans k5).alloc (.cells #[.string (aL w[q])] 9);have Z:=G.grown v N
    have ax:H.heap.size<=W:=by
     rcases a with e | e
     ·exact N W e
     ·have:=G.size;simp at e this;omega
    have Y:Hid ((aB (jc w d k)).n+1=(jc w d (k+1)).length):=by show _=_;rw[C.out];simp[aB]
    rw[Y.out];clear v a I;go_wp2
    go_roundg (d.length-(k+1))
    case measure=>omega
    case rel=>exact⟨k+1,⟨some ⟨W,0,none⟩,E⟩,by omega,rfl,by go_num,rfl,L,by intro c s;simp[Hd.blk]at s;omega,Z⟩
  ·have e:k=d.length:=by omega
   subst e;go_wp2;go_ret;exact⟨f,rfl,hO,N,M⟩
theorem Cl(b d:Hd)(w:World)(J:jT w b y.U6)(G:y.U6.length<=10000)(j:M5 y) :
  Calls prog 136 #[ee y b d] w fun e P=>e=.returned (.string (sR y))/\ab [] w P:=by
 unfold ee;have E:=j.label;have D:=yJ y.kind;have r:Hid (y.label++⟨#[32]⟩++sN y.kind=nz y 0):=rfl;obtain⟨X,h⟩:∃X,X=w.alloc (.cells #[.int .i64 y.kind,.string y.label,.slice b.ao y.U6.length b.cap,.slice d.ao y.Vh.length d.cap,.string y.fin.file,.int .i64 y.fin.line,.int .i64 y.fin.col,.int .i64 y.til] 158):=⟨_,rfl⟩
 have K:ab [] w X:=by rw[h];exact(ab.refl [] _).alloc _
 have l:X.heap[w.heap.size]?=some (.cells #[.int .i64 y.kind,.string y.label,.slice b.ao y.U6.length b.cap,.slice d.ao y.Vh.length d.cap,.string y.fin.file,.int .i64 y.fin.line,.int .i64 y.fin.col,.int .i64 y.til] 158 (0,0)):=by rw[h];exact QS _ _
 have M:X.cell? ⟨w.heap.size,0,none⟩=some (.int .i64 y.kind):=by rw[aa l];rfl
 have N:X.cell? ⟨w.heap.size,1,none⟩=some (.string y.label):=by rw[aa l];rfl
 have u:Hid _:=h.symm;clear h;go_enter func136,ntmps136
 go_upto_region 1 with fail
 rw[u.out]
 go_quiet ((go_at_call 182;exact Rd (Cg _ _)))
 rw[r.out];obtain⟨f,c⟩:∃f,f=X.drewN nq:=⟨_,rfl⟩
 rw[<-c];have q:ab [] w f:=by rw[c];exact K.drewN _
 have o:f.heap[w.heap.size]?=some (.cells #[.int .i64 y.kind,.string y.label,.slice b.ao y.U6.length b.cap,.slice d.ao y.Vh.length d.cap,.string y.fin.file,.int .i64 y.fin.line,.int .i64 y.fin.col,.int .i64 y.til] 158 (0,0)):=by rw[c];exact((ab.refl [] X).drewN _).get l (by simp)
 have O:f.cell? ⟨w.heap.size,2,none⟩=some (.slice b.ao y.U6.length b.cap):=by rw[aa o];rfl
 have m:=J.Vb q;have A:=ae o;clear c M N;go_wp2
 go_loopg [3,4] y.U6.length (fun g L i wr=>∃k:Nat,k<=y.U6.length/\g=y.U6.length-k/\i=.int .i64 k/\L=.string (nz y k)/\wr=f)
 case atStart=>exact⟨0,by omega,by omega,rfl,rfl,rfl⟩
 case round =>
  obtain⟨k,B,T,rfl,rfl,rfl⟩:=hrel
  by_cases a:k<y.U6.length
  ·have I:=uL y j k B
   have U:=j.syms _ (Rb a);have s:Hid _:=(uK y k a).symm;have C:(k:Int)<y.U6.length:=by omega
   rcases m with F | ⟨g,n,v,t,x,z,p,R,S⟩
   ·rw[F]at a;simp at a
   ·have Q:wr.cell? ⟨g,n+k,none⟩=some (.string y.U6[k]):=by rw[aa z];exact p k _ (QP a)
    rw[x]at O;have H:=uL y j (k+1) a;clear p;generalize y.U6[k]=W at *;generalize nz y k=V at *;go_wp2
    go_roundg (y.U6.length-(k+1))
    case measure=>omega
    case rel=>exact⟨k+1,by omega,rfl,by go_num,congrArg Value.string s.out,rfl⟩
  ·have e:k=y.U6.length:=by omega
   subst e;go_wp2;go_ret;exact⟨rfl,q⟩
abbrev Pr:=ByteArray×ByteArray
def QB(p:Pr):List Value:=[.string p.1,.string p.2]
def Jl(l:List Pr):List Value:=l.flatMap QB
def jI(l:List Pr):dN:=⟨227,2,l.length,Jl l⟩
theorem E7(l:List Pr)(x:Pr):(⟨(jI l).e,(jI l).size,(jI l).n+1,(jI l).xs++[.string x.1,.string x.2]⟩:dN)=jI (l++[x]):=by
 simp[jI,Jl,QB]
theorem OY:(prog.info? 227).map (fun i=>(i.zero,i.size,i.bytes))=some (some (.agg #[.string ⟨#[]⟩,.string ⟨#[]⟩]),2,32):=by kernel_rfl
def gD(vs:List ByteArray)(i:Nat):ByteArray:=vs.getD i ⟨#[]⟩
def mH(vs:List ByteArray)(ms:List Bool)(i k:Nat):List Pr:=((List.range k).filter (fun j=>decide (i<j)&&eD vs.length ms i j)).map (fun j=>(gD vs i,gD vs j))
def te(vs:List ByteArray)(ms:List Bool)(i:Nat):List Pr:=(List.range i).flatMap (fun i=>mH vs ms i vs.length)
def At(vs:List ByteArray)(ms:List Bool):List Pr:=te vs ms vs.length
theorem EZ:mH L M l (l+1)=[]:=by
 unfold mH;rw[List.map_eq_nil_iff,Th];intro j a;have:=Ra.1 a;simp;omega
theorem Ji(a:i<l)(h:eD L.length M i l=true):mH L M i (l+1)=mH L M i l++[(gD L i,gD L l)]:=by
 unfold mH;rw[R6,RV,Ry];simp[a,h]
theorem LX(h:eD L.length M i l=false):mH L M i (l+1)=mH L M i l:=by
 unfold mH;rw[R6,RV,Ry];simp[h]
theorem yY:te L M (l+1)=te L M l++mH L M l L.length:=by
 unfold te;rw[R6,Sh];simp
theorem yW:(mH L M i l).length<=l:=by
 unfold mH;rw[Ri];have:=Sc (fun j=>decide (i<j)&&eD L.length M i j) (List.range l);simpa using this
theorem CI(i:Nat):(te L M i).length<=i*L.length:=by
 induction i with
 | zero=>simp[te]
 | succ i a =>
  rw[yY,Q0,Uc];have:=yW L M i L.length;omega
def ta(vs:List ByteArray)(ms:List Bool)(i j:Nat):List Pr:=te vs ms i++mH vs ms i j
theorem LW(a:i<=10000)(b:L.length<=10000)(f:l<=10000):(ta L M i l).length<=100010000:=by
 unfold ta;rw[Q0];have c:=CI L M i;have d:=yW L M i l;have e:i*L.length<=10000*10000:=SL a b;omega
theorem GC(h:L.length<=10000):(At L M).length<=100000000:=by
 have a:=CI L M L.length;have b:L.length*L.length<=10000*10000:=SL h h;unfold At;omega
theorem CB(h:dF H k x w D)(ok:iH w)(hO:aw H z7 (aB n))(C:n.length<=10000) :
  Calls prog 181 #[.pointer (some ⟨k,x,none⟩),.int .i64 b,.slice z7.ao n.length z7.cap] H fun e W=>∃m:Hd,e=.returned (.slice m.ao (At n (fN w b n)).length m.cap)/\aw W m (jI (At n (fN w b n)))/\(∀c,m.blk=some c->H.heap.size<=c)/\ab [] H W:=by
 obtain⟨i0,hi,az,aS,aT⟩:=Re OY;have M:Hid _:=DH k x b w D z7 n H h ok hO C;have s:(fN w b n).length=n.length*n.length:=ko w b n _;generalize fN w b n=d at *;obtain⟨AO,L⟩:∃AO,Hid (z7.ao=AO):=⟨_,rfl⟩
 rw[L.out]at M ⊢;go_enter func181,ntmps181;go_wp2_with fail;refine QU M.out ?_;rintro e X ⟨tb,hv,hm,rfl,ai,be,bf,k1⟩;go_wp2
 go_loopg [8,9] n.length (fun gk sv i wr=>∃(a:Nat) (m:Hd),a<=n.length/\gk=n.length-a/\i=.int .i64 a/\sv=.slice m.ao (te n d a).length m.cap/\aw wr m (jI (te n d a))/\(∀c,m.blk=some c->X.heap.size<=c)/\ab [] X wr)
 case atStart=>exact⟨0,⟨none,0⟩,by omega,by omega,rfl,rfl,QZ _ _ _ _,by intro c I;simp[Hd.blk]at I,ab.refl _ _⟩
 case round =>
  obtain⟨a,m,hk,hg,rfl,rfl,F,hN,hK⟩:=hrel
  by_cases B:a<n.length
  ·have ac:Hid _:=yY n d a
   have HZ:Hid _:=EZ n d a;have HB:Hid (ta n d a (a+1)=te n d a):=by show te n d a++_=_;rw[HZ.out,Rl]
   have HE:Hid (ta n d a n.length=te n d (a+1)):=ac.out.symm;go_wp2_with fail
   go_loopg [8,10] (n.length-(a+1)) (fun ag a0 i2 Y=>∃(j:Nat) (f:Hd),a<j/\j<=n.length/\ag=n.length-j/\i2=.int .i64 j/\a0=.slice f.ao (ta n d a j).length f.cap/\aw Y f (jI (ta n d a j))/\(∀c,f.blk=some c->X.heap.size<=c)/\ab [] X Y)
   case atStart=>exact⟨a+1,m,by omega,by omega,rfl,by go_num,by rw[HB.out],by rw[HB.out];exact F,hN,hK⟩
   case round =>
    obtain⟨j,f,ax,hj,a5,rfl,rfl,q,p,l⟩:=hrel;clear F hN hK;have a4:=LW n d a j (by omega) C (by omega)
    by_cases A:j<n.length
    ·have R:=ai.Vb l
     have t:aw wr z7 (aB n):=hO.Vg (fun c I=>(k1.trans l).block c (hO.lt I) (by simp))
     rcases t.Vm with ⟨_,h0,_⟩ | ⟨o,a1,ev,Q,a3,-⟩
     ·have:n.length=0:=h0
      omega
     have ad:=t.cell ev a (.string n[a]) (by simp[aB,cN,B]);have af:=t.cell ev j (.string n[j]) (by simp[aB,cN,A]);have a2:=hO.lt (k:=o) (by unfold Hd.blk;rw[ev];rfl);have al:AO=some ⟨o,0,none⟩:=by rw[<-L.out];exact ev
     subst al;have U:=ae Q;have T:gD n a=n[a]:=qm n a B;have S:gD n j=n[j]:=qm n j A;have Z:Hid (eD n.length d a j=true->ta n d a (j+1)=ta n d a j++[(gD n a,gD n j)]):=fun hp=>by unfold ta;rw[Ji n d a j ax hp,Sy]
     have E:Hid (eD n.length d a j=false->ta n d a (j+1)=ta n d a j):=fun hp=>by unfold ta;rw[LX n d a j hp]
     rw[T,S]at Z;clear T S Q t;have bd:(a:Int)<n.length:=by omega
     have ba:(j:Int)<n.length:=by omega
     have bc:(0:Int)<=a:=by omega
     have a7:(0:Int)<=j:=by omega
     generalize n[a]=c at *;generalize n[j]=y at *
     cases v:eD n.length d a j
     ·have N:Hid _:=E.out v
      clear Z E;go_wp2_with (go_at_call 215;refine(qh tb n d hv hm a j _ (by exact R) s C B A).mono ?_;rintro e w9 ⟨rfl,G⟩;rw[G,v])
      go_roundg (n.length-(j+1))
      case measure=>omega
      case rel=>exact⟨j+1,f,by omega,by omega,rfl,by go_num,by rw[N.out],by rw[N.out];exact q,p,l⟩
     ·have N:Hid _:=Z.out v
      clear Z E;generalize ta n d a j=K at *
      have s3:Hid (∀u∈([.string c,.string y]:List Value),u.oneCell'=true):=by
       intro u hu;simp at hu;rcases hu with rfl | rfl <;> rfl
      have s4:Hid ((jI K).n+1<=maxLen):=by show _<=_;simp only[jI];unfold maxLen;omega
      have s5:Hid (((jI K).n+1)*32<=140737488355328):=by show _<=_;simp only[jI];omega
      have O:Hid (ab [] wr (wr.alloc (.cells #[.string c,.string y] 227)).drew):=((ab.refl [] wr).alloc _).drew;have hD:Hid (aw (wr.alloc (.cells #[.string c,.string y] 227)).drew f (jI K)):=q.Vg (fun z hz=>O.out.block z (q.lt hz) (by simp))
      have s2:Hid (∀j u,([.string c,.string y]:List Value)[j]?=some u->(wr.alloc (.cells #[.string c,.string y] 227)).drew.cell? ((⟨wr.heap.size,0,none⟩:Addr).add j)=some u):=by
       intro j u hj;rw[bL];have hk:(wr.alloc (.cells #[.string c,.string y] 227)).drew.heap[wr.heap.size]?=some (.cells #[.string c,.string y] 227 (0,0)):=QS _ _;rw[aa hk];simpa using hj
      have HS:Hid (∀J,(wr.alloc (.cells #[.string c,.string y] 227)).drew.grownBy J f.blk->J.cell? ⟨o,a,none⟩=some (.string c)/\J.cell? ⟨o,j,none⟩=some (.string y)):=by
       intro J ar;have e:J.heap[o]?=wr.heap[o]?:=(ar.block o (QX U O.out.size) (fun e=>by have:=p o e.symm;have:=k1.size;omega)).trans (O.out.block o U (by simp));exact⟨by rw[Q6 e];exact ad,by rw[Q6 e];exact af⟩
      go_upto_region 10 with (go_at_call 215;refine(qh tb n d hv hm a j _ (by exact R) s C B A).mono ?_;rintro e w9 ⟨rfl,G⟩;rw[G,v])
      go_region_held3 (fun W=>W.cell? ⟨o,a,none⟩=some (.string c)/\W.cell? ⟨o,j,none⟩=some (.string y)) (go_keep) ((refine cd (by rfl) (.tmp 33) (.tmp 43) 221 (by rfl) i0 (.agg #[.string ⟨#[]⟩,.string ⟨#[]⟩]) 32 f (jI K) underlying221 hi az aS aT rfl Uq (by simp[Act.eval] <;> rfl) hD.out ⟨wr.heap.size,0,none⟩ 1 1 [.string c,.string y] (by simp[Act.eval]) rfl s2.out s3.out Rc s4.out s5.out ?_;intro g5 P J V r g;obtain⟨q1,q2⟩:=HS.out J r))
      rw[E7 K (c,y),<-N.out]at V;have ap:=(l.trans O.out).grown r p
      have a6:X.heap.size<=g5:=by
       rcases g with e | e
       ·exact p g5 e
       ·have:=(l.trans O.out).size;simp at e this;omega
      have an:Hid ((jI K).n+1=(ta n d a (j+1)).length):=by show _=_;rw[N.out];simp[jI]
      rw[an.out];clear r g q1 q2;go_wp2
      go_roundg (n.length-(j+1))
      case measure=>omega
      case rel=>exact⟨j+1,⟨some ⟨g5,0,none⟩,P⟩,by omega,by omega,rfl,by go_num,rfl,V,by intro c I;simp[Hd.blk]at I;omega,ap⟩
    ·have e:j=n.length:=by omega
     subst e;rw[HE.out]at q ⊢;go_wp2
     go_roundg (n.length-(a+1))
     case measure=>omega
     case rel=>exact⟨a+1,f,by omega,rfl,by go_num,rfl,q,p,l⟩
  ·have e:a=n.length:=by omega
   subst e;go_wp2;go_ret;exact⟨m,rfl,F,fun c I=>by have:=hN c I;have:=k1.size;omega,k1.trans hK⟩
def gI(l:List St)(a:Nat):List Pr:=At (eW l (aK l a)) (fN l a (eW l (aK l a)))
def yN(l:List St)(n:Nat):ByteArray:=match l[n]? with | some s=>sR s | none=>⟨#[]⟩
def fh(p:Pr):ByteArray:=⟨#[36,100,32]⟩++p.1++⟨#[32]⟩++p.2
def cW(l:List St)(a:Nat):List ByteArray:=(aK l a).map (yN l)++(gI l a).map fh++[yN l a]
theorem vq(h:l∈aK w i):l<w.length:=by
 unfold aK dG at h;exact Ra.1 (RH.1 h).1
theorem wo:(aK w l).length<=w.length:=by
 unfold aK dG;have:=Sc (l6 w (f8 w l) l) (List.range w.length);simpa using this
theorem tW:(eW w d).length<=d.length:=To _ _
theorem Pi(h:dF H k x w N)(Q:b<w.length)(B:iH w) :
  Calls prog 135 #[.pointer (some ⟨k,x,none⟩),.int .i64 b] H fun e J=>∃c f:Hd,e=.returned (.agg #[.slice c.ao (aK w b).length c.cap,.slice f.ao (gI w b).length f.cap])/\aw J c (bB (aK w b))/\aw J f (jI (gI w b))/\(∀q,c.blk=some q∨f.blk=some q->H.heap.size<=q)/\ab [] H J:=by
 have L:=B.len;have R:=wo w b;have ac:=tW w (aK w b);have D:Hid (∀a∈aK w b,a<w.length):=fun a g=>vq w b a g
 have M:Hid (gI w b=At (eW w (aK w b)) (fN w b (eW w (aK w b)))):=rfl;obtain⟨W,A⟩:∃W,W=H.alloc (.cells #[.slice none 0 0,.slice none 0 0] 223):=⟨_,rfl⟩
 have t:ab [] H W:=by rw[A];exact(ab.refl [] _).alloc _
 have K:W.heap[H.heap.size]?=some (.cells #[.slice none 0 0,.slice none 0 0] 223 (0,0)):=by rw[A];exact QS _ _
 have O:Hid _:=A.symm;clear A;have o:=h.Vb t;have C:Hid _:=mA k x b w N W o Q B;go_enter func135,ntmps135;go_wp2_with fail;rw[O.out];refine QU C.out ?_;rintro e w1 ⟨c,rfl,d,l,p⟩;go_wp2_with fail;refine(vh k x w N (aK w b) c w1 (o.Vb p) B d (by omega) D.out).mono ?_;rintro e w2 ⟨Z,rfl,y,P,r⟩;go_wp2_with fail;refine(CB k x b w N Z (eW w (aK w b)) w2 ((o.Vb p).Vb r) B y (by omega)).mono ?_;rintro e s ⟨f,rfl,n,m,I⟩;rw[<-M.out]at n ⊢;have i:aw s c (bB (aK w b)):=d.Vg (fun a g=>(r.trans I).block a (d.lt g) (by simp));have j:=((p.trans r).trans I).get K (by simp);have G:ab [] H s:=((t.trans p).trans r).trans I;have U:=(t.trans p).size;have V:=((t.trans p).trans r).size;have S:=p.size;have T:=r.size;have X:=ae K;have Y:=t.size;have z0:s.cell? ⟨H.heap.size,0,none⟩=some (.slice none 0 0):=by rw[aa j];rfl
 have z1:s.cell? ⟨H.heap.size,1,none⟩=some (.slice none 0 0):=by rw[aa j];rfl
 have yf:=am j;have E:Hid (∀u v,aw ((s.setCell ⟨H.heap.size,0,none⟩ u).setCell ⟨H.heap.size,1,none⟩ v) c (bB (aK w b))):=fun u v=>i.Vg (fun a g=>(Q4 _ _ _ _ (by have:=l a g;show a≠H.heap.size;omega)).trans (Q4 _ _ _ _ (by have:=l a g;show a≠H.heap.size;omega)))
 have F:Hid (∀u v,aw ((s.setCell ⟨H.heap.size,0,none⟩ u).setCell ⟨H.heap.size,1,none⟩ v) f (jI (gI w b))):=fun u v=>n.Vg (fun a g=>(Q4 _ _ _ _ (by have:=m a g;show a≠H.heap.size;omega)).trans (Q4 _ _ _ _ (by have:=m a g;show a≠H.heap.size;omega)))
 clear d y n i;go_wp2
 exact QY (v:=.agg #[.slice c.ao (aK w b).length c.cap,.slice f.ao (gI w b).length f.cap]) (by simp[results,results135,go_sem,z0,z1]) rfl
  ⟨c,f,rfl,E.out _ _,F.out _ _,fun q z=>z.elim (fun z=>by have:=l q z;omega) (fun z=>by have:=m q z;omega),
   (G.setCell (QV (QR _)) _).setCell (QV (QR _)) _⟩
def pk(L:List ByteArray)(k:Nat):List ByteArray:=L.take k++List.replicate (L.length-k) ⟨#[]⟩
theorem Jf(h:l<=n.length):(pk n l).length=n.length:=by simp[pk];omega
theorem ET(h:l<n.length):pk n (l+1)=(pk n l).set l n[l]:=by
 unfold pk;rw[jo n l h]
 apply Sq
 intro i;have b:(n.take l).length=l:=by simp;omega
 rcases Nat.lt_trichotomy i l with a | a | a
 ·rw[Us (by omega),Q7 (by simp;omega),Q7 (by omega),Q7 (by omega)]
 ·subst a
  rw[Ug (by simp;omega),Q7 (by simp;omega),Q5 (by omega),b];simp
 ·rw[Us (by omega),Q5 (by simp;omega),Q5 (by omega)]
  simp only[List.length_append,b,List.length_singleton,List.getElem?_replicate]
  by_cases c:i<n.length
  ·rw[QW (by omega),QW (by omega)]
  ·rw[QT (by omega),QT (by omega)]
theorem Je:pk n n.length=n:=by simp[pk]
theorem xk:cN (n.set i yy)=(cN n).set i (.string yy):=by simp[cN,List.map_set]
def lI(w:World)(g:Nat)(L:List ByteArray)(k:Nat):Prop:=w.heap[g]?=some (.cells (cN (pk L k)).toArray 9 (0,0))
theorem lI.next(h:lI T S y6 o)(b:y6[o]?=some x4):lI (T.setCell ⟨S,o,none⟩ (.string x4)) S y6 (o+1):=by
 obtain⟨a,rfl⟩:=Q8.1 b;unfold lI at h ⊢;rw[ah h,ET y6 o a,xk,Ru]
theorem lI.cell{i:Nat}(h:lI T S y6 o)(b:o<=y6.length)(a:i<y6.length):∃x,T.cell? ⟨S,i,none⟩=some (.string x):=by
 refine⟨(pk y6 o)[i]'(by rw[Jf y6 o b];exact a),?_⟩;rw[aa h];simp[cN]
theorem lI.kept(h:lI T S y6 o)(q:ab y7 T z4)(a:S∉y7):lI z4 S y6 o:=q.get h a
def A7(l:List St):Prop:=∀s∈l,s.kind≠1->M5 s
theorem t8:(cW w l).length=(aK w l).length+(gI w l).length+1:=by simp[cW];omega
theorem II(h:l<(aK w i).length)(a:(aK w i)[l]<w.length):(cW w i)[l]?=some (sR w[(aK w i)[l]]):=by
 unfold cW;rw[Q7 (by simp;omega),Q7 (by simpa using h),Rq,QP h];simp[yN,List.getElem?_eq_getElem a]
theorem Eu(h:l<(gI w i).length):(cW w i)[(aK w i).length+l]?=some (fh (gI w i)[l]):=by
 unfold cW;rw[Q7 (by simp;omega),Q5 (by simp),Rq];simp[h]
theorem Et(a:l<w.length):(cW w l)[(aK w l).length+(gI w l).length]?=some (sR w[l]):=by
 unfold cW;rw[Q5 (by simp)];simp[yN,List.getElem?_eq_getElem a]
theorem Ch(h:l∈aK w i)(c:l<w.length):w[l].kind=2∨w[l].kind=3:=by
 unfold aK dG at h;obtain⟨-,a⟩:=RH.1 h;unfold l6 at a;rw[QP c]at a;simp only[Bool.and_eq_true]at a;have:=a.2;unfold pN at this
 cases b:(w[l].kind==2)
 ·rw[b]at this;right;simpa using this
 ·left;simpa using b
theorem Gm(h:∀x∈n,x.size<=l):(gD n i).size<=l:=by
 unfold gD;rw[QQ]
 cases e:n[i]? with
 | none=>exact Ro _
 | some x=>exact h x (R4 e)
theorem EQ(g:A7 w)(p:Pr)(h:p∈gI w l):p.1.size<=100000/\p.2.size<=100000:=by
 have d:∀x∈eW w (aK w l),x.size<=100000:=by
  intro x e;unfold eW at e;obtain⟨n,c,b⟩:=UE.1 e;have a:=vq w l n c;unfold mQ at b;rw[QP a]at b;simp only at b
  split at b
  ·next k =>
   cases b
   have o:=Ch w l n c a;have f:=g w[n] (Rb a) (by omega);unfold aL
   split
   ·next m =>
    refine f.syms _ ?_;rw[QQ,QP (show 1<w[n].U6.length by omega)];exact Rb _
   ·exact Ro _
  ·cases b
 unfold gI At te at h;obtain⟨i,-,h⟩:=TT.1 h;unfold mH at h;obtain⟨j,-,rfl⟩:=Si.1 h;exact⟨Gm _ _ _ d,Gm _ _ _ d⟩
theorem NX(L:List Pr)(k:Nat)(h:k<L.length):(Jl L)[k*2]?=some (.string L[k].1)/\(Jl L)[k*2+1]?=some (.string L[k].2):=by
 induction L generalizing k with
 | nil=>simp at h
 | cons p L a =>
  cases k with
  | zero=>exact⟨rfl,rfl⟩
  | succ k =>
   have:=a k (by simpa using h);have e:Jl (p :: L)=.string p.1 :: .string p.2 :: Jl L:=rfl;rw[e];refine⟨?_,?_⟩
   ·rw[show(k+1)*2=k*2+1+1 by omega];simpa using this.1
   ·rw[show(k+1)*2+1=k*2+1+1+1 by omega];simpa using this.2
theorem Es(h:dF H k x w N)(ha:b<w.length)(ok:iH w)(hz:A7 w)(bj:w[b].kind≠1) :
  Calls prog 91 #[.pointer (some ⟨k,x,none⟩),.int .i64 b] H fun e w'=>∃g,e=.returned (.slice (some ⟨g,0,none⟩) (cW w b).length (cW w b).length)/\lI w' g (cW w b) (cW w b).length/\H.heap.size<=g/\ab [] H w':=by
 obtain⟨i0,hi,bv,bw,bx⟩:=Re js;have b1:=ok.len;have cf:=wo w b;have bp:=tW w (aK w b);have cq:(gI w b).length<=100000000:=GC _ _ (by omega);have m:Hid _:=t8 w b;obtain⟨s,E⟩:∃s,Hid ((cW w b).length=s):=⟨_,rfl⟩
 rw[E.out]at m ⊢;have aT:Hid (∀f (h:f<(aK w b).length) (hq:(aK w b)[f]<w.length),(cW w b)[f]?=some (sR w[(aK w b)[f]])):=fun f h hq=>II w b f h hq
 have a1:Hid (∀j (h:j<(gI w b).length),(cW w b)[(aK w b).length+j]?=some (fh (gI w b)[j])):=fun j h=>Eu w b j h
 have a0:Hid ((cW w b)[(aK w b).length+(gI w b).length]?=some (sR w[b])):=Et w b ha;have a4:Hid _:=EQ w b hz;have aS:Hid (∀n∈aK w b,∃h:n<w.length,M5 w[n]):=fun n hn=>⟨vq w b n hn,hz _ (Rb _) (by have:=Ch w b n hn (vq w b n hn);omega)⟩
 have bl:=hz _ (Rb ha) bj;have a3:Hid _:=Pi k x b w N H h ha ok;have m1:=fun H=>dB (P:=prog) H 61 9 i0 _ underlying61 hi bv s 1 bw (by rw[bx];have:=m.out;omega) (by have:=m.out;omega)
 obtain⟨mc,T⟩:∃mc,mc=madeCells (Value.string ⟨#[]⟩).cells (s*1):=⟨_,rfl⟩
 rw[<-T]at m1
 have a2:Hid (mc=(cN (pk (cW w b) 0)).toArray):=by
  show _=_
  rw[T];have e:(Value.string ⟨#[]⟩).cells=#[.string ⟨#[]⟩]:=rfl;rw[e,Co];simp[pk,cN,E.out]
 clear T hz;generalize hL:cW w b=L at *;generalize hHy:aK w b=a at *;generalize hPr:gI w b=d at *;clear hL hHy hPr bp;have b6:(a.length:Int)+(d.length:Int)+1=(s:Int):=by have:=m.out;omega
 have b5:s<=200000000:=by have:=m.out;omega
 have cp:a.length+d.length<s:=by have:=m.out;omega
 go_enter func91,ntmps91;go_wp2_with fail;refine QU a3.out ?_;rintro e z ⟨Q,B,rfl,an,ap,b4,k1⟩;obtain⟨I,af⟩:∃I,Hid (Q.ao=I):=⟨_,rfl⟩
 obtain⟨D,ag⟩:∃D,Hid (B.ao=D):=⟨_,rfl⟩
 rw[af.out,ag.out];obtain⟨X,hX⟩:∃X,X=z.alloc (.cells #[.slice I a.length Q.cap,.slice D d.length B.cap] 223):=⟨_,rfl⟩
 have kX:ab [] z X:=by rw[hX];exact(ab.refl [] _).alloc _
 have BX:X.heap[z.heap.size]?=some (.cells #[.slice I a.length Q.cap,.slice D d.length B.cap] 223 (0,0)):=by rw[hX];exact QS _ _
 have HX:Hid _:=hX.symm;clear hX;obtain⟨Y,hY⟩:∃Y,Y=X.alloc (.cells mc 9):=⟨_,rfl⟩
 have kY:ab [] X Y:=by rw[hY];exact(ab.refl [] _).alloc _
 have BY:lI Y X.heap.size L 0:=by unfold lI;rw[hY,<-a2.out];exact QS _ _
 have HY:Hid _:=hY.symm;clear hY;have u0:X.cell? ⟨z.heap.size,0,none⟩=some (.slice I a.length Q.cap):=by rw[aa BX];rfl
 have u1:X.cell? ⟨z.heap.size,1,none⟩=some (.slice D d.length B.cap):=by rw[aa BX];rfl
 have b3:=ae BX;have ax:=h.Vb (k1.trans kX);have cs:=(k1.trans kX).size;have F:aw X Q (bB a):=an.Vg (fun ac W=>kX.block ac (an.lt W) (by simp));have v:aw X B (jI d):=ap.Vg (fun ac W=>kX.block ac (ap.lt W) (by simp))
 go_upto_region 3 with fail
 rw[HX.out]
 go_upto_region 4 with fail
 rw[HY.out];clear u0 u1 m1;generalize hG:X.heap.size=G at *;go_wp2
 go_loopg [8] a.length (fun gk i wr=>∃(f:Nat),f<=a.length/\gk=a.length-f/\i=.int .i64 f/\lI wr G L f/\ab [] X wr)
 case atStart=>exact⟨0,by omega,by omega,rfl,BY,kY⟩
 case round =>
  obtain⟨f,hk,hg,rfl,O,hK⟩:=hrel;have r:=ax.Vb hK;have A:=hK.get BX (by simp);have bg:=ae A;have u0:wr.cell? ⟨z.heap.size,0,none⟩=some (.slice I a.length Q.cap):=by rw[aa A];rfl
  have u1:wr.cell? ⟨z.heap.size,1,none⟩=some (.slice D d.length B.cap):=by rw[aa A];rfl
  by_cases S:f<a.length
  ·have y:aw wr Q (bB a):=F.Vg (fun ac W=>hK.block ac (F.lt W) (by simp))
   rcases y.Vm with ⟨_,h0,_⟩ | ⟨gh,bz,eh,a7,ba,-⟩
   ·have:a.length=0:=h0
    omega
   have ch:=y.cell eh f (.int .i64 a[f]) (jP a f S);have be:I=some ⟨gh,0,none⟩:=by rw[<-af.out];exact eh
   subst be;obtain⟨C,bk⟩:=aS.out a[f] (Rb S);have J:Hid _:=aT.out f S C;have co:(f:Int)<a.length:=by omega
   clear eh a7 ba y;generalize a[f]=q at *;have V:=ok.syms q C;have U:=(r.Vn.syms q w[q] (QP C)).view;go_wp2_with fail;refine(a9 k x q w N wr r C).mono ?_;rintro e w3 ⟨rfl,k3⟩;go_wp2_with fail;refine(Cl w[q] _ _ w3 (U.Vb k3) V bk).mono ?_;rintro e w4 ⟨rfl,k4⟩;have t:=k3.trans k4;have c:=O.kept t (by simp);obtain⟨x0,cx⟩:=c.cell (i:=f) (by have:=E.out;omega) (by have:=E.out;omega);have ar:=am c;have al:=ae c;have p:Hid _:=c.next J.out;have M:=hK.trans t;have cl:(f:Int)<(s:Int):=by omega
   generalize sR w[q]=tx at *;go_wp2
   go_roundg (a.length-(f+1))
   case measure=>omega
   case rel=>exact⟨f+1,by omega,rfl,by go_num,p.out,M.setCell (QV (US hG)) _⟩
  ·have e:f=a.length:=by omega
   subst e;clear u0;go_wp2
   go_loopg [9] d.length (fun bd i2 az=>∃(j:Nat),j<=d.length/\bd=d.length-j/\i2=.int .i64 j/\lI az G L (a.length+j)/\ab [] X az)
   case atStart=>exact⟨0,by omega,by omega,rfl,O,hK⟩
   case round =>
    obtain⟨j,hj,cb,rfl,l,u⟩:=hrel;clear O hK r A bg u1;have ad:=u.get BX (by simp);have b2:=ae ad;have u1:wr.cell? ⟨z.heap.size,1,none⟩=some (.slice D d.length B.cap):=by rw[aa ad];rfl
    by_cases R:j<d.length
    ·have o:aw wr B (jI d):=v.Vg (fun ac W=>u.block ac (v.lt W) (by simp))
     rcases o.Vm with ⟨_,h0,_⟩ | ⟨K,bT,ep,ai,bc,-⟩
     ·have:d.length=0:=h0
      omega
     obtain⟨v1,v2⟩:=NX d j R;have a5:=o.cell ep (j*2) _ v1;have a6:=o.cell ep (j*2+1) _ v2;have cc:=ae ai;have bf:D=some ⟨K,0,none⟩:=by rw[<-ag.out];exact ep
     subst bf;have J:Hid _:=a1.out j R;obtain⟨z1,z2⟩:=a4.out _ (Rb R);have ck:(j:Int)<d.length:=by omega
     have cj:(0:Int)<=j:=by omega
     have br:(0:Int)<=(a.length:Int)+(j:Int):=by omega
     have bs:(a.length:Int)+(j:Int)<(s:Int):=by omega
     have ct:IntKind.i64.wrap ((a.length:Int)+(j:Int))=(a.length:Int)+(j:Int):=by rw[R9];omega
     have bo:((a.length:Int)+(j:Int)).toNat=a.length+j:=by omega
     have b0:=v.lt (k:=K) (by unfold Hd.blk;rw[ep];rfl);have cu:G≠z.heap.size:=by omega
     have cy:z.heap.size≠G:=by omega
     have cz:G≠K:=by omega
     have cA:K≠G:=by omega
     clear ep ai bc o v1 v2;generalize d[j]=pp at *;obtain⟨Z,p2⟩:=pp;simp only at a5 a6 z1 z2;have HT:Hid (⟨#[36,100,32]⟩++Z++⟨#[32]⟩++p2=fh (Z,p2)):=rfl;have n1:¬9223372036854775807<3+Z.size:=by omega
     have n2:¬9223372036854775807<3+Z.size+1:=by omega
     have n3:¬9223372036854775807<3+Z.size+1+p2.size:=by omega
     obtain⟨x0,cx⟩:=l.cell (i:=a.length+j) (by have:=E.out;omega) (by have:=E.out;omega);have ar:=am l;have al:=ae l;have p:Hid (lI (wr.setCell ⟨G,a.length+j,none⟩ (.string (fh (Z,p2)))).drew G L (a.length+j+1)):=(l.next J.out).kept (ab.refl [] _).drew (by simp)
     go_upto_region 11 with fail
     go_region_held3 (fun w'=>w'.cell? ⟨z.heap.size,1,none⟩=some (.slice (some ⟨K,0,none⟩) d.length B.cap)/\w'.cell? ⟨K,j*2,none⟩=some (.string Z)/\w'.cell? ⟨K,j*2+1,none⟩=some (.string p2)) (go_keep) (fail)
     rw[HT.out];go_wp2
     go_roundg (d.length-(j+1))
     case measure=>omega
     case rel=>exact⟨j+1,by omega,rfl,by go_num,p.out,(u.setCell (QV (US hG)) _).drew⟩
    ·have e:j=d.length:=by omega
     subst e;have r:=ax.Vb u;have U:=(r.Vn.syms b w[b] (QP ha)).view;have V:=ok.syms b ha;have bo:((a.length:Int)+(d.length:Int)).toNat=a.length+d.length:=by omega
     have ca:(s:Int)-1=(a.length:Int)+(d.length:Int):=by omega
     go_wp2_with fail;refine(a9 k x b w N wr r ha).mono ?_;rintro e w3 ⟨rfl,k3⟩;go_wp2_with fail;refine(Cl w[b] _ _ w3 (U.Vb k3) V bl).mono ?_;rintro e w4 ⟨rfl,k4⟩;have t:=k3.trans k4;have c:=l.kept t (by simp);obtain⟨x0,cx⟩:=c.cell (i:=a.length+d.length) (by have:=E.out;omega) (by have:=E.out;omega);have ar:=am c;have al:=ae c;have p:Hid _:=c.next a0.out;have M:=u.trans t;have br:(0:Int)<=(a.length:Int)+(d.length:Int):=by omega
     have bs:(a.length:Int)+(d.length:Int)<(s:Int):=by omega
     have HE:Hid (a.length+d.length+1=s):=m.out.symm;rw[HE.out]at p;generalize sR w[b]=tx at *;go_wp2;go_ret;exact⟨G,rfl,p.out,by omega,(k1.trans (kX.trans M)).setCell (QV (by show H.heap.size<=G;omega)) _⟩
end Go.Proofs.YtpddjjabfbfifaaGreat
