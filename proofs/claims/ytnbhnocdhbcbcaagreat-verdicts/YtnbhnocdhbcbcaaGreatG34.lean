import Derived.Test.YtnbhnocdhbcbcaaGreatG33
namespace Go.Proofs.YtnbhnocdhbcbcaaGreat
open Go.RowKit Tryz
open Value IntKind Ending
set_option maxHeartbeats 0
variable{S:World}{H:List fO}{T b:Nat}{y:Hd}(l:Nat)(v:List fO)(n:Nat)(x:Nat×Nat->It)(w:Mc)
def PU(r:fO):Rw:=⟨r.label,r.Wk,r.why,⟨r.file,r.line,r.col⟩⟩
theorem Hg:v.flatMap gx=iI (v.map PU):=by
 unfold iI;rw[Vo];rfl
def CJ(M:Mc):fO:=⟨M.s,M.p,M.q,M.f,M.i,M.j⟩
theorem Do(a:n<v.length)(r:fO):(((((((v.flatMap gx).set (n*6) (string r.label)).set (n*6+1) (int i64 r.Wk)).set (n*6+2) (int i64 r.why)).set (n*6+3) (string r.file)).set (n*6+4) (int i64 r.line)).set (n*6+5) (int i64 r.col))=(v.set n r).flatMap gx:=by
 rw[Hg,Hg,UE];exact Hh (v.map PU) n (by rw[Sn];exact a) (PU r)
theorem zE{a:Option Addr}(h:cG S a 6 gx H)(d:a=some ⟨T,0,none⟩)(f:b<H.length):∃g i j k l m,S.cell? ⟨T,b*6,none⟩=some (string g)/\S.cell? ⟨T,b*6+1,none⟩=some (int i64 i)/\S.cell? ⟨T,b*6+2,none⟩=some (int i64 j)/\S.cell? ⟨T,b*6+3,none⟩=some (string k)/\S.cell? ⟨T,b*6+4,none⟩=some (int i64 l)/\S.cell? ⟨T,b*6+5,none⟩=some (int i64 m):=by
 obtain⟨n,e,-,c⟩:=h b _ (RQ f);rw[d]at e;cases e
 exact⟨_,_,_,_,_,_,c 0 _ rfl,c 1 _ rfl,c 2 _ rfl,c 3 _ rfl,c 4 _ rfl,c 5 _ rfl⟩
theorem vF.wrote(h:vF S (some T) H)(c:b<H.length)(r:fO):vF (rC S T b (PU r)) (some T) (H.set b r):=by
 refine⟨⟨(fun e=>by cases e),fun e=>?_⟩,fun q e=>?_⟩
 ·have:H=[]:=UI.1 (by rw[<-SS (i:=b) (a:=r),e];rfl);exact absurd (h.nil.2 this) (by simp)
 ·cases e
  unfold rC;rw[ah (ah (ah (ah (ah (ah (h.blk T rfl) _ _) _ _) _ _) _ _) _ _)];simp only[List.setIfInBounds_toArray];rw[<-Do H b c r];rfl
theorem J5(o:aC S y (bZ H))(a:y.ao=some ⟨T,0,none⟩)(c:b<H.length)(r:fO):aC (rC S T b (PU r)) y (bZ (H.set b r)):=by
 have:=(((((o.putAt a (b*6) (string r.label)).putAt a (b*6+1) (int i64 r.Wk)).putAt a (b*6+2) (int i64 r.why)).putAt a (b*6+3) (string r.file)).putAt a (b*6+4) (int i64 r.line)).putAt a (b*6+5) (int i64 r.col);have e:bZ (H.set b r)=⟨(bZ H).e,(bZ H).size,(bZ H).n,(((((((bZ H).xs.set (b*6) (string r.label)).set (b*6+1) (int i64 r.Wk)).set (b*6+2) (int i64 r.why)).set (b*6+3) (string r.file)).set (b*6+4) (int i64 r.line)).set (b*6+5) (int i64 r.col))⟩:=by
  unfold bZ kT;rw[<-Do H b c r,SS]
 rw[e];exact this
theorem dI.wrote{A:World}{k:Nat}{f:Option Nat}{d:List fO}{I:Nat×Nat->It}{M:Mc}{z:Hd}{a:List Wx}(h:dI S T I M z a b)(u:a[k]?=some (f,y,H))(F:d.length=H.length)(G:oN A (fw (fw I (15,k) (GO f d)) (16,k) (cw y (bZ d)))):∃w C v o,dI A T w C v o (b+1)/\w (10,0)=I (10,0):=by
 have g:=(R8.1 u).1;have E:mI (a.set k (f,y,d))=mI a:=by
  have e:(a.set k (f,y,d)).flatMap NI=a.flatMap NI:=by
   have D:(a.set k (f,y,d)).map NI=a.map NI:=by
    rw[UE];apply TY;intro j;rw[Tl];by_cases x:k=j
    ·subst x;rw[RY rfl,Sy,u];simp only[List.length_map,g,if_true,Option.map_some,NI,F]
    ·rw[RU x]
   rw[UG,UG,D]
  unfold mI kT;rw[e,SS]
 have m:=(h.m.retq G M.qv (by rw[pn (by decide) (by decide),pn (by decide) (by decide)];exact h.m.w0) (fun j i _ c=>by rw[pn (by decide) c,pn (by decide) c])).more;refine⟨_,_,z,a.set k (f,y,d),⟨m,h.t,⟨by rw[SS];exact h.q.e,by rw[RM _ _ (bu (by decide)),RM _ _ (bu (by decide)),E];exact h.q.r,fun j p s B c=>?_,by rw[SS];exact VS h.q.n⟩⟩,by rw[RM _ _ (bu (by decide)),RM _ _ (bu (by decide))]⟩;rw[Tl]at c;rw[RM _ _ (bu (by decide))];by_cases e:k=j
 ·subst e;rw[RY rfl,RY g]at c;cases c
  obtain⟨-,-,J⟩:=h.q.l k f y H u;rw[bP,bP];exact⟨rfl,rfl,by omega⟩
 ·rw[RU e]at c;rw[RM _ _ (rV (Ne.symm e)),RM _ _ (rV (Ne.symm e)),RM _ _ (bu (by decide))];exact h.q.l j p s B c
set_option maxRecDepth 100000
theorem Mq(N:Hd)(y:List Wx)(A C D:Int)(s t:ByteArray)(al:World)(h:dI al l x w N y n)(hN:n<=1073741824)(hA:sG A)(hC:sG C) :
  Calls prog 12 #[pointer (some ⟨l,0,none⟩),agg #[int i64 17,int i64 A,int i64 C,int i64 D,string s,string t]] al fun e w'=>yO l x n e w':=by
 obtain⟨W,HW⟩:∃W,Hid (al.alloc (.cells #[int i64 17,int i64 A,int i64 C,int i64 D,string s,string t] 28)=W):=⟨_,rfl⟩
 obtain⟨-,hB,bp,bf⟩:=h.m.boxed 17 A C D s t W HW.out;have c:=h.Wj bf;obtain⟨o0,o1,o2,o3,o4,o5,oz⟩:=dV hB;have E:=ae c.m.blk;have d:=c.c15;have r0:W.cell? ⟨l,9,none⟩=some (string w.s):=by rw[aj c.m.blk];rfl
 have r1:W.cell? ⟨l,10,none⟩=some (int i64 w.p):=by rw[aj c.m.blk];rfl
 have r2:W.cell? ⟨l,11,none⟩=some (int i64 w.q):=by rw[aj c.m.blk];rfl
 have r3:W.cell? ⟨l,12,none⟩=some (string w.f):=by rw[aj c.m.blk];rfl
 have r4:W.cell? ⟨l,13,none⟩=some (int i64 w.i):=by rw[aj c.m.blk];rfl
 have r5:W.cell? ⟨l,14,none⟩=some (int i64 w.j):=by rw[aj c.m.blk];rfl
 by_cases hL:y.length=0
 ·have HF:Hid (dI W l x w N y n):=c;rw[hL]at d;clear h c hB;go_enter func12,ntmps12;go_upto_region 1 with fail
  rw[HW.out];go_wp2;go_ret;exact⟨rfl,_,_,_,_,HF.out.more,rfl⟩
 ·have bl:=h.q.n;have ag:Hid (∀V,Calls prog 13 #[int i64 A,int i64 y.length] V fun e w'=>e=returned (int i64 (fU A y.length:Nat))/\w'=V):=fun V=>gC A y.length V hA ⟨by omega,by omega⟩;have a2:=iH A y.length (by omega);obtain⟨k,Hk⟩:∃k,Hid (fU A y.length=k):=⟨_,rfl⟩
  rw[Hk.out]at ag a2;have HM:Hid (dI W l x w N y n):=c;obtain⟨bo,P,L,Y,hk,⟨U,Z,O,X⟩,hX,hO,bw⟩:=c.at_ a2;obtain⟨b,B,-⟩:=c.q.l k bo P L hk;rw[U]at d;have bv:(k:Int)<y.length:=by omega
  have bk:(0:Int)<y.length:=by omega
  have a6:Hid _:=hk;have ad:Hid _:=b;have a4:Hid _:=B;by_cases K:L.length=0
  ·rw[K]at O;clear h c hB hk b B U hX hO;go_enter func12,ntmps12;(go_upto_region 1 with fail);rw[HW.out];(go_upto_region 41 with fail);go_quiet ((go_at_call 13;exact Ss (ag.out _)));have HF:Hid (dI (W.drewN nq) l x w N y n):=HM.out.Wj ((aa.refl [] _).drewN nq);go_wp2;go_ret;exact⟨rfl,_,_,_,_,HF.out.more,rfl⟩
  ·have az:Hid (∀V,Calls prog 13 #[int i64 C,int i64 L.length] V fun e w'=>e=returned (int i64 (fU C L.length:Nat))/\w'=V):=fun V=>gC C L.length V hC ⟨by omega,by omega⟩;have M:=iH C L.length (by omega);obtain⟨i,Hi⟩:∃i,Hid (fU C L.length=i):=⟨_,rfl⟩
   rw[Hi.out]at az M;obtain⟨a,rfl⟩:∃a,bo=some a:=by
    cases bo with
    | none=>rw[hX.nil.1 rfl]at K;exact absurd rfl K
    | some a=>exact⟨a,rfl⟩
   obtain⟨u,T⟩:∃u,P.ao=some ⟨u,0,none⟩:=by
    rcases hO.Wu with ⟨-,e2,-⟩ | ⟨g,bd,e1,-⟩
    ·exact absurd e2 K
    ·exact⟨g,e1⟩
   have F:Hid _:=T;have ac:a≠al.heap.size:=by
    intro e;have:=(GO (some a) L).lt al (by have:=h.m.sep.all (15,k);rw[b]at this;exact this) a (Se.2 rfl);omega
   have a3:u≠a:=by
    intro e;exact c.m.sep.far (16,k) (15,k) (bu (by decide)) u (by rw[B];show u∈P.blk.toList;unfold Hd.blk;rw[T];exact Se.2 rfl) (by rw[b,e];exact Se.2 rfl)
   have bg:Hid _:=hB;replace O:W.cell? ⟨Y,k*2,none⟩=some (slice (some ⟨a,0,none⟩) L.length L.length):=O;rw[T]at X;have bs:(i:Int)<L.length:=(by omega);have br:(0:Int)<L.length:=(by omega);have a7:Hid _:=ac;have an:Hid (Y≠a):=by
    intro e;exact c.m.sep.far (14,0) (15,k) (bu (by decide)) Y (by rw[c.q.r];show Y∈N.blk.toList;unfold Hd.blk;rw[U];exact Se.2 rfl) (by rw[b,e];exact Se.2 rfl)
   have v:Hid (l≠a):=by
    intro e;exact c.m.sep.far (0,0) (15,k) (bu (by decide)) l (by rw[c.m.w0];exact Se.2 rfl) (by rw[b,e];exact Se.2 rfl)
   have G:Hid (∀o,aa [a] W o->(o.cell? ⟨al.heap.size,2,none⟩=some (int i64 C)/\al.heap.size<o.heap.size)/\(o.cell? ⟨l,15,none⟩=some (slice (some ⟨Y,0,none⟩) y.length N.cap)/\o.cell? ⟨l,9,none⟩=some (string w.s)/\o.cell? ⟨l,10,none⟩=some (int i64 w.p)/\o.cell? ⟨l,11,none⟩=some (int i64 w.q)/\o.cell? ⟨l,12,none⟩=some (string w.f)/\o.cell? ⟨l,13,none⟩=some (int i64 w.i)/\o.cell? ⟨l,14,none⟩=some (int i64 w.j)/\l<o.heap.size)/\o.cell? ⟨Y,k*2,none⟩=some (slice (some ⟨a,0,none⟩) L.length L.length)/\o.cell? ⟨Y,k*2+1,none⟩=some (slice (some ⟨u,0,none⟩) L.length P.cap)/\Y<o.heap.size):=fun o kw=>by
    have q:∀g i,g<W.heap.size->g≠a->o.cell? ⟨g,i,none⟩=W.cell? ⟨g,i,none⟩:=fun g i hg hn=>Sh (kw.block g hg (by simp;exact hn));have z:=kw.size;exact⟨⟨by rw[q _ _ oz (Ne.symm a7.out)];exact o2,by omega⟩,⟨by rw[q _ _ E v.out];exact d,by rw[q _ _ E v.out];exact r0,by rw[q _ _ E v.out];exact r1,by rw[q _ _ E v.out];exact r2,by rw[q _ _ E v.out];exact r3,by rw[q _ _ E v.out];exact r4,by rw[q _ _ E v.out];exact r5,by omega⟩,by rw[q _ _ Z an.out];exact O,by rw[q _ _ Z an.out];exact X,by omega⟩
   have bj:Hid (L.length<=P.cap):=by
    rcases hO.Wu with ⟨-,e2,-⟩ | ⟨g,bd,-,-,e3,-⟩
    ·exact absurd e2 K
    ·exact e3
   clear h c hB hk b B U hX hO ac T a3;go_enter func12,ntmps12;(go_upto_region 1 with fail);rw[HW.out];(go_upto_region 41 with fail);go_quiet ((go_at_call 13;exact Ss (ag.out _)));(go_upto_region 43 with fail);obtain⟨W2,aS⟩:∃W2,Hid (W.drewN nq=W2):=⟨_,rfl⟩
   rw[aS.out];have ap:Hid (aa [] W W2):=by show aa _ _ _;rw[<-aS.out];exact(aa.refl [] _).drewN nq
   clear o0 o1 o2 o3 o4 o5 oz d E O X Z r0 r1 r2 r3 r4 r5;obtain⟨⟨o2,oz⟩,⟨d,r0,r1,r2,r3,r4,r5,E⟩,O,X,Z⟩:=G.out W2 (ap.out.mono (by simp));go_quiet ((go_at_call 13;exact Ss (az.out _)));(go_upto_region 44 with fail);obtain⟨S,aT⟩:∃S,Hid (W2.drewN nq=S):=⟨_,rfl⟩
   rw[aT.out];have af:Hid (aa [] W S):=by show aa _ _ _;rw[<-aT.out];exact ap.out.drewN nq
   have ax:Hid (dI S l x w N y n):=HM.out.Wj af.out;have R:Hid (vF S (some a) L):=(by show vF _ _ _;have:=ax.out.m.sep.all (15,k);rw[ad.out]at this;exact this);clear o2 oz d E O X Z r0 r1 r2 r3 r4 r5;obtain⟨⟨o2,oz⟩,⟨d,r0,r1,r2,r3,r4,r5,E⟩,O,X,Z⟩:=G.out S (af.out.mono (by simp));obtain⟨u0,u1,u2,u3,u4,u5,d0,d1,d2,d3,d4,d5⟩:=zE (R.out.srcG) rfl M;have df:=am (R.out.blk a rfl);have dz:=ae (R.out.blk a rfl);go_region
   all_goals
    obtain⟨J,H⟩:∃J,Hid (((((((S.setCell ⟨a,i*6,none⟩ (string w.s)).setCell ⟨a,i*6+1,none⟩ (int i64 w.p)).setCell ⟨a,i*6+2,none⟩ (int i64 w.q)).setCell ⟨a,i*6+3,none⟩ (string w.f)).setCell ⟨a,i*6+4,none⟩ (int i64 w.i)).setCell ⟨a,i*6+5,none⟩ (int i64 w.j)).drew=J):=⟨_,rfl⟩
    rw[H.out];have a0:Hid ((rC S a i (PU (CJ w))).drew=J):=H;clear H;have ar:Hid (aa [a] S J):=by show aa _ _ _;rw[<-a0.out];exact(ny _ _ _ _).drew
    have S4:Hid (oN J (fw x (15,k) (GO (some a) (L.set i (CJ w))))):=by
     show oN _ _;refine ax.out.m.sep.put _ _ (by rw[ad.out];exact ar.out) ?_ (fun q N=>R4 (by rw[ad.out];exact N));rw[<-a0.out];exact(GO _ _).ok [] _ _ (R.out.wrote M (CJ w)) (aa.refl [] _).drew (by simp)
    have ai:Hid (fw x (15,k) (GO (some a) (L.set i (CJ w))) (16,k)=cw P (bZ L)):=(by show _=_;rw[RM _ _ (bu (by decide))];exact a4.out);have Q:Hid (aC J P (bZ L)):=(by show aC _ _ _;have:=S4.out.all (16,k);rw[ai.out]at this;exact this);clear d0 d1 d2 d3 d4 d5 df dz o2 oz d E O X Z r0 r1 r2 r3 r4 r5;obtain⟨⟨o2,oz⟩,⟨d,r0,r1,r2,r3,r4,r5,E⟩,O,X,Z⟩:=G.out J ((af.out.mono (by simp)).trans ar.out);obtain⟨u0,u1,u2,u3,u4,u5,d0,d1,d2,d3,d4,d5⟩:=zE (aC.srcG (f:=gx) Q.out kV) F.out M;have df:=CV Q.out F.out;have dz:u<J.heap.size:=Q.out.lt (by unfold Hd.blk;rw[F.out];rfl);(go_upto_region 45 with fail);go_region
    all_goals
     obtain⟨W5,I⟩:∃W5,Hid (((((((J.setCell ⟨u,i*6,none⟩ (string w.s)).setCell ⟨u,i*6+1,none⟩ (int i64 w.p)).setCell ⟨u,i*6+2,none⟩ (int i64 w.q)).setCell ⟨u,i*6+3,none⟩ (string w.f)).setCell ⟨u,i*6+4,none⟩ (int i64 w.i)).setCell ⟨u,i*6+5,none⟩ (int i64 w.j)).drew=W5):=⟨_,rfl⟩
     rw[I.out];have a1:Hid ((rC J u i (PU (CJ w))).drew=W5):=I;clear I;have a5:Hid (aa [u] J W5):=by show aa _ _ _;rw[<-a1.out];exact(ny _ _ _ _).drew
     have S5:Hid (oN W5 (fw (fw x (15,k) (GO (some a) (L.set i (CJ w)))) (16,k) (cw P (bZ (L.set i (CJ w)))))):=by
      show oN _ _;have be:P.blk.toList=[u]:=(by unfold Hd.blk;rw[F.out];rfl);refine S4.out.put _ _ (by rw[ai.out];show aa P.blk.toList _ _;rw[be];exact a5.out) ?_ (fun q N=>R4 (by rw[ai.out];exact N));rw[<-a1.out];exact(cw _ _).ok [] _ _ (J5 Q.out F.out M (CJ w)) (aa.refl [] _).drew (by simp)
     go_wp2;go_ret;exact⟨rfl,HM.out.wrote a6.out SS S5.out⟩
theorem Mr(A C D:Int)(s t:ByteArray)(b:World)(h:cd b l x w n)(m:w.tv=slice none 0 0) :
  Calls prog 12 #[pointer (some ⟨l,0,none⟩),agg #[int i64 18,int i64 A,int i64 C,int i64 D,string s,string t]] b fun e o=>iU l x w n true e o:=by
 obtain⟨W,c⟩:∃W,Hid (b.alloc (.cells #[int i64 18,int i64 A,int i64 C,int i64 D,string s,string t] 28)=W):=⟨_,rfl⟩
 obtain⟨a,d,j,-⟩:=h.boxed 18 A C D s t W c.out;obtain⟨r,u,v,y,z,B,E⟩:=dV d;have q:=am a.blk;have p:=ae a.blk;have k:l≠b.heap.size:=by omega
 have f:b.heap.size≠l:=by omega
 have i:W.cell? ⟨l,16,none⟩=some (slice none 0 0):=by rw[aj a.blk,<-m];rfl
 have g:Hid (cd W l x w n):=a;clear h a d;go_enter func12,ntmps12;go_upto_region 1 with fail
 rw[c.out];go_wp2;go_ret;exact⟨rfl,_,_,g.out.more,rH.refl _ _⟩
end Go.Proofs.YtnbhnocdhbcbcaaGreat
