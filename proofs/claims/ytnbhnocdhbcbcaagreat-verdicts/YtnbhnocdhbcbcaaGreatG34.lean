import Derived.Test.YtnbhnocdhbcbcaaGreatRows
import Derived.Deep.Slices
import Derived.ProofKit
import Derived.OpenShut
import Derived.ShutString
import Derived.ChangeOld
import Derived.Below
import Derived.SizedLaws
import Derived.Test.YtnbhnocdhbcbcaaGreatG33
namespace Go.Proofs.YtnbhnocdhbcbcaaGreat
open Go.RowKit Go.Proofs.Tryz
set_option maxHeartbeats 0
variable{f:World}{d:Option Addr}{n:List fO}{H l:Nat}{y:Hd}(b T:Nat)(x:Nat×Nat->It)(w:Mc)(v:List fO)(S:Nat)
def PU(r:fO):Rw:=⟨r.label,r.Wk,r.why,⟨r.file,r.line,r.col⟩⟩
theorem Hg:v.flatMap gx=iI (v.map PU):=by
 unfold iI;rw[Vo];rfl
def CJ(M:Mc):fO:=⟨M.s,M.p,M.q,M.f,M.i,M.j⟩
theorem Do(a:S<v.length)(r:fO):(((((((v.flatMap gx).set (S*6) (string r.label)).set (S*6+1) (int i64 r.Wk)).set (S*6+2) (int i64 r.why)).set (S*6+3) (string r.file)).set (S*6+4) (int i64 r.line)).set (S*6+5) (int i64 r.col))=(v.set S r).flatMap gx:=by
 rw[Hg,Hg,UE];exact Hh (v.map PU) S (by rw[Sn];exact a) (PU r)
theorem zE(h:cG f d 6 gx n)(a:d=some ⟨H,0,none⟩)(b:l<n.length):∃g i j k m o,f.cell? ⟨H,l*6,none⟩=some (string g)/\f.cell? ⟨H,l*6+1,none⟩=some (int i64 i)/\f.cell? ⟨H,l*6+2,none⟩=some (int i64 j)/\f.cell? ⟨H,l*6+3,none⟩=some (string k)/\f.cell? ⟨H,l*6+4,none⟩=some (int i64 m)/\f.cell? ⟨H,l*6+5,none⟩=some (int i64 o):=by
 obtain⟨p,e,-,c⟩:=h l _ (RQ b);rw[a]at e;cases e
 exact⟨_,_,_,_,_,_,c 0 _ rfl,c 1 _ rfl,c 2 _ rfl,c 3 _ rfl,c 4 _ rfl,c 5 _ rfl⟩
theorem vF.wrote(h:vF f (some H) n)(b:l<n.length)(r:fO):vF (rC f H l (PU r)) (some H) (n.set l r):=by
 refine⟨⟨(fun e=>by cases e),fun e=>?_⟩,fun q e=>?_⟩
 ·have:n=[]:=UI.1 (by rw[<-SS (i:=l) (a:=r),e];rfl);exact absurd (h.nil.2 this) (by simp)
 ·cases e
  unfold rC;rw[ah (ah (ah (ah (ah (ah (h.blk H rfl) _ _) _ _) _ _) _ _) _ _)];simp only[List.setIfInBounds_toArray];rw[<-Do n l b r];rfl
theorem J5(o:aC f y (bZ n))(a:y.ao=some ⟨H,0,none⟩)(b:l<n.length)(r:fO):aC (rC f H l (PU r)) y (bZ (n.set l r)):=by
 have:=(((((o.putAt a (l*6) (string r.label)).putAt a (l*6+1) (int i64 r.Wk)).putAt a (l*6+2) (int i64 r.why)).putAt a (l*6+3) (string r.file)).putAt a (l*6+4) (int i64 r.line)).putAt a (l*6+5) (int i64 r.col);have e:bZ (n.set l r)=⟨(bZ n).e,(bZ n).size,(bZ n).n,(((((((bZ n).xs.set (l*6) (string r.label)).set (l*6+1) (int i64 r.Wk)).set (l*6+2) (int i64 r.why)).set (l*6+3) (string r.file)).set (l*6+4) (int i64 r.line)).set (l*6+5) (int i64 r.col))⟩:=by
  unfold bZ kT;rw[<-Do n l b r,SS]
 rw[e];exact this
theorem dI.wrote{A:World}{k:Nat}{d:Option Nat}{c:List fO}{I:Nat×Nat->It}{M:Mc}{z:Hd}{a:List Wx}(h:dI f H I M z a l)(u:a[k]?=some (d,y,n))(F:c.length=n.length)(G:oN A (fw (fw I (15,k) (GO d c)) (16,k) (cw y (bZ c)))):∃w C v o,dI A H w C v o (l+1)/\w (10,0)=I (10,0):=by
 have g:=(R8.1 u).1;have E:mI (a.set k (d,y,c))=mI a:=by
  have e:(a.set k (d,y,c)).flatMap NI=a.flatMap NI:=by
   have D:(a.set k (d,y,c)).map NI=a.map NI:=by
    rw[UE];apply TY;intro j;rw[Tl];by_cases x:k=j
    ·subst x;rw[RY rfl,Sy,u];simp only[List.length_map,g,if_true,Option.map_some,NI,F]
    ·rw[RU x]
   rw[UG,UG,D]
  unfold mI kT;rw[e,SS]
 have m:=(h.m.retq G M.qv (by rw[pn (by decide) (by decide),pn (by decide) (by decide)];exact h.m.w0) (fun j i _ b=>by rw[pn (by decide) b,pn (by decide) b])).more;refine⟨_,_,z,a.set k (d,y,c),⟨m,h.t,⟨by rw[SS];exact h.q.e,by rw[RM _ _ (bu (by decide)),RM _ _ (bu (by decide)),E];exact h.q.r,fun j p s B b=>?_,by rw[SS];exact VS h.q.n⟩⟩,by rw[RM _ _ (bu (by decide)),RM _ _ (bu (by decide))]⟩;rw[Tl]at b;rw[RM _ _ (bu (by decide))];by_cases e:k=j
 ·subst e;rw[RY rfl,RY g]at b;cases b
  obtain⟨-,-,J⟩:=h.q.l k d y n u;rw[bP,bP];exact⟨rfl,rfl,by omega⟩
 ·rw[RU e]at b;rw[RM _ _ (rV (Ne.symm e)),RM _ _ (rV (Ne.symm e)),RM _ _ (bu (by decide))];exact h.q.l j p s B b
set_option maxRecDepth 100000
theorem Mq(O:Hd)(B:List Wx)(A C D:Int)(s t:ByteArray)(al:World)(h:dI al b x w O B T)(hN:T<=1073741824)(hA:sG A)(hC:sG C) :
  Calls prog 12 #[pointer (some ⟨b,0,none⟩),agg #[int i64 17,int i64 A,int i64 C,int i64 D,string s,string t]] al fun e w'=>yO b x T e w':=by
 obtain⟨W,HW⟩:∃W,Hid (al.alloc (.cells #[int i64 17,int i64 A,int i64 C,int i64 D,string s,string t] 28)=W):=⟨_,rfl⟩
 obtain⟨-,hB,bp,bf⟩:=h.m.boxed 17 A C D s t W HW.out;have d:=h.Wj bf;obtain⟨o0,o1,o2,o3,o4,o5,oz⟩:=dV hB;have F:=ae d.m.blk;have o:=d.c15;have r0:W.cell? ⟨b,9,none⟩=some (string w.s):=by rw[aj d.m.blk];rfl
 have r1:W.cell? ⟨b,10,none⟩=some (int i64 w.p):=by rw[aj d.m.blk];rfl
 have r2:W.cell? ⟨b,11,none⟩=some (int i64 w.q):=by rw[aj d.m.blk];rfl
 have r3:W.cell? ⟨b,12,none⟩=some (string w.f):=by rw[aj d.m.blk];rfl
 have r4:W.cell? ⟨b,13,none⟩=some (int i64 w.i):=by rw[aj d.m.blk];rfl
 have r5:W.cell? ⟨b,14,none⟩=some (int i64 w.j):=by rw[aj d.m.blk];rfl
 by_cases hL:B.length=0
 ·have HF:Hid (dI W b x w O B T):=d;rw[hL]at o;clear h d hB;go_enter func12,ntmps12;go_upto_region 1 with fail
  rw[HW.out];go_wp2;go_ret;exact⟨rfl,_,_,_,_,HF.out.more,rfl⟩
 ·have bl:=h.q.n;have ag:Hid (∀Y,Calls prog 13 #[int i64 A,int i64 B.length] Y fun e w'=>e=returned (int i64 (fU A B.length:Nat))/\w'=Y):=fun Y=>gC A B.length Y hA ⟨by omega,by omega⟩;have a2:=iH A B.length (by omega);obtain⟨k,Hk⟩:∃k,Hid (fU A B.length=k):=⟨_,rfl⟩
  rw[Hk.out]at ag a2;have HM:Hid (dI W b x w O B T):=d;obtain⟨bo,Q,L,gl,hk,⟨X,gz,P,Z⟩,hX,hO,bw⟩:=d.at_ a2;obtain⟨c,E,-⟩:=d.q.l k bo Q L hk;rw[X]at o;have bv:(k:Int)<B.length:=by omega
  have bk:(0:Int)<B.length:=by omega
  have a6:Hid _:=hk;have ad:Hid _:=c;have a4:Hid _:=E;by_cases M:L.length=0
  ·rw[M]at P;clear h d hB hk c E X hX hO;go_enter func12,ntmps12;(go_upto_region 1 with fail);rw[HW.out];(go_upto_region 41 with fail);go_quiet ((go_at_call 13;exact Ss (ag.out _)));have HF:Hid (dI (W.drewN nq) b x w O B T):=HM.out.Wj ((aa.refl [] _).drewN nq);go_wp2;go_ret;exact⟨rfl,_,_,_,_,HF.out.more,rfl⟩
  ·have az:Hid (∀Y,Calls prog 13 #[int i64 C,int i64 L.length] Y fun e w'=>e=returned (int i64 (fU C L.length:Nat))/\w'=Y):=fun Y=>gC C L.length Y hC ⟨by omega,by omega⟩;have N:=iH C L.length (by omega);obtain⟨i,Hi⟩:∃i,Hid (fU C L.length=i):=⟨_,rfl⟩
   rw[Hi.out]at az N;obtain⟨a,rfl⟩:∃a,bo=some a:=by
    cases bo with
    | none=>rw[hX.nil.1 rfl]at M;exact absurd rfl M
    | some a=>exact⟨a,rfl⟩
   obtain⟨v,V⟩:∃v,Q.ao=some ⟨v,0,none⟩:=by
    rcases hO.Wu with ⟨-,e2,-⟩ | ⟨g,bd,e1,-⟩
    ·exact absurd e2 M
    ·exact⟨g,e1⟩
   have G:Hid _:=V;have ac:a≠al.heap.size:=by
    intro e;have:=(GO (some a) L).lt al (by have:=h.m.sep.all (15,k);rw[c]at this;exact this) a (Se.2 rfl);omega
   have a3:v≠a:=by
    intro e;exact d.m.sep.far (16,k) (15,k) (bu (by decide)) v (by rw[E];show v∈Q.blk.toList;unfold Hd.blk;rw[V];exact Se.2 rfl) (by rw[c,e];exact Se.2 rfl)
   have bg:Hid _:=hB;replace P:W.cell? ⟨gl,k*2,none⟩=some (slice (some ⟨a,0,none⟩) L.length L.length):=P;rw[V]at Z;have bs:(i:Int)<L.length:=(by omega);have br:(0:Int)<L.length:=(by omega);have a7:Hid _:=ac;have an:Hid (gl≠a):=by
    intro e;exact d.m.sep.far (14,0) (15,k) (bu (by decide)) gl (by rw[d.q.r];show gl∈O.blk.toList;unfold Hd.blk;rw[X];exact Se.2 rfl) (by rw[c,e];exact Se.2 rfl)
   have y:Hid (b≠a):=by
    intro e;exact d.m.sep.far (0,0) (15,k) (bu (by decide)) b (by rw[d.m.w0];exact Se.2 rfl) (by rw[c,e];exact Se.2 rfl)
   have H:Hid (∀u,aa [a] W u->(u.cell? ⟨al.heap.size,2,none⟩=some (int i64 C)/\al.heap.size<u.heap.size)/\(u.cell? ⟨b,15,none⟩=some (slice (some ⟨gl,0,none⟩) B.length O.cap)/\u.cell? ⟨b,9,none⟩=some (string w.s)/\u.cell? ⟨b,10,none⟩=some (int i64 w.p)/\u.cell? ⟨b,11,none⟩=some (int i64 w.q)/\u.cell? ⟨b,12,none⟩=some (string w.f)/\u.cell? ⟨b,13,none⟩=some (int i64 w.i)/\u.cell? ⟨b,14,none⟩=some (int i64 w.j)/\b<u.heap.size)/\u.cell? ⟨gl,k*2,none⟩=some (slice (some ⟨a,0,none⟩) L.length L.length)/\u.cell? ⟨gl,k*2+1,none⟩=some (slice (some ⟨v,0,none⟩) L.length Q.cap)/\gl<u.heap.size):=fun u kw=>by
    have q:∀g i,g<W.heap.size->g≠a->u.cell? ⟨g,i,none⟩=W.cell? ⟨g,i,none⟩:=fun g i hg hn=>Sh (kw.block g hg (by simp;exact hn));have z:=kw.size;exact⟨⟨by rw[q _ _ oz (Ne.symm a7.out)];exact o2,by omega⟩,⟨by rw[q _ _ F y.out];exact o,by rw[q _ _ F y.out];exact r0,by rw[q _ _ F y.out];exact r1,by rw[q _ _ F y.out];exact r2,by rw[q _ _ F y.out];exact r3,by rw[q _ _ F y.out];exact r4,by rw[q _ _ F y.out];exact r5,by omega⟩,by rw[q _ _ gz an.out];exact P,by rw[q _ _ gz an.out];exact Z,by omega⟩
   have bj:Hid (L.length<=Q.cap):=by
    rcases hO.Wu with ⟨-,e2,-⟩ | ⟨g,bd,-,-,e3,-⟩
    ·exact absurd e2 M
    ·exact e3
   clear h d hB hk c E X hX hO ac V a3;go_enter func12,ntmps12;(go_upto_region 1 with fail);rw[HW.out];(go_upto_region 41 with fail);go_quiet ((go_at_call 13;exact Ss (ag.out _)));(go_upto_region 43 with fail);obtain⟨W2,aS⟩:∃W2,Hid (W.drewN nq=W2):=⟨_,rfl⟩
   rw[aS.out];have ap:Hid (aa [] W W2):=by show aa _ _ _;rw[<-aS.out];exact(aa.refl [] _).drewN nq
   clear o0 o1 o2 o3 o4 o5 oz o F P Z gz r0 r1 r2 r3 r4 r5;obtain⟨⟨o2,oz⟩,⟨o,r0,r1,r2,r3,r4,r5,F⟩,P,Z,gz⟩:=H.out W2 (ap.out.mono (by simp));go_quiet ((go_at_call 13;exact Ss (az.out _)));(go_upto_region 44 with fail);obtain⟨U,aT⟩:∃U,Hid (W2.drewN nq=U):=⟨_,rfl⟩
   rw[aT.out];have af:Hid (aa [] W U):=by show aa _ _ _;rw[<-aT.out];exact ap.out.drewN nq
   have ax:Hid (dI U b x w O B T):=HM.out.Wj af.out;have S:Hid (vF U (some a) L):=(by show vF _ _ _;have:=ax.out.m.sep.all (15,k);rw[ad.out]at this;exact this);clear o2 oz o F P Z gz r0 r1 r2 r3 r4 r5;obtain⟨⟨o2,oz⟩,⟨o,r0,r1,r2,r3,r4,r5,F⟩,P,Z,gz⟩:=H.out U (af.out.mono (by simp));obtain⟨u0,u1,u2,u3,u4,u5,d0,d1,d2,d3,d4,d5⟩:=zE (S.out.srcG) rfl N;have df:=am (S.out.blk a rfl);have dz:=ae (S.out.blk a rfl);go_region
   all_goals
    obtain⟨K,I⟩:∃K,Hid (((((((U.setCell ⟨a,i*6,none⟩ (string w.s)).setCell ⟨a,i*6+1,none⟩ (int i64 w.p)).setCell ⟨a,i*6+2,none⟩ (int i64 w.q)).setCell ⟨a,i*6+3,none⟩ (string w.f)).setCell ⟨a,i*6+4,none⟩ (int i64 w.i)).setCell ⟨a,i*6+5,none⟩ (int i64 w.j)).drew=K):=⟨_,rfl⟩
    rw[I.out];have a0:Hid ((rC U a i (PU (CJ w))).drew=K):=I;clear I;have ar:Hid (aa [a] U K):=by show aa _ _ _;rw[<-a0.out];exact(ny _ _ _ _).drew
    have S4:Hid (oN K (fw x (15,k) (GO (some a) (L.set i (CJ w))))):=by
     show oN _ _;refine ax.out.m.sep.put _ _ (by rw[ad.out];exact ar.out) ?_ (fun q O=>R4 (by rw[ad.out];exact O));rw[<-a0.out];exact(GO _ _).ok [] _ _ (S.out.wrote N (CJ w)) (aa.refl [] _).drew (by simp)
    have ai:Hid (fw x (15,k) (GO (some a) (L.set i (CJ w))) (16,k)=cw Q (bZ L)):=(by show _=_;rw[RM _ _ (bu (by decide))];exact a4.out);have R:Hid (aC K Q (bZ L)):=(by show aC _ _ _;have:=S4.out.all (16,k);rw[ai.out]at this;exact this);clear d0 d1 d2 d3 d4 d5 df dz o2 oz o F P Z gz r0 r1 r2 r3 r4 r5;obtain⟨⟨o2,oz⟩,⟨o,r0,r1,r2,r3,r4,r5,F⟩,P,Z,gz⟩:=H.out K ((af.out.mono (by simp)).trans ar.out);obtain⟨u0,u1,u2,u3,u4,u5,d0,d1,d2,d3,d4,d5⟩:=zE (aC.srcG (f:=gx) R.out kV) G.out N;have df:=CV R.out G.out;have dz:v<K.heap.size:=R.out.lt (by unfold Hd.blk;rw[G.out];rfl);(go_upto_region 45 with fail);go_region
    all_goals
     obtain⟨W5,J⟩:∃W5,Hid (((((((K.setCell ⟨v,i*6,none⟩ (string w.s)).setCell ⟨v,i*6+1,none⟩ (int i64 w.p)).setCell ⟨v,i*6+2,none⟩ (int i64 w.q)).setCell ⟨v,i*6+3,none⟩ (string w.f)).setCell ⟨v,i*6+4,none⟩ (int i64 w.i)).setCell ⟨v,i*6+5,none⟩ (int i64 w.j)).drew=W5):=⟨_,rfl⟩
     rw[J.out];have a1:Hid ((rC K v i (PU (CJ w))).drew=W5):=J;clear J;have a5:Hid (aa [v] K W5):=by show aa _ _ _;rw[<-a1.out];exact(ny _ _ _ _).drew
     have S5:Hid (oN W5 (fw (fw x (15,k) (GO (some a) (L.set i (CJ w)))) (16,k) (cw Q (bZ (L.set i (CJ w)))))):=by
      show oN _ _;have be:Q.blk.toList=[v]:=(by unfold Hd.blk;rw[G.out];rfl);refine S4.out.put _ _ (by rw[ai.out];show aa Q.blk.toList _ _;rw[be];exact a5.out) ?_ (fun q O=>R4 (by rw[ai.out];exact O));rw[<-a1.out];exact(cw _ _).ok [] _ _ (J5 R.out G.out N (CJ w)) (aa.refl [] _).drew (by simp)
     go_wp2;go_ret;exact⟨rfl,HM.out.wrote a6.out SS S5.out⟩
theorem Mr(A C D:Int)(s t:ByteArray)(c:World)(h:cd c b x w T)(m:w.tv=slice none 0 0) :
  Calls prog 12 #[pointer (some ⟨b,0,none⟩),agg #[int i64 18,int i64 A,int i64 C,int i64 D,string s,string t]] c fun e n=>iU b x w T true e n:=by
 obtain⟨W,d⟩:∃W,Hid (c.alloc (.cells #[int i64 18,int i64 A,int i64 C,int i64 D,string s,string t] 28)=W):=⟨_,rfl⟩
 obtain⟨a,f,k,-⟩:=h.boxed 18 A C D s t W d.out;obtain⟨q,r,u,v,y,z,B⟩:=dV f;have p:=am a.blk;have o:=ae a.blk;have l:b≠c.heap.size:=by omega
 have g:c.heap.size≠b:=by omega
 have j:W.cell? ⟨b,16,none⟩=some (slice none 0 0):=by rw[aj a.blk,<-m];rfl
 have i:Hid (cd W b x w T):=a;clear h a f;go_enter func12,ntmps12;go_upto_region 1 with fail
 rw[d.out];go_wp2;go_ret;exact⟨rfl,_,_,i.out.more,rH.refl _ _⟩
section
open Go.ChangeShapes Go.WideShapes Go.ChangeAt Go.RowKit
theorem own:ownKnob prog.godebug=none:=by kernel_rfl
theorem Oq:laidOutB prog=true:=by kernel_rfl
theorem PI:prog.bytesOf 28=64:=by kernel_rfl
theorem LC:prog.cellsOf 28=6:=by kernel_rfl
theorem Aj:prog.cellsOf 3=1:=by kernel_rfl
theorem Gy:prog.cellsOf 9=1:=by kernel_rfl
theorem uO:prog.underlying 28=some (.struct (prog.fieldsOf 28)):=by kernel_rfl
theorem N4:(prog.fieldsOf 28).toList.map (fun f=>(f.type,f.offset))=[(3,0),(3,1),(3,2),(3,3),(9,4),(9,5)]:=by kernel_rfl
theorem uv(h:[(3,0),(3,1),(3,2),(3,3),(9,4),(9,5)][b]?=some (T,S)):∃f,(prog.fieldsOf 28)[b]?=some f/\f.type=T/\f.offset=S:=by
 rw[<-N4,List.getElem?_map,Array.getElem?_toList]at h;cases e:(prog.fieldsOf 28)[b]? with
 | none=>rw[e]at h;cases h
 | some f=>rw[e]at h;simp at h;exact⟨f,rfl,h.1,h.2⟩
theorem QX:(prog.fieldsOf 28).size=6:=by kernel_rfl
theorem F3{b:Type}(P:Program)(e:TypeId){L:List (DataW b)}{d:DataW b}(c:d∈L)(f:H∈DataW.weights P e d):H∈DataW.weightsAll P e L:=by
 induction L with
 | nil=>cases c
 | cons a r g =>
  rw[DataW.weightsAll,List.mem_append];rcases List.mem_cons.1 c with rfl | h
  ·exact Or.inl f
  ·exact Or.inr (g h)
theorem Gu:(⟨b,T,none⟩:Addr).add S=⟨b,T+S,none⟩:=by
 simp only[Addr.add];split
 ·next h=>subst h;rfl
 ·rfl
theorem OH{l:Type}{j:TypeId×Value->l}{i:List Value}{x:DataW l×List MemPlace}(h:DataW.trod j prog f 0 (fun _=>true) true H 28 i=some x) :
  ∃o:qU,i=OF o/\(sG o.k/\sG o.a/\sG o.c/\sG o.d)/\o.s.data.toList.length∈DataW.weights prog 28 x.1/\o.t.data.toList.length∈DataW.weights prog 28 x.1:=by
 obtain⟨xs,m,-,rfl,e,g,b⟩:=DataW.trod_struct uO h;rw[LC]at e;rw[QX]at g
 match i,e,xs,g with
 | [v0,v1,v2,v3,v4,v5],_,[y0,y1,y2,y3,y4,y5],_ =>
  obtain⟨Q,K,t0,q0⟩:=uv 0 _ _ rfl;obtain⟨R,L,t1,q1⟩:=uv 1 _ _ rfl;obtain⟨S,M,t2,q2⟩:=uv 2 _ _ rfl;obtain⟨T,N,t3,q3⟩:=uv 3 _ _ rfl;obtain⟨U,O,t4,q4⟩:=uv 4 _ _ rfl;obtain⟨V,P,t5,q5⟩:=uv 5 _ _ rfl;have D:=b 0 Q K;have E:=b 1 R L;have F:=b 2 S M;have G:=b 3 T N;have I:=b 4 U O;have J:=b 5 V P;rw[t0,q0,Aj]at D;rw[t1,q1,Aj]at E;rw[t2,q2,Aj]at F;rw[t3,q3,Aj]at G;rw[t4,q4,Gy]at I;rw[t5,q5,Gy]at J;obtain⟨W,n,w,w0⟩:=DataW.trod_int underlying3 D;obtain⟨X,p,y,w1⟩:=DataW.trod_int underlying3 E;obtain⟨Y,q,z,w2⟩:=DataW.trod_int underlying3 F;obtain⟨Z,r,A,w3⟩:=DataW.trod_int underlying3 G;obtain⟨s4,u,B,-⟩:=DataW.trod_string underlying9 I;obtain⟨s5,v,C,-⟩:=DataW.trod_string underlying9 J;simp at n p q r u v w y z A B C;refine⟨⟨W,X,Y,Z,s4,s5⟩,?_,⟨bounds_i64 w0,bounds_i64 w1,bounds_i64 w2,bounds_i64 w3⟩,?_,?_⟩
  ·rw[n,p,q,r,u,v];rfl
  all_goals
   rw[w,y,z,A,B,C];simp[DataW.weights,DataW.weightsEach]
theorem Qr{C:Type}{J:TypeId×Value->C}{R:DataW C}{p0:List MemPlace}{Q:List TypeId}{P:List (DataW C)}(Z:DataW.Trod J prog f 0 (fun _=>true) true 22 (.slice d H l) R p0)(z:(DataW.weightsEach prog Q P).all (·<=reachBytes)=true)(U:Q[0]?=some 22)(T:P[0]?=some R) :
  ∃N:List qU,N.length=H/\H*64<=140737488351232/\(∀o∈N,DW o)/\od f d N:=by
 obtain⟨S,hf⟩:=Z;rcases Go.Deep.open_slice underlying22 hf with ⟨e,_⟩ | ⟨a,ag,W,m,n,D,Pl,e,-,ad,ac,hm,V,w⟩
 ·simp[Value.cells]at e;obtain⟨rfl,rfl,rfl⟩:=e;exact⟨[],rfl,by omega,(fun o y=>by cases y),fun i o c=>by cases c⟩
 ·simp[Value.cells]at e;obtain⟨rfl,rfl,rfl⟩:=e;simp only[if_true]at hm;have af:H<=m:=by omega
  simp only[Prod.mk.injEq]at V;obtain⟨rfl,-⟩:=V;have A:=sized_slice z (j:=0) U T underlying22;rw[PI]at A;simp only[List.length_map,List.length_range,reachBytes]at A;have k:∀i,i<H->∃o:qU,DW o/\∀(j:Nat) u,(OF o)[j]?=some u->f.cell? ((a.add (i*6)).add j)=some u:=fun i c=>by
   obtain⟨cs,F,h2⟩:=w i (by omega);rw[LC]at F;obtain⟨-,hl,G⟩:=World.cells?_some F;obtain⟨o,y,⟨r0,r1,r2,r3⟩,X,Y⟩:=OH h2;have v:∀q,q∈DataW.weights prog 28 (D i)->q<=140737488351232:=fun q hq=>by
    have M:q∈DataW.weights prog 22 (.slice ((List.range H).map D) ((List.range (m-H)).map fun j=>D (H+j)):DataW C):=by
     simp only[DataW.weights,underlying22];exact List.mem_cons_of_mem _ (List.mem_append_left _ (F3 prog _ (List.mem_map.2 ⟨i,List.mem_range.2 c,rfl⟩) hq))
    have:=List.all_eq_true.1 z _ (DataW.weights_mem_each (j:=0) U T _ M);have t:q<=reachBytes:=(by simpa using this);simpa only [reachBytes] using t
   refine⟨o,⟨r0,r1,r2,r3,v _ X,v _ Y⟩,fun j u I=>?_⟩;have L:j<6:=(List.getElem?_eq_some_iff.1 I).1;rw[G j L,y];exact I
  have p:Nonempty qU:=⟨⟨0,0,0,0,⟨#[]⟩,⟨#[]⟩⟩⟩
  have K:∃E:Nat->qU,∀i,i<H->DW (E i)/\∀(j:Nat) u,(OF (E i))[j]?=some u->f.cell? ((a.add (i*6)).add j)=some u:=by
   classical
   refine⟨fun i=>if c:i<H then Classical.choose (k i c) else Classical.choice p,fun i c=>?_⟩;simp only[dif_pos c];exact Classical.choose_spec (k i c)
  obtain⟨E,r⟩:=K;refine⟨(List.range H).map E,by simp,by omega,fun o y=>?_,fun i o c=>?_⟩
  ·obtain⟨i,F,rfl⟩:=List.mem_map.1 y;exact(r i (List.mem_range.1 F)).1
  ·rw[List.getElem?_map]at c;have x:i<H:=by
    rcases Nat.lt_or_ge i H with h | h
    ·exact h
    ·rw[List.getElem?_eq_none (by simp;exact h)]at c;cases c
   rw[List.getElem?_range x]at c;cases c
   have G:=(r i x).2;obtain⟨b,O,B⟩:=a;have g:=G 0 _ rfl;have s:B=none:=(by simpa [Addr.add] using World.cell?_spot ((r 0 (by omega)).2 0 _ rfl));subst s;refine⟨b,O,rfl,?_,fun j u I=>?_⟩
   ·rw[Gu,Gu]at g;unfold World.cell? at g;split at g
    ·next hh=>exact ae hh
    ·cases g
   ·have:=G j u I;rw[Gu,Gu]at this;exact this
end
end Go.Proofs.YtnbhnocdhbcbcaaGreat
