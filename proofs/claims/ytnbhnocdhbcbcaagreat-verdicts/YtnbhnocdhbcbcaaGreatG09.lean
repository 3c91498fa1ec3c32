import Derived.Deep.RegionHeld3
import Derived.Test.YtnbhnocdhbcbcaaGreatG08
namespace Go.Proofs.YtnbhnocdhbcbcaaGreat
open Go.RowKit Tryz
open Value IntKind Ending
set_option maxHeartbeats 0
variable{m:lj}{T:Nat}{y N:World}{L:Hd}(a:Nat)(d:lj)(o:List St)(D:Nat)(k:ByteArray)(n:Pl)(S:Nat)(I:Nat->Hd)(x l:ByteArray)(g:oL)(f:List (ByteArray×Pl))(v:List Nat)(z4:List kK)(H:Nat)(i:lj)(w:Nat)(b:Fs)
theorem iY.letter(h:iY m T)(n:Nat)(p:Pl):iY (bB m n p).2 (T+1):=by
  have b:=h.names;have c:=h.Wr;have d:=h.steps;have e:=h.Wl;have a:=h.behind;unfold bB;split
  · unfold eQ dB
    split
    · exact⟨by simp only;omega,by simp only;omega,by simp;omega,by simp,by simp⟩
    · split
      · exact⟨by simp only;omega,by simp only;omega,by simp;omega,by simp,by simp⟩
      · exact⟨by simp only;omega,by simp only;omega,by simp only;omega,by simp,a⟩
  · split
    · next f =>
      unfold jx;split
      all_goals
        exact⟨by simp only;omega,by simp only;omega,by simp only;omega,by simp only;omega,by simp⟩
    · split
      · exact⟨by simp only;omega,by simp;omega,by simp only;omega,by simp only;omega,by simp⟩
      · split
        · exact⟨by simp only[dB];omega,by simp only[dB];omega,by simp[dB];omega,by simp only[dB];omega,by simp[dB]⟩
        · exact⟨by simp only;omega,by simp only;omega,by simp only;omega,by simp only;omega,a⟩
def gK(t:ByteArray)(p:Pl):Nat->Nat->lj->oL×lj
  | 0,_,c=>(cM,c)
  | f+1,j,c =>
    if j<t.size then
      (if((bB c (aH t j).toNat { p with col:=p.col+j }).1==0)=true then gK t p f (j+1) (bB c (aH t j).toNat { p with col:=p.col+j }).2
       else(((bB c (aH t j).toNat { p with col:=p.col+j }).1,{ p with col:=p.col+j }),(bB c (aH t j).toNat { p with col:=p.col+j }).2))
    else(cM,c)
def lV(t:ByteArray)(p:Pl)(c:lj):oL×lj:=gK t p (t.size+1) 0 c
theorem Q7(b:H<k.size)(h:((bB i (aH k H).toNat { n with col:=n.col+H }).1==0)=true) :
    gK k n (S+1) H i=gK k n S (H+1) (bB i (aH k H).toNat { n with col:=n.col+H }).2:=by rw[gK,RY b,RY h]
theorem Pi(b:H<k.size)(h:((bB i (aH k H).toNat { n with col:=n.col+H }).1==0)=false) :
    gK k n (S+1) H i=(((bB i (aH k H).toNat { n with col:=n.col+H }).1,{ n with col:=n.col+H }),(bB i (aH k H).toNat { n with col:=n.col+H }).2):=by rw[gK,RY b,RU (by rw[h];simp)]
theorem QB(a:¬H<k.size):gK k n (S+1) H i=(cM,i):=by rw[gK,RU a]
theorem dm(h:y.heap[T]?=some (.cells bD 165)) :
    y.cell? ⟨T,0,none⟩=some (int i64 0)/\y.cell? ⟨T,1,none⟩=some (string ⟨#[]⟩)/\y.cell? ⟨T,2,none⟩=some (int i64 0)/\y.cell? ⟨T,3,none⟩=some (int i64 0):=by
  refine⟨?_,?_,?_,?_⟩ <;> (rw[aj h];rfl)
theorem vO{t F:Nat}{j:List Value}{a:Nat->eB}{H b:Nat->Hd}(D:bi N T t j a b)(d:aB T y H N b)(c:y.heap.size<=F)(k:T≠F)(l:¬gO b F)(e f g i:Value) :
    bi ((((N.setCell ⟨F,0,none⟩ e).setCell ⟨F,1,none⟩ f).setCell ⟨F,2,none⟩ g).setCell ⟨F,3,none⟩ i) T t j a b /\
    aB T y H ((((N.setCell ⟨F,0,none⟩ e).setCell ⟨F,1,none⟩ f).setCell ⟨F,2,none⟩ g).setCell ⟨F,3,none⟩ i) b:=by
  refine⟨D.kept (jE _ _ _ _) (by simpa using k) (fun x m=>by simp;rintro rfl;exact l m),?_,d.2⟩;exact(((d.1.setCell (RZ c) _).setCell (RZ c) _).setCell (RZ c) _).setCell (RZ c) _
set_option maxRecDepth 100000
theorem Bc(c b:Int)(w:World)(h:dY w a d I)(N:Nat)(ok:iY d N)(hN:N+x.size<=10000000)(an:-1000000000<=b/\b<=1000000000) :
    Calls prog 185 #[pointer (some ⟨a,0,none⟩),agg #[string x,string l,int i64 c,int i64 b]] w fun e m=>e=returned (ij (lV x ⟨l,c,b⟩ d).1)/\∃n,dY m a (lV x ⟨l,c,b⟩ d).2 n/\aB a w I m n:=by
  obtain⟨W,L⟩:∃W,W=(w.alloc (.cells #[string x,string l,int i64 c,int i64 b] 229)).alloc (.cells #[int i64 0,string ⟨#[]⟩,int i64 0,int i64 0] 165):=⟨_,rfl⟩
  have K:aa [] w W:=by rw[L];exact((aa.refl [] _).alloc _).alloc _
  have BW:W.heap[w.heap.size]?=some (.cells #[string x,string l,int i64 c,int i64 b] 229):=by rw[L];exact((aa.refl [] _).alloc _).get (R2 _ _) (by simp)
  have BF:W.heap[w.heap.size+1]?=some (.cells bD 165):=by
    rw[L];have:=R2 (w.alloc (.cells #[string x,string l,int i64 c,int i64 b] 229)) (.cells #[int i64 0,string ⟨#[]⟩,int i64 0,int i64 0] 165);simpa [bD] using this
  have ac:W.heap.size=w.heap.size+2:=by rw[L];simp
  have al:=bi.lt h;have C:Hid (∀k,w.heap.size<=k->¬gO I k):=fun k hk hm=>by have:=bi.inlt h hm;omega
  have hC:=h.Wj K;have HW:Hid _:=L.symm;obtain⟨u0,u1,u2,u3⟩:=BK BW;clear L;go_enter func185,ntmps185;go_upto_region 1 with fail
  rw[HW.out];go_wp2
  go_loopg [6] x.size (fun gk i wr=>∃(j:Nat) (s:lj) (n:Nat->Hd) (S:Nat),j<=x.size/\gk=x.size-j/\i=int i64 j/\iY s (N+j)/\x.size-j+1<=S/\Hid (lV x ⟨l,c,b⟩ d=gK x ⟨l,c,b⟩ S j s)/\dY wr a s n/\aB a w I wr n /\
    wr.heap[w.heap.size]?=some (.cells #[string x,string l,int i64 c,int i64 b] 229)/\wr.heap[w.heap.size+1]?=some (.cells bD 165)/\wr.heap[w.heap.size+2]?=some (.cells #[string l,int i64 c,int i64 (b+j)] 36)/\¬gO n w.heap.size/\¬gO n (w.heap.size+1)/\¬gO n (w.heap.size+2))
  case atStart =>
    refine⟨0,d,I,x.size+1,by omega,by omega,rfl,ok,by omega,rfl,hC.Wj ((aa.refl [] _).alloc _),(aB.refl _ _ _).Wj (K.alloc _),((aa.refl [] _).alloc _).get BW (by simp),((aa.refl [] _).alloc _).get BF (by simp),?_,C.out _ (by omega),C.out _ (by omega),C.out _ (by omega)⟩;rw[<-ac];have:=R2 W (.cells #[string l,int i64 c,int i64 b] 36);simpa using this
  case round =>
    obtain⟨j,s,n,S,hj,hg,rfl,q,ao,J,G,hT,B1,Y,M,n1,n2,n3⟩:=hrel;clear u0 u1 u2 u3 BW BF hC HW;have u0:wr.cell? ⟨w.heap.size,0,none⟩=some (string x):=(by rw[aj B1];rfl);have v0:wr.cell? ⟨w.heap.size+2,0,none⟩=some (string l):=(by rw[aj M];rfl);have v1:wr.cell? ⟨w.heap.size+2,1,none⟩=some (int i64 c):=(by rw[aj M];rfl);have v2:wr.cell? ⟨w.heap.size+2,2,none⟩=some (int i64 (b+j)):=(by rw[aj M];rfl);obtain⟨p,rfl⟩:∃p,S=p+1:=⟨S-1,by omega⟩
    by_cases z:j<x.size
    · have U:(aH x j).toNat=x[j].toNat:=by rw[bU x j z];rfl
      have Z:=Q7 x ⟨l,c,b⟩ p j s z;have L2:=Pi x ⟨l,c,b⟩ p j s z;have E:=q.letter x[j].toNat { (⟨l,c,b⟩:Pl) with col:=b+j };have T:x[j].toNat<256:=UInt8.toNat_lt _;have TL:=fun(m:World) (h':dY m a s n)=>xU a s n x[j].toNat l c (b+j) m h' ⟨by have:=q.names;omega,by have:=q.Wr;omega,by have:=q.steps;omega,by have:=q.Wl;omega,q.behind⟩ T;rw[U]at Z L2;simp only at Z L2 E;have t:Hid _:=Z;have u:Hid _:=L2;have D:Hid _:=TL;clear Z L2 TL U;generalize bB s x[j].toNat ⟨l,c,b + ↑j⟩=Q at *;obtain⟨r,c2⟩:=Q;simp only at t u D E;have A:Hid (∀(f:World) (o:Nat->Hd) (_:aB a wr.drew n f o),f.heap[w.heap.size]?=some (.cells #[string x,string l,int i64 c,int i64 b] 229)/\f.heap[w.heap.size+1]?=some (.cells bD 165)/\f.heap[w.heap.size+2]?=some (.cells #[string l,int i64 c,int i64 (b+j)] 36)):=by
        intro f o g;exact⟨g.1.get (by exact B1) (by rintro (e | e);omega;exact n1 e),g.1.get (by exact Y) (by rintro (e | e);omega;exact n2 e),g.1.get (by exact M) (by rintro (e | e);omega;exact n3 e)⟩
      have P:Hid (∀(f:World) (o:Nat->Hd) (_:aB a wr.drew n f o),f.cell? ⟨w.heap.size,0,none⟩=some (string x)/\f.cell? ⟨w.heap.size+2,0,none⟩=some (string l)/\f.cell? ⟨w.heap.size+2,1,none⟩=some (int i64 c)/\f.cell? ⟨w.heap.size+2,2,none⟩=some (int i64 (b+j))):=by
        intro f o g;obtain⟨q1,X,H⟩:=A.out f o g;refine⟨by rw[aj q1];rfl,by rw[aj H];rfl,by rw[aj H];rfl,by rw[aj H];rfl⟩
      have af:=ae B1;have V:=ae Y;have ag:=ae M;cases hr:(r==0)
      · have ad:(r != 0)=true:=by simp[bne,hr]
        have B:Hid _:=J.out.trans (u.out hr);clear J t u;(go_upto_region 5 with fail);go_region_held3 (fun m=>m.cell? ⟨w.heap.size,0,none⟩=some (string x)/\m.cell? ⟨w.heap.size+2,0,none⟩=some (string l)/\m.cell? ⟨w.heap.size+2,1,none⟩=some (int i64 c)/\m.cell? ⟨w.heap.size+2,2,none⟩=some (int i64 (b+j))) (go_keep) (first | (go_at_call 218;refine(D.out _ (by exact G.Wj (aa.refl [] _).drew)).mono ?_;rintro e f ⟨rfl,o,D9,g⟩;obtain⟨x0,x1,x2,x3⟩:=P.out f o g))
        all_goals
          obtain⟨q1,X,H⟩:=A.out f o g;obtain⟨j0,j1,j2,j3⟩:=dm X;have y:=am X;have m2:=g.fresh (w.heap.size+1) (by exact V) n2;have O:Hid _:=(fun a0 a1 a2 a3=>vO D9 (hT.trans (aB.first (aa.refl [] _).drew g)) (F:=w.heap.size+1) (by omega) (by omega) m2 a0 a1 a2 a3);go_wp2;exact Sa (v:=agg #[int i64 r,string l,int i64 c,int i64 (b+j)]) (by simp[results,results185,go_sem,j0,j1,j2,j3]) rfl
            ⟨by rw[B.out];rfl,o,by rw[B.out];exact(O.out _ _ _ _).1,(O.out _ _ _ _).2⟩
      · have ad:(r != 0)=false:=by simp[bne,hr]
        have B:Hid _:=J.out.trans (t.out hr);clear J t u;(go_upto_region 5 with fail);go_region_held3 (fun m=>m.cell? ⟨w.heap.size,0,none⟩=some (string x)/\m.cell? ⟨w.heap.size+2,0,none⟩=some (string l)/\m.cell? ⟨w.heap.size+2,1,none⟩=some (int i64 c)/\m.cell? ⟨w.heap.size+2,2,none⟩=some (int i64 (b+j))) (go_keep) (first | (go_at_call 218;refine(D.out _ (by exact G.Wj (aa.refl [] _).drew)).mono ?_;rintro e f ⟨rfl,o,D9,g⟩;obtain⟨x0,x1,x2,x3⟩:=P.out f o g))
        all_goals
          obtain⟨q1,X,H⟩:=A.out f o g;have y:=am H;have m1:=g.fresh w.heap.size (by exact af) n1;have m2:=g.fresh (w.heap.size+1) (by exact V) n2;have m3:=g.fresh (w.heap.size+2) (by exact ag) n3;have R:=hT.trans (aB.first (aa.refl [] _).drew g);go_wp2;go_roundg (x.size-(j+1))
          case measure=>omega
          case rel =>
            have kk:aa [w.heap.size+2] f (f.setCell ⟨w.heap.size+2,2,none⟩ (int i64 (b + ↑j+1))):=(aa.refl _ _).setCell (R4 (by simp)) _;refine⟨j+1,c2,o,p,by omega,rfl,by go_num,by rw[<-UR];exact E,by omega,B.out,bi.kept D9 kk (by simp;omega) (by intro ap hx;simp;rintro rfl;exact m3 hx),⟨R.1.setCell (RZ (by simp)) _,R.2⟩,kk.get q1 (by simp),kk.get X (by simp),?_,m1,m2,m3⟩;rw[ah H,show b+(↑(j+1):Int)=b + ↑j+1 by omega];rfl
    · have B:Hid _:=J.out.trans (QB x ⟨l,c,b⟩ p j s z)
      obtain⟨j0,j1,j2,j3⟩:=dm Y;have y:=am Y;have O:Hid _:=(fun a0 a1 a2 a3=>vO G hT (F:=w.heap.size+1) (by omega) (by omega) n2 a0 a1 a2 a3);clear J;go_wp2;exact Sa (v:=agg #[int i64 0,string ⟨#[]⟩,int i64 0,int i64 0]) (by simp[results,results185,go_sem,j0,j1,j2,j3]) rfl
        ⟨by rw[B.out];rfl,n,by rw[B.out];exact(O.out _ _ _ _).1,(O.out _ _ _ _).2⟩
def ja(l:List Nat)(x:Nat):Bool:=l.any (fun y=>y==x)
theorem Cs(h:w<v.length)(b:ja v H=ja (v.drop w) H)(a:(v[w]==H)=true):ja v H=true:=by
 rw[b,Sq h];simp only[ja,List.any_cons,a,Bool.true_or]
theorem zi(h:w<v.length)(b:ja v H=ja (v.drop w) H)(a:(v[w]==H)=false):ja v H=ja (v.drop (w+1)) H:=by
 rw[b,Sq h];simp only[ja,List.any_cons,a,Bool.false_or]
theorem zj(h:¬w<v.length)(a:ja v H=ja (v.drop w) H):ja v H=false:=by
 rw[a,Tv (by omega)];rfl
theorem o8:((H:Int)==(w:Int))=(H==w):=by
 cases h:(H==w)
 ·exact Sp.2 (by have:=Sp.1 h;omega)
 ·have:=Vc h;subst this;simp
set_option maxRecDepth 512
theorem CX(m:Hd)(l:List Nat)(x:Nat)(w:World)(c:aC w m (bL l))(u:l.length<=1073741824) :
  Calls prog 217 #[slice m.ao l.length m.cap,int i64 x] w fun e v=>e=returned (bool (ja l x))/\v=w:=by
 obtain⟨y,r⟩:=m;rcases c.Wu with ⟨t,q,_⟩ | ⟨g,s,p,_⟩
 ·have j:l.length=0:=q;have o:l=[]:=Sw j;subst o;clear c q j u t;go_enter func217,ntmps217;go_wp2;refine Uh 1 ?_;rw[UD];go_wp2;go_ret;exact⟨rfl,rfl⟩
 ·simp only at p;subst p;go_enter func217,ntmps217;go_wp2
  go_loopg [5] l.length (fun g i wr=>∃k:Nat,k<=l.length/\g=l.length-k/\i=int i64 k/\Hid (ja l x=ja (l.drop k) x)/\wr=w)
  case atStart=>exact⟨0,by omega,by omega,rfl,rfl,rfl⟩
  case round =>
   obtain⟨k,B,A,rfl,d,rfl⟩:=hrel;by_cases a:k<l.length
   ·have z:=c.cell rfl k (int i64 l[k]) (l4 l k a);cases b:(l[k]==x)
    ·have f:Hid (ja l x=ja (l.drop (k+1)) x):=zi l x k a d.out b;have n:=(o8 l[k] x).trans b;clear d c b;go_wp2;go_roundg (l.length-(k+1))
     case measure=>omega
     case rel=>exact⟨k+1,by omega,rfl,by go_num,f,rfl⟩
    ·have f:Hid (ja l x=true):=Cs l x k a d.out b;have n:=(o8 l[k] x).trans b;clear d c b;go_wp2;go_ret;exact⟨aE f.out.symm,rfl⟩
   ·have f:Hid (ja l x=false):=zj l x k a d.out;clear d c;go_wp2;go_ret;exact⟨aE f.out.symm,rfl⟩
def bW(l:List St)(a:Nat)(fin:Pl):Nat->List (ByteArray×Pl)->List Nat->(Nat×oL)×List Nat
 | _,[],ns=>((0,(3,fin)),ns)
 | i,(t,p) :: r,ns =>
  if(t.toList == [41])=true then((i+1,cM),ns)
  else match jo l t a with
   | none=>((0,(2,p)),ns)
   | some n=>if ja ns n=true then((0,(3,p)),ns) else bW l a fin (i+1) r (ns++[n])
theorem aC.word{l:List (ByteArray×Pl)}(o:aC y L (ic l))(k:Nat)(m:k<l.length) :
  ∃g,L.ao=some ⟨g,0,none⟩/\l.length<=L.cap/\L.cap<=9223372036854775807/\y.cell? ⟨g,k*4,none⟩=some (string l[k].1)/\y.cell? ⟨g,k*4+1,none⟩=some (string l[k].2.file)/\y.cell? ⟨g,k*4+2,none⟩=some (int i64 l[k].2.line)/\y.cell? ⟨g,k*4+3,none⟩=some (int i64 l[k].2.col):=by
 rcases o.Wu with ⟨_,f,_⟩ | ⟨g,d,a,p,e,b,-⟩
 ·have:l.length=0:=f;omega
 ·have c:=fun j (i:j<4) v (n:(rF l[k])[j]?=some v)=>o.cell a (k*4+j) v ((KM l k m j i).trans n);exact⟨g,a,e,by unfold maxLen at b;exact b,c 0 (by omega) _ rfl,c 1 (by omega) _ rfl,c 2 (by omega) _ rfl,c 3 (by omega) _ rfl⟩
theorem IB(b:S<f.length) :
  bW o D n S (f.drop S) v=if(f[S].1.toList == [41])=true then((S+1,cM),v)
   else match jo o f[S].1 D with
    | none=>((0,(2,f[S].2)),v)
    | some a=>if ja v a=true then((0,(3,f[S].2)),v) else bW o D n (S+1) (f.drop (S+1)) (v++[a]):=by
 rw[Sq b];rfl
theorem Eg(a:¬S<f.length):bW o D n S (f.drop S) v=((0,(3,n)),v):=by
 rw[Tv (by omega)];rfl
set_option maxRecDepth 100000
theorem yF(b:Nat)(l:List St)(s:Nat->Hd)(w0 r:World)(h:dY r a d I)(ap:f9 w0 H w l s)(an:aa [] w0 r)(ha:b<l.length)(ok:lu l)(bj:d.names.length<=10000)(hb:w0.heap.size<=a)(hc:∀x,gO I x->w0.heap.size<=x) :
  Calls prog 184 #[pointer (some ⟨a,0,none⟩),pointer (some ⟨H,w,none⟩),int i64 b] r fun e w' =>
   e=returned (tuple #[int i64 (bW l b l[b].fin 1 (l[b].Wp.drop 1) d.names).1.1,ij (bW l b l[b].fin 1 (l[b].Wp.drop 1) d.names).1.2])/\∃al,dY w' a { d with names:=(bW l b l[b].fin 1 (l[b].Wp.drop 1) d.names).2 } al/\aB a r I w' al:=by
 obtain⟨i0,aT,a5,a6,a7⟩:=Sr zl;have bg:=bi.lt h;have hr:=ap.Wj an;have be:=ok.len;have br:=ok.prfs b ha;have af:Hid (∀k,r.heap.size<=k->¬gO I k):=fun k hk hm=>by have:=bi.inlt h hm;omega
 obtain⟨AO,ad⟩:∃AO,Hid ((s (11+2*b)).ao=AO):=⟨_,rfl⟩
 obtain⟨W,hW⟩:∃W,W=r.alloc (.cells #[int i64 0,string ⟨#[]⟩,int i64 0,int i64 0] 165):=⟨_,rfl⟩
 have K:=fN hW.symm;have BF:W.heap[r.heap.size]?=some (.cells bD 165):=by rw[hW];exact R2 _ _
 have HW:Hid _:=hW.symm;clear hW;go_enter func184,ntmps184;go_upto_region 1 with fail
 rw[HW.out];go_wp2_with fail;refine(bG H w b l s _ (hr.Wj K) ha).mono ?_;rintro e C ⟨rfl,G⟩;unfold fL;rw[ad.out];obtain⟨W2,A⟩:∃W2,W2=C.alloc (.cells #[int i64 l[b].kind,string l[b].label,slice (s (10+2*b)).ao l[b].We.length (s (10+2*b)).cap,slice AO l[b].Wp.length (s (11+2*b)).cap,string l[b].fin.file,int i64 l[b].fin.line,int i64 l[b].fin.col,int i64 l[b].til] 158):=⟨_,rfl⟩
 have ag:Hid _:=A.symm;have K2:aa [] r W2:=by rw[A];exact(K.trans G).alloc _
 have BT:=fY A.symm;have ac:W2.heap[r.heap.size]?=some (.cells bD 165):=by rw[A];exact((aa.refl [] _).alloc _).get (G.get BF (by simp)) (by simp)
 have bs:r.heap.size<C.heap.size:=by have:=ae (G.get BF (by simp));omega
 clear A;go_upto_region 2 with fail
 rw[ag.out];clear HW ag G BF K;obtain⟨TB,S⟩:∃TB:Array Value,TB=#[int i64 l[b].kind,string l[b].label,slice (s (10+2*b)).ao l[b].We.length (s (10+2*b)).cap,slice AO l[b].Wp.length (s (11+2*b)).cap,string l[b].fin.file,int i64 l[b].fin.line,int i64 l[b].fin.col,int i64 l[b].til]:=⟨_,rfl⟩
 rw[<-S]at BT;have z:Hid _:=S;clear S;go_wp2
 go_loopg [9] (l[b].Wp.length-1) (fun gk iv wr=>∃(i:Nat) (c:List Nat) (p:Nat->Hd),1<=i/\i<=10001/\gk=l[b].Wp.length-i/\iv=int i64 i/\c.length<=10000+i/\Hid (bW l b l[b].fin 1 (l[b].Wp.drop 1) d.names=bW l b l[b].fin i (l[b].Wp.drop i) c)/\dY wr a { d with names:=c } p/\aB a r I wr p /\
  wr.heap[r.heap.size]?=some (.cells bD 165)/\wr.heap[C.heap.size]?=some (.cells TB 158)/\¬gO p r.heap.size/\¬gO p C.heap.size)
 case atStart=>exact⟨1,d.names,I,by omega,by omega,rfl,rfl,by omega,rfl,h.Wj K2,(aB.refl _ _ _).Wj K2,ac,BT,af.out _ (by omega),af.out _ (by omega)⟩
 case round =>
  obtain⟨i,c,p,bl,bo,hg,rfl,bp,hR,hC,hT,B1,M,n1,n2⟩:=hrel;clear BT ac K2;have hP:∀x,(x=a∨gO I x)->w0.heap.size<=x:=by
   rintro x (e | e)
   ·omega
   ·exact hc x e
  have U:f9 wr H w l s:=ap.Wj (an.ofP hT.1 hP);have R:=U.Wv.prfs b l[b] (RQ ha);have bc:=ae B1;have bd:=ae M;obtain⟨X,Y,Z,z3⟩:=dm B1;have yz:=am B1;by_cases T:i<l[b].Wp.length
  ·obtain⟨gp,ep,ba,az,d0,d1,d2,d3⟩:=R.word i T;obtain rfl:AO=some ⟨gp,0,none⟩:=ad.out.symm.trans ep;have ax:Hid _:=ep;have t3:wr.cell? ⟨C.heap.size,3,none⟩=some (slice (some ⟨gp,0,none⟩) l[b].Wp.length (s (11+2*b)).cap):=(by rw[aj M,z.out];rfl);clear ep;have BL:=IB l b l[b].fin i l[b].Wp c T;have o:Hid _:=hR.out.trans BL;clear BL hR R;generalize hwd:l[b].Wp[i]=wd at *;obtain⟨t,pf,pl,pc⟩:=wd;simp only at d0 d1 d2 d3 o;obtain⟨O,E⟩:∃O,O=wr.alloc (.cells #[string t,string pf,int i64 pl,int i64 pc] 229):=⟨_,rfl⟩
   have N:=fN E.symm;have B5:=fY E.symm;have ai:Hid _:=E.symm;have bk:gp<wr.heap.size:=(U.Wv.prfs b l[b] (RQ ha)).lt (by unfold Hd.blk;rw[ax.out];rfl);clear E;(go_upto_region 6 with fail);rw[ai.out];clear ai d0 d1 d2 d3 t3 X Y Z z3 yz;obtain⟨v0,v1,v2,v3⟩:=BK B5;have C5:=hC.Wj N;have T5:=hT.Wj N;have R5:=U.Wj N;have F5:=N.get B1 (by simp);have S5:=N.get M (by simp);obtain⟨X,Y,Z,z3⟩:=dm F5;have yz:=am F5;have D:Hid _:=fun a0 a1 a2 a3=>vO C5 T5 (F:=r.heap.size) (RV _) (by omega) n1 a0 a1 a2 a3;cases ht:(t.toList == [41])
   ·rcases hf:jo l t b with _ | n
    ·have y:Hid (bW l b l[b].fin 1 (l[b].Wp.drop 1) d.names=((0,(2,⟨pf,pl,pc⟩)),c)):=(by show _=_;rw[o.out,ht,hf];simp);clear o;(go_upto_region 10 with (go_at_call 186;refine(iG H w b t l s _ (by exact R5) (by omega)).mono ?_;rintro e w6 ⟨rfl,B⟩;rw[B,hf];simp only[qe]));go_region
     all_goals go_wp2
     all_goals exact Sa (v:=tuple #[int i64 0,agg #[int i64 2,string pf,int i64 pl,int i64 pc]]) (by simp[results,results184,go_sem,X,Y,Z,z3]) rfl ⟨by rw[y.out];rfl,p,by rw[y.out];exact(dY.Wj (D.out _ _ _ _).1 (aa.refl [] _).drew),aB.Wj (D.out _ _ _ _).2 (aa.refl [] _).drew⟩
    ·obtain⟨k0,k1,k2,k3,k4⟩:=C5.cells;simp only at k0;clear k1 k2 k3 k4;have Q:aC O (p 0) (bL c):=bi.own C5 0;cases hh:ja c n
     ·have y:Hid (bW l b l[b].fin 1 (l[b].Wp.drop 1) d.names=bW l b l[b].fin (i+1) (l[b].Wp.drop (i+1)) (c++[n])):=(by show _=_;rw[o.out,ht,hf];simp[hh]);have P:=C5.Wj ((aa.refl [] O).alloc (.cells #[int i64 n] 3));have aS:=bi.free C5;have bf:=bi.lt C5;have a4:Hid (∀j,j≠0->xC { d with names:=c++[n] } j=xC { d with names:=c } j):=by
       intro j L
       match j,L with
       | 0,L=>exact absurd rfl L
       | 1,_=>rfl
       | 2,_=>rfl
       | m+3,_=>rfl
      clear o D X Y Z z3 yz;(go_upto_region 13 with (first | (go_at_call 186;refine(iG H w b t l s _ (by exact R5) (by omega)).mono ?_;rintro e w6 ⟨rfl,B⟩;rw[B,hf];simp only[qe]) | (go_at_call 217;refine(CX (p 0) c n _ (by exact Q) (by omega)).mono ?_;rintro e w7 ⟨rfl,V⟩;rw[V])));go_wp2_with (at_builtin;refine aO _ rfl (.tmp 56) (.tmp 58) 24 rfl i0 (int i64 0) 8 (p 0) (bL c) underlying24 aT a5 a6 a7 rfl So rfl (by exact bi.own P 0) ⟨_,0,none⟩ 1 1 [int i64 n] rfl rfl ?e1 ?e2 So ?e3 ?e4 ?_)
      case e1=>intro j u L;match j,L with | 0,L=>simp at L;subst L;simp[Addr.add]
      case e2=>intro u hu;simp at hu;subst hu;rfl
      case e3=>simp only[bL];unfold maxLen;omega
      case e4=>simp only[bL];omega
      intro g8 g w8 ar J q;obtain⟨k5,f5,HP⟩:=bi.app P (cs':=lX { d with names:=c++[n] } (ip p 0 ⟨some ⟨g8,0,none⟩,g⟩)) (rows':=xC { d with names:=c++[n] }) 0 0 g8 g ((bL c).n+1) _ ar (m9 c n) J (by simpa using q) a4.out (slice (p 0).ao c.length (p 0).cap) rfl (by simp[lX,ip,bL]);have T8:Hid _:=(T5.Wj ((aa.refl [] O).alloc (.cells #[int i64 n] 3))).trans HP.out.2;have F8:Hid ((w8.setCell ⟨a,0,none⟩ (slice (some ⟨g8,0,none⟩) ((bL c).n+1) g)).heap[r.heap.size]?=some (.cells bD 165)):=HP.out.2.1.get (((aa.refl [] O).alloc _).get F5 (by simp)) (by rintro (e | e);omega;exact n1 e);have S8:Hid ((w8.setCell ⟨a,0,none⟩ (slice (some ⟨g8,0,none⟩) ((bL c).n+1) g)).heap[C.heap.size]?=some (.cells TB 158)):=HP.out.2.1.get (((aa.refl [] O).alloc _).get S5 (by simp)) (by rintro (e | e);omega;exact n2 e);have m1:Hid (¬gO (ip p 0 ⟨some ⟨g8,0,none⟩,g⟩) r.heap.size):=aB.fresh HP.out.2 _ (by have:=N.size;simp;omega) n1;have m2:Hid (¬gO (ip p 0 ⟨some ⟨g8,0,none⟩,g⟩) C.heap.size):=aB.fresh HP.out.2 _ (by have:=N.size;simp;omega) n2;clear ar J q k0 aS Q P v0 v1 v2 v3;go_wp2;go_roundg (l[b].Wp.length-(i+1))
      case measure=>omega
      case rel=>exact⟨i+1,c++[n],_,by omega,by omega,rfl,by go_num,by simp;omega,y.out,HP.out.1,T8.out,F8.out,S8.out,m1.out,m2.out⟩
     ·have y:Hid (bW l b l[b].fin 1 (l[b].Wp.drop 1) d.names=((0,(3,⟨pf,pl,pc⟩)),c)):=(by show _=_;rw[o.out,ht,hf];simp[hh]);clear o;(go_upto_region 12 with (first | (go_at_call 186;refine(iG H w b t l s _ (by exact R5) (by omega)).mono ?_;rintro e w6 ⟨rfl,B⟩;rw[B,hf];simp only[qe]) | (go_at_call 217;refine(CX (p 0) c n _ (by exact Q) (by omega)).mono ?_;rintro e w7 ⟨rfl,V⟩;rw[V])));go_region
      all_goals go_wp2
      all_goals exact Sa (v:=tuple #[int i64 0,agg #[int i64 3,string pf,int i64 pl,int i64 pc]]) (by simp[results,results184,go_sem,X,Y,Z,z3]) rfl ⟨by rw[y.out];rfl,p,by rw[y.out];exact(dY.Wj (D.out _ _ _ _).1 (aa.refl [] _).drew),aB.Wj (D.out _ _ _ _).2 (aa.refl [] _).drew⟩
   ·have y:Hid (bW l b l[b].fin 1 (l[b].Wp.drop 1) d.names=((i+1,cM),c)):=(by show _=_;rw[o.out,ht];simp);clear o;go_wp2;exact Sa (v:=tuple #[int i64 (i+1),agg #[int i64 0,string ⟨#[]⟩,int i64 0,int i64 0]]) (by simp[results,results184,go_sem,X,Y,Z,z3]) rfl
     ⟨by rw[y.out];rfl,p,by rw[y.out];exact(D.out _ _ _ _).1,(D.out _ _ _ _).2⟩
  ·have y:Hid (bW l b l[b].fin 1 (l[b].Wp.drop 1) d.names=((0,(3,l[b].fin)),c)):=hR.out.trans (Eg l b l[b].fin i l[b].Wp c T);have t3:wr.cell? ⟨C.heap.size,3,none⟩=some (slice AO l[b].Wp.length (s (11+2*b)).cap):=(by rw[aj M,z.out];rfl);have t4:wr.cell? ⟨C.heap.size,4,none⟩=some (string l[b].fin.file):=(by rw[aj M,z.out];rfl);have t5:wr.cell? ⟨C.heap.size,5,none⟩=some (int i64 l[b].fin.line):=(by rw[aj M,z.out];rfl);have t6:wr.cell? ⟨C.heap.size,6,none⟩=some (int i64 l[b].fin.col):=(by rw[aj M,z.out];rfl);have D:Hid _:=(fun a0 a1 a2 a3=>vO hC hT (F:=r.heap.size) (RV _) (by omega) n1 a0 a1 a2 a3);clear hR R;(go_upto_region 14 with fail);go_region
   all_goals go_wp2
   all_goals exact Sa (v:=tuple #[int i64 0,agg #[int i64 3,string l[b].fin.file,int i64 l[b].fin.line,int i64 l[b].fin.col]]) (by simp[results,results184,go_sem,X,Y,Z,z3]) rfl ⟨by rw[y.out];rfl,p,by rw[y.out];exact(dY.Wj (D.out _ _ _ _).1 (aa.refl [] _).drew),aB.Wj (D.out _ _ _ _).2 (aa.refl [] _).drew⟩
def dP(l:List St)(a:Nat)(fin:Pl):List (ByteArray×Pl)->List kK->List kK×oL
 | [],acc=>if acc.length=0 then([],(1,fin)) else(acc,cM)
 | (t,p) :: r,acc =>
  if(t.toList == [63])=true then dP l a fin r (acc++[⟨1,0,p⟩])
  else match jo l t a with
   | none=>([],(2,p))
   | some n=>dP l a fin r (acc++[⟨2,n,p⟩])
theorem Mx(a:S<f.length) :
  dP o D n (f.drop S) z4=if(f[S].1.toList == [63])=true then dP o D n (f.drop (S+1)) (z4++[⟨1,0,f[S].2⟩])
   else match jo o f[S].1 D with
    | none=>([],(2,f[S].2))
    | some b=>dP o D n (f.drop (S+1)) (z4++[⟨2,b,f[S].2⟩]):=by
 rw[Sq a];rfl
theorem Jz(a:¬S<f.length):dP o D n (f.drop S) z4=if z4.length=0 then([],(1,n)) else(z4,cM):=by
 rw[Tv (by omega)];rfl
theorem kO{F:Nat}(K:aa [] y N)(a:y.heap.size<=F)(b c d e:Value):aa [] y ((((N.setCell ⟨F,0,none⟩ b).setCell ⟨F,1,none⟩ c).setCell ⟨F,2,none⟩ d).setCell ⟨F,3,none⟩ e) :=
 (((K.setCell (RZ a) _).setCell (RZ a) _).setCell (RZ a) _).setCell (RZ a) _
theorem QT(K:aa [] y N)(a:y.heap.size<=T)(b c d e f:Value):aa [] y (((((N.setCell ⟨T,0,none⟩ b).setCell ⟨T,1,none⟩ c).setCell ⟨T,2,none⟩ d).setCell ⟨T,3,none⟩ e).setCell ⟨T,4,none⟩ f) :=
 ((((K.setCell (RZ a) _).setCell (RZ a) _).setCell (RZ a) _).setCell (RZ a) _).setCell (RZ a) _
theorem qk(l:List St)(q:Nat->Hd)(J:World)(hr:f9 J S H l q)(ha:w<l.length)(ok:lu l) :
  Calls prog 140 #[pointer (some ⟨S,H,none⟩),int i64 w] J fun e w'=>∃k:Hd,
   e=returned (tuple #[slice k.ao (dP l w l[w].fin l[w].Wp []).1.length k.cap,ij (dP l w l[w].fin l[w].Wp []).2])/\aC w' k (gU (dP l w l[w].fin l[w].Wp []).1)/\(∀x,k.blk=some x->J.heap.size<=x)/\aa [] J w':=by
 obtain⟨i0,ai,an,O,ap⟩:=Sr Pv;have a7:=hr.lt;have a5:=ok.len;have bc:=ok.prfs w ha;obtain⟨AO,ac⟩:∃AO,Hid ((q (11+2*w)).ao=AO):=⟨_,rfl⟩
 obtain⟨W,hW⟩:∃W,W=J.alloc (.cells #[int i64 0,string ⟨#[]⟩,int i64 0,int i64 0] 165):=⟨_,rfl⟩
 have K:=fN hW.symm;have BF:W.heap[J.heap.size]?=some (.cells bD 165):=by rw[hW];exact R2 _ _
 have HW:Hid _:=hW.symm;clear hW;go_enter func140,ntmps140;go_upto_region 1 with fail
 rw[HW.out];go_wp2_with fail;refine(bG S H w l q _ (hr.Wj K) ha).mono ?_;rintro e Q ⟨rfl,N⟩;unfold fL;rw[ac.out];obtain⟨p,E⟩:∃p,p=Q.alloc (.cells #[int i64 l[w].kind,string l[w].label,slice (q (10+2*w)).ao l[w].We.length (q (10+2*w)).cap,slice AO l[w].Wp.length (q (11+2*w)).cap,string l[w].fin.file,int i64 l[w].fin.line,int i64 l[w].fin.col,int i64 l[w].til] 158):=⟨_,rfl⟩
 have ad:Hid _:=E.symm;have K2:aa [] J p:=by rw[E];exact(K.trans N).alloc _
 obtain⟨TB,X⟩:∃TB:Array Value,TB=#[int i64 l[w].kind,string l[w].label,slice (q (10+2*w)).ao l[w].We.length (q (10+2*w)).cap,slice AO l[w].Wp.length (q (11+2*w)).cap,string l[w].fin.file,int i64 l[w].fin.line,int i64 l[w].fin.col,int i64 l[w].til]:=⟨_,rfl⟩
 have BT:p.heap[Q.heap.size]?=some (.cells TB 158):=by rw[E,X];exact R2 _ _
 have ax:p.heap[J.heap.size]?=some (.cells bD 165):=by rw[E];exact((aa.refl [] _).alloc _).get (N.get BF (by simp)) (by simp)
 have bd:J.heap.size<Q.heap.size:=by have:=ae (N.get BF (by simp));omega
 have bf:=ae BT;have A:Hid _:=X;clear E X;go_upto_region 2 with fail
 rw[ad.out];clear HW ad N BF K;go_wp2
 go_loopg [7,8] l[w].Wp.length (fun gk sv iv wr=>∃(i:Nat) (a:List kK) (k:Hd),i<=l[w].Wp.length/\gk=l[w].Wp.length-i/\iv=int i64 i/\sv=slice k.ao a.length k.cap/\a.length<=i/\Hid (dP l w l[w].fin l[w].Wp []=dP l w l[w].fin (l[w].Wp.drop i) a)/\aC wr k (gU a)/\(∀x,k.blk=some x->p.heap.size<=x) /\
  aa [] p wr)
 case atStart=>exact⟨0,[],⟨none,0⟩,by omega,by omega,rfl,rfl,by simp,rfl,Sb _ _ _ _,by intro x g;simp[Hd.blk]at g,aa.refl _ _⟩
 case round =>
  obtain⟨i,a,k,hi,hg,rfl,rfl,a6,hR,hO,hN,hK⟩:=hrel;have KW:=K2.trans hK;have al:=hr.Wj KW;have B1:=hK.get ax (by simp);have B2:=hK.get BT (by simp);have a3:=ae B1;have a4:=ae B2;obtain⟨z0,z1,z2,z3⟩:=dm B1;have yz:=am B1;have M:=al.Wv.prfs w l[w] (RQ ha);have a0:=K2.size;by_cases Y:i<l[w].Wp.length
  ·obtain⟨gp,ep,a2,aS,d0,d1,d2,d3⟩:=M.word i Y;obtain rfl:AO=some ⟨gp,0,none⟩:=ac.out.symm.trans ep;have t3:wr.cell? ⟨Q.heap.size,3,none⟩=some (slice (some ⟨gp,0,none⟩) l[w].Wp.length (q (11+2*w)).cap):=(by rw[aj B2,A.out];rfl);have ba:gp<wr.heap.size:=M.lt (by unfold Hd.blk;rw[ep];rfl);clear ep;have BL:=Mx l w l[w].fin i l[w].Wp a Y;have o:Hid _:=hR.out.trans BL;clear BL hR M;generalize hwd:l[w].Wp[i]=wd at *;obtain⟨t,d,f,c⟩:=wd;simp only at d0 d1 d2 d3 o;obtain⟨s,F⟩:∃s,s=(wr.alloc (.cells #[string t,string d,int i64 f,int i64 c] 229)).alloc (.cells #[int i64 1,int i64 0,string d,int i64 f,int i64 c] 174):=⟨_,rfl⟩
   have K5:aa [] wr s:=(by rw[F];exact((aa.refl [] _).alloc _).alloc _);have B5:s.heap[wr.heap.size]?=some (.cells #[string t,string d,int i64 f,int i64 c] 229):=(by rw[F];exact((aa.refl [] _).alloc _).get (R2 _ _) (by simp));have S5:s.heap[wr.heap.size+1]?=some (.cells #[int i64 1,int i64 0,string d,int i64 f,int i64 c] 174):=by
    rw[F];have:=R2 (wr.alloc (.cells #[string t,string d,int i64 f,int i64 c] 229)) (.cells #[int i64 1,int i64 0,string d,int i64 f,int i64 c] 174);simpa using this
   have af:Hid _:=F.symm;clear F;(go_upto_region 8 with fail);rw[af.out];clear af d0 d1 d2 d3 t3 z0 z1 z2 z3 yz;obtain⟨v0,v1,v2,v3⟩:=BK B5;obtain⟨u0,u1,u2,u3,u4⟩:=nR S5;have yu:=am S5;have L:aC s k (gU a):=hO.Wo (fun x g=>K5.block x (hO.lt g) (by simp));have R5:=al.Wj K5;have F5:=K5.get B1 (by simp);obtain⟨z0,z1,z2,z3⟩:=dm F5;have yz:=am F5;have R:Hid (aa [] p s):=hK.trans K5;have be:=ae S5;cases ht:(t.toList == [63])
   ·have a1:(t.toList != [63])=true:=(by simp[bne,ht]);rcases hf:jo l t w with _ | n
    ·have y:Hid (dP l w l[w].fin l[w].Wp []=([],(2,⟨d,f,c⟩))):=(by show _=_;rw[o.out,ht,hf];simp);clear o;(go_upto_region 11 with (go_at_call 186;refine(iG S H w t l q _ (by exact R5) (by omega)).mono ?_;rintro e w6 ⟨rfl,Z⟩;rw[Z,hf];simp only[qe]));go_region
     all_goals go_wp2
     all_goals exact Sa (v:=tuple #[slice none 0 0,agg #[int i64 2,string d,int i64 f,int i64 c]]) (by simp[results,results140,go_sem,z0,z1,z2,z3]) rfl ⟨⟨none,0⟩,by rw[y.out];rfl,by rw[y.out];exact Sb _ _ _ _,by intro x g;simp[Hd.blk]at g,(kO (K2.trans R.out) (RV _) _ _ _ _).drew⟩
    ·have y:Hid (dP l w l[w].fin l[w].Wp []=dP l w l[w].fin (l[w].Wp.drop (i+1)) (a++[⟨2,n,⟨d,f,c⟩⟩])):=(by show _=_;rw[o.out,ht,hf];simp);clear o;obtain⟨B,G⟩:∃B,B=((((s.setCell ⟨wr.heap.size+1,0,none⟩ (int i64 2)).setCell ⟨wr.heap.size+1,1,none⟩ (int i64 n)).setCell ⟨wr.heap.size+1,2,none⟩ (string d)).setCell ⟨wr.heap.size+1,3,none⟩ (int i64 f)).setCell ⟨wr.heap.size+1,4,none⟩ (int i64 c):=⟨_,rfl⟩
     have ar:aa [wr.heap.size+1] s B:=(by rw[G];exact((((((aa.refl _ _).setCell (R4 (by simp)) _).setCell (R4 (by simp)) _).setCell (R4 (by simp)) _).setCell (R4 (by simp)) _).setCell (R4 (by simp)) _));have S6:B.heap[wr.heap.size+1]?=some (.cells #[int i64 2,int i64 n,string d,int i64 f,int i64 c] 174):=by
      rw[G,ah (ah (ah (ah (ah S5 _ _) _ _) _ _) _ _)];rfl
     have az:Hid (aa [] p B):=by
      show aa [] p B;rw[G];exact QT R.out (by have:=hK.size;omega) _ _ _ _ _
     have P:aC B k (gU a):=L.Wo (fun x g=>ar.block x (L.lt g) (by simp;rintro rfl;have:=hO.lt g;omega));have ag:Hid _:=G.symm;clear G ar;(go_upto_region 13 with (go_at_call 186;refine(iG S H w t l q _ (by exact R5) (by omega)).mono ?_;rintro e w6 ⟨rfl,Z⟩;rw[Z,hf];simp only[qe]));rw[ag.out];clear ag u0 u1 u2 u3 u4 yu;obtain⟨u0,u1,u2,u3,u4⟩:=nR S6;have D:=P.Wo (fun x g=>((aa.refl [] B).alloc (.cells #[int i64 2,int i64 n,string d,int i64 f,int i64 c] 174)).block x (P.lt g) (by simp));have K6:Hid (aa [] p (B.alloc (.cells #[int i64 2,int i64 n,string d,int i64 f,int i64 c] 174))):=aa.alloc az.out _;clear z0 z1 z2 z3 yz v0 v1 v2 v3;go_wp2_with (at_builtin;refine aO _ rfl (.tmp 47) (.tmp 49) 163 rfl i0 (agg #[int i64 0,int i64 0,string ⟨#[]⟩,int i64 0,int i64 0]) 48 k (gU a) underlying163 ai an O ap rfl (Vh 4) rfl (by exact D) ⟨_,0,none⟩ 1 1 (lD ⟨2,n,⟨d,f,c⟩⟩) rfl rfl ?e1 (uQ _) So ?e3 ?e4 ?_)
     case e1 =>
      intro j u hj;have hk:(B.alloc (.cells #[int i64 2,int i64 n,string d,int i64 f,int i64 c] 174)).heap[B.heap.size]?=some (.cells #[int i64 2,int i64 n,string d,int i64 f,int i64 c] 174):=R2 _ _;rw[bS,aj hk];simpa [lD] using hj
     case e3=>simp only[gU];unfold maxLen;omega
     case e4=>simp only[gU];omega
     intro T C w8 I m b;rw[uL a ⟨2,n,⟨d,f,c⟩⟩]at I;have V:=(K6.out).grown m hN;have aT:p.heap.size<=T:=by
      rcases b with e | e
      ·exact hN T e
      ·have:=K6.out.size;simp at e this;omega
     have U:Hid ((gU a).n+1=(a++[(⟨2,n,⟨d,f,c⟩⟩:kK)]).length):=(by show _=_;simp[gU]);rw[U.out];clear m b D;go_wp2;go_roundg (l[w].Wp.length-(i+1))
     case measure=>omega
     case rel=>exact⟨i+1,a++[⟨2,n,⟨d,f,c⟩⟩],⟨some ⟨T,0,none⟩,C⟩,by omega,rfl,by go_num,rfl,by simp;omega,y,I,by intro x g;simp[Hd.blk]at g;omega,V⟩
   ·have a1:(t.toList != [63])=false:=(by simp[bne,ht]);have y:Hid (dP l w l[w].fin l[w].Wp []=dP l w l[w].fin (l[w].Wp.drop (i+1)) (a++[⟨1,0,⟨d,f,c⟩⟩])):=(by show _=_;rw[o.out,ht];simp);clear o;have D:=L.Wo (fun x g=>((aa.refl [] s).alloc (.cells #[int i64 1,int i64 0,string d,int i64 f,int i64 c] 174)).block x (L.lt g) (by simp));have K6:Hid (aa [] p (s.alloc (.cells #[int i64 1,int i64 0,string d,int i64 f,int i64 c] 174))):=aa.alloc R.out _;clear z0 z1 z2 z3 yz;(go_upto_region 13 with fail);clear v0 v1 v2 v3;go_wp2_with (at_builtin;refine aO _ rfl (.tmp 47) (.tmp 49) 163 rfl i0 (agg #[int i64 0,int i64 0,string ⟨#[]⟩,int i64 0,int i64 0]) 48 k (gU a) underlying163 ai an O ap rfl (Vh 4) rfl (by exact D) ⟨_,0,none⟩ 1 1 (lD ⟨1,0,⟨d,f,c⟩⟩) rfl rfl ?e1 (uQ _) So ?e3 ?e4 ?_)
    case e1 =>
     intro j u hj;have hk:(s.alloc (.cells #[int i64 1,int i64 0,string d,int i64 f,int i64 c] 174)).heap[s.heap.size]?=some (.cells #[int i64 1,int i64 0,string d,int i64 f,int i64 c] 174):=R2 _ _;rw[bS,aj hk];simpa [lD] using hj
    case e3=>simp only[gU];unfold maxLen;omega
    case e4=>simp only[gU];omega
    intro T C w8 I m b;rw[uL a ⟨1,0,⟨d,f,c⟩⟩]at I;have V:=(K6.out).grown m hN;have aT:p.heap.size<=T:=by
     rcases b with e | e
     ·exact hN T e
     ·have:=K6.out.size;simp at e this;omega
    have U:Hid ((gU a).n+1=(a++[(⟨1,0,⟨d,f,c⟩⟩:kK)]).length):=(by show _=_;simp[gU]);rw[U.out];clear m b D;go_wp2;go_roundg (l[w].Wp.length-(i+1))
    case measure=>omega
    case rel=>exact⟨i+1,a++[⟨1,0,⟨d,f,c⟩⟩],⟨some ⟨T,0,none⟩,C⟩,by omega,rfl,by go_num,rfl,by simp;omega,y,I,by intro x g;simp[Hd.blk]at g;omega,V⟩
  ·have y:Hid (dP l w l[w].fin l[w].Wp []=if a.length=0 then([],(1,l[w].fin)) else(a,cM)):=hR.out.trans (Jz l w l[w].fin i l[w].Wp a Y);have t3:wr.cell? ⟨Q.heap.size,3,none⟩=some (slice AO l[w].Wp.length (q (11+2*w)).cap):=(by rw[aj B2,A.out];rfl);have t4:wr.cell? ⟨Q.heap.size,4,none⟩=some (string l[w].fin.file):=(by rw[aj B2,A.out];rfl);have t5:wr.cell? ⟨Q.heap.size,5,none⟩=some (int i64 l[w].fin.line):=(by rw[aj B2,A.out];rfl);have t6:wr.cell? ⟨Q.heap.size,6,none⟩=some (int i64 l[w].fin.col):=(by rw[aj B2,A.out];rfl);clear hR M;by_cases hz:a.length=0
   ·have O:((a.length:Int)==0)=true:=(by simp[hz]);have z:Hid (dP l w l[w].fin l[w].Wp []=([],(1,l[w].fin))):=(by show _=_;rw[y.out,RY hz]);clear y hz;(go_upto_region 15 with fail);go_region
    all_goals go_wp2
    all_goals exact Sa (v:=tuple #[slice none 0 0,agg #[int i64 1,string l[w].fin.file,int i64 l[w].fin.line,int i64 l[w].fin.col]]) (by simp[results,results140,go_sem,z0,z1,z2,z3]) rfl ⟨⟨none,0⟩,by rw[z.out];rfl,by rw[z.out];exact Sb _ _ _ _,by intro x g;simp[Hd.blk]at g,(kO KW (RV _) _ _ _ _).drew⟩
   ·have O:((a.length:Int)==0)=false:=Sp.2 (by omega);have z:Hid (dP l w l[w].fin l[w].Wp []=(a,cM)):=(by show _=_;rw[y.out,RU hz]);clear y hz;go_wp2;exact Sa (v:=tuple #[slice k.ao a.length k.cap,agg #[int i64 0,string ⟨#[]⟩,int i64 0,int i64 0]]) (by simp[results,results140,go_sem,z0,z1,z2,z3]) rfl
     ⟨k,by rw[z.out];rfl,by rw[z.out];exact hO.Wo (fun x g=>(jE (r:=J.heap.size) _ _ _ _).block x (hO.lt g) (by simp;rintro rfl;have:=hN _ g;omega)),fun x g=>Sc a0 (hN x g),kO KW (RV _) _ _ _ _⟩
def pt:List (ByteArray×Pl)->lj->oL×lj
 | [],c=>(cM,c)
 | (t,p) :: r,c=>if((lV t p c).1.1==0)=true then pt r (lV t p c).2 else lV t p c
def Bt(f:oL)(ws:List (ByteArray×Pl))(c:lj):oL×lj:=if(f.1==0)=true then pt ws c else(f,c)
theorem Qq(a:w<f.length)(h:(g.1==0)=true):Bt g (f.drop w) i=Bt (lV f[w].1 f[w].2 i).1 (f.drop (w+1)) (lV f[w].1 f[w].2 i).2:=by
 unfold Bt;rw[RY h,Sq a];rfl
theorem OE(a:¬w<f.length)(h:(g.1==0)=true):Bt g (f.drop w) i=(cM,i):=by
 unfold Bt;rw[RY h,Tv (by omega)];rfl
theorem GY(h:(g.1==0)=false):Bt g f i=(g,i):=by
 unfold Bt;rw[RU (by rw[h];simp)]
theorem yT(b:List (ByteArray×Pl))(i:Nat)(a:List Nat):(bW o D n i b a).1.1<=i+b.length/\(bW o D n i b a).2.length<=a.length+b.length:=by
 induction b generalizing i a with
 | nil=>simp[bW]
 | cons x r c =>
  obtain⟨t,p⟩:=x;rw[bW];split
  ·simp
  ·split
   ·simp
   ·split
    ·simp
    ·next d _ _=>have:=c (i+1) (a++[d]);simp at this ⊢;omega
theorem iY.mono{M:Nat}(h:iY m T)(k:T<=M):iY m M:=⟨Sc h.names k,Sc h.Wr k,Sc h.steps k,by have:=h.Wl;omega,h.behind⟩
theorem Gc(f:Nat):∀(j:Nat) (c:lj) (N:Nat),iY c (N+j)->j<=k.size->iY (gK k n f j c).2 (N+k.size):=by
 induction f with
 | zero=>intro j c N h d;exact h.mono (by omega)
 | succ f g =>
  intro j c N h d;rw[gK];split
  ·next e =>
   have a:=h.letter (aH k j).toNat { n with col:=n.col+j };split
   ·exact g (j+1) _ N (by rw[<-UR];exact a) (by omega)
   ·exact a.mono (by omega)
  ·exact h.mono (by omega)
theorem zQ(h:iY m T):iY (lV k n m).2 (T+k.size):=Gc k n _ 0 m T h (SE _)
def kG(ws:List (ByteArray×Pl)):Nat:=(ws.map (fun x=>x.1.size)).sum
theorem Fz(a:w<f.length):kG (f.drop w)=f[w].1.size+kG (f.drop (w+1)):=by
 have e:=Sq a;simp only[kG];rw[e];rfl
theorem Dq(a:List (ByteArray×Pl))(i:Nat):kG (a.drop i)<=kG a:=by
 induction i generalizing a with
 | zero=>simp
 | succ i b =>
  cases a with
  | nil=>simp
  | cons x r=>have:=b r;simp[kG]at this ⊢;omega
structure yN(s:St):Prop where
 size:kG s.Wp<=1000000
 col:∀x∈s.Wp,-1000000000<=x.2.col/\x.2.col<=1000000000
def yX(l:List St)(a:Nat)(s:St):oL×lj :=
 Bt (bW l a s.fin 1 (s.Wp.drop 1) (aN l a)).1.2 (s.Wp.drop (bW l a s.fin 1 (s.Wp.drop 1) (aN l a)).1.1) ⟨(bW l a s.fin 1 (s.Wp.drop 1) (aN l a)).2,[],[],0,false⟩
def ng(fin:Pl)(R:oL×lj):List kK×oL :=
 if(R.1.1==0)=true then
  (if R.2.Wl=0 then(if R.2.steps.length=0 then([],(1,fin)) else(R.2.steps,cM)) else([],(4,fin)))
 else([],R.1)
def kM(l:List St)(a:Nat)(s:St):List kK×oL:=ng s.fin (yX l a s)
def yA(hd:Hd):Nat->Hd
 | 0=>hd
 | _+1=>⟨none,0⟩
theorem NV{cs:List Value}{rows:Nat->eB}(o:aC y L (rows 0))(n:∀i,aC (y.alloc (.cells cs.toArray T)) ⟨none,0⟩ (rows (i+1))):bi (y.alloc (.cells cs.toArray T)) y.heap.size T cs rows (yA L):=by
 refine⟨R2 _ _,?_,?_,?_⟩
 ·intro i;cases i with
  | zero=>exact o.Wo (fun x c=>((aa.refl [] y).alloc _).block x (o.lt c) (by simp))
  | succ i=>exact n i
 ·intro i j a;cases i with
  | zero =>
   cases j with
   | zero=>exact absurd rfl a
   | succ j =>
    have b:(yA L (j+1)).blk=none:=rfl;rw[b,show yA L 0=L from rfl];cases h:L.blk with
    | none=>exact R4 rfl
    | some x=>right;simp
  | succ i=>left;rfl
 ·intro i;cases i with
  | zero=>intro e;have:=o.lt e;omega
  | succ i=>intro e;simp[yA,Hd.blk]at e
theorem OD(h:gO (yA L) T):L.blk=some T:=by
 obtain⟨i,a⟩:=h;cases i with
 | zero=>exact a
 | succ i=>simp[yA,Hd.blk]at a
def yM(p:Pl):Prop:=(-1000000000<=p.col/\p.col<=1000000000)/\KZ p
structure Gd(d:Db)(m:Nat):Prop where
 bnd:nZ d m
 now:kG d.Wp<=m/\∀x∈d.Wp,yM x.2
 Wv:∀s∈d.Wv,0<s.We.length/\s.We.length<=m/\s.Wp.length<=m/\kG s.Wp<=m/\(∀x∈s.Wp,yM x.2)/\yM s.fin
theorem FB(x:ByteArray×Pl):kG (f++[x])=kG f+x.1.size:=by
 simp[kG]
theorem EZ{l:List St}{s:St}(h:s∈ki l T):∃a∈l,s.We=a.We/\s.Wp=a.Wp/\s.fin=a.fin:=by
 unfold ki gg at h;rw[List.mem_mapIdx]at h;obtain⟨i,b,rfl⟩:=h;refine⟨l[i],Sj b,?_⟩;split
 ·unfold lz;split <;> exact⟨rfl,rfl,rfl⟩
 ·exact⟨rfl,rfl,rfl⟩
theorem Gd.take{d:Db}(h:Gd d T)(x:ByteArray)(p:Pl)(n:Nat)(A:x.size<=n)(w:1<=n)(m:yM p):Gd (aX d x p).2 (T+n):=by
 have t:=(h.bnd.take x p).mono (m':=T+n) (by omega);have z:=h.bnd.Wp;have u:=h.bnd.Wg;refine⟨t,?_,?_⟩
 ·rcases FP d x p with e | e | e
  ·rw[e];exact⟨by have:=h.now.1;omega,h.now.2⟩
  ·rw[e];exact⟨by simp[kG],by simp⟩
  ·rw[e];refine⟨by rw[FB];have:=h.now.1;simp only;omega,fun y g=>?_⟩;rcases SB.1 g with g | g
   ·exact h.now.2 y g
   ·rw[Se.1 g];exact m
 ·rcases Nu d x p with e | ⟨y,_,e⟩ | ⟨e,f⟩
  ·rw[e];intro s a;obtain⟨b,j,k,l,c⟩:=h.Wv s a;exact⟨b,by omega,by omega,by omega,c⟩
  ·rw[e];intro s a;obtain⟨v,i,o,q,r⟩:=EZ a;obtain⟨b,j,k,l,c⟩:=h.Wv v i;rw[o,q,r];exact⟨b,by omega,by omega,by omega,c⟩
  ·rw[e];intro s a;rcases SB.1 a with a | a
   ·obtain⟨b,j,k,l,c⟩:=h.Wv s a;exact⟨b,by omega,by omega,by omega,c⟩
   ·rw[Se.1 a];exact⟨f,by simp only;omega,by simp only;omega,by have:=h.now.1;simp only;omega,h.now.2,m⟩
theorem Gd.empty:Gd fG 0:=⟨nZ.empty,by simp[fG,kG],by simp[fG]⟩
theorem xJ(c:w<=l.size):(bJ l w).1.text.size<=(bJ l w).2-w/\(bJ l w).1.pos<=l.size:=by
 have a:=Ba l w c;have b:=sC l (skip l w) a.2;unfold bJ;simp only;split
 ·exact⟨by simp[ByteArray.size],b.2⟩
 ·split
  ·exact⟨by simp[ByteArray.size],by simp only;omega⟩
  ·refine⟨?_,by simp only;omega⟩;simp only[ByteArray.size_extract];omega
theorem wC(k:Nat)(a:k<=l.size):(bb l k).1.pos<=l.size:=by
 unfold bb;generalize l.size-k+1=f
 induction f generalizing k with
 | zero=>simp[b8,a]
 | succ f c =>
  have b:=(xJ l k a).2;have d:=gZ l k a;rw[b8];split
  ·split
   ·exact b
   ·exact c (bJ l k).2 d.2.1
  ·split
   ·exact b
   ·exact b
theorem E5(k:Nat)(a:k<=l.size):(aK (aA l k).1=true->(aA l k).1.text.size<=(aA l k).2-k)/\(aA l k).1.pos<=l.size:=by
 unfold aA;generalize l.size-k+1=f
 induction f generalizing k with
 | zero=>exact⟨fun h=>by simp[dN,aK]at h,by simp[dN,a]⟩
 | succ f i =>
  have c:=xJ l k a;have b:=gZ l k a;rw[dN];split
  ·have d:=ji l (bJ l k).2 b.2.1;have e:=wC l (bJ l k).2 b.2.1;split
   ·have:=i _ d.2;exact⟨fun h=>by have:=this.1 h;omega,this.2⟩
   ·next g=>exact⟨fun h=>absurd h g,e⟩
  ·exact⟨fun _=>c.1,c.2⟩
theorem LH(c:w<=1024):yM (kR x l w):=by
 have a:=Am l w;have b:=AH l w;unfold yM KZ kR;simp only;omega
def NM(fs:Fs)(bg:List Bool)(m:Nat)(r:Gm):Prop :=
 r.2.1.length=4/\eC fs r.2.1<=eC fs bg/\∃m',Gd r.2.2 m'/\m'+eC fs r.2.1<=m+eC fs bg
theorem IT(a:∀j,j<b.length->(ak b j).size<=1024)(x:Nat):(ak b x).size<=1024:=by
 rcases V5 x b.length with h | h
 ·exact a x h
 ·have:(ak b x).size=0:=by unfold ak;rw[RT,SG h];rfl
  omega
theorem Ko(p:∀j,j<b.length->(ak b j).size<=1024)(f:Nat)(s:∀j a d m,a.length=4->Gd d m->NM b a m (cJ b f j a d))(x k:Nat)(a:List Bool)(d:Db)(m:Nat)(q:k<=(ak b x).size)(o:a.length=4)(l:Gd d m)(r:aK (aA (ak b x) k).1=true) :
  NM b a (m+((aA (ak b x) k).2-k)) (gJ b f x k a d).1/\(aA (ak b x) k).2<=(gJ b f x k a d).2/\(gJ b f x k a d).2<=(ak b x).size:=by
 have e:=fT (ak b x) k q;have w:=e.2.2 r;have y:=E5 (ak b x) k q;have g:=IT b p x;unfold gJ j9;split
 ·unfold nI;split
  ·exact⟨⟨o,RV _,m,l,by simp only;omega⟩,RV _,e.2.1⟩
  ·next j C c =>
   have i:=s j a d m o l;refine⟨⟨i.1,i.2.1,?_⟩,?_⟩
   ·obtain⟨v,z,B⟩:=i.2.2;exact⟨v,z,by simp only;omega⟩
   ·unfold rT at c;have u:=fT (ak b x) (aA (ak b x) k).2 e.2.1;have A:=fT (ak b x) (aA (ak b x) (aA (ak b x) k).2).2 u.2.1
    repeat' split at c
    all_goals first | (cases c;done) | skip
    injection c with c
    injection c with t n
    subst n;omega
 ·refine⟨⟨o,RV _,m+((aA (ak b x) k).2-k),l.take _ _ _ (y.1 r) (by omega) (LH _ _ _ (by omega)),by simp only;omega⟩,RV _,e.2.1⟩
theorem Od(q:∀j,j<b.length->(ak b j).size<=1024)(f:Nat):(∀x k a d m,k<=(ak b x).size->a.length=4->Gd d m->(bA b f x k a d).2.1.length=4/\eC b (bA b f x k a d).2.1<=eC b a/\∃e,Gd (bA b f x k a d).2.2 e/\e+eC b (bA b f x k a d).2.1<=m+((ak b x).size-k)+eC b a) /\
  (∀j a d m,a.length=4->Gd d m->NM b a m (cJ b f j a d)):=by
 have c:∀f,(∀x k a d m,k<=(ak b x).size->a.length=4->Gd d m->(bA b f x k a d).2.1.length=4/\eC b (bA b f x k a d).2.1<=eC b a/\∃e,Gd (bA b f x k a d).2.2 e/\e+eC b (bA b f x k a d).2.1<=m+((ak b x).size-k)+eC b a) ->
   (∀j a d m,a.length=4->Gd d m->NM b a m (cJ b f j a d)):=by
  intro f h j a d m g i;unfold cJ;split
  ·exact⟨g,RV _,m,i,RV _⟩
  ·next y =>
   have o:a.getD j true=false:=(by simpa using y);have G:=xk b a j g o;have:=h j 0 (a.set j true) d m (SE _) (by simpa using g) i;refine⟨this.1,by omega,?_⟩;obtain⟨e,A,I⟩:=this.2.2;exact⟨e,A,by omega⟩
 induction f with
 | zero =>
  have r:∀x k a d m,k<=(ak b x).size->a.length=4->Gd d m->(bA b 0 x k a d).2.1.length=4/\eC b (bA b 0 x k a d).2.1<=eC b a/\∃e,Gd (bA b 0 x k a d).2.2 e/\e+eC b (bA b 0 x k a d).2.1<=m+((ak b x).size-k)+eC b a:=by
   intro x k a d m p g i;exact⟨g,RV _,m,i,by simp only[bA];omega⟩
  exact⟨r,c 0 r⟩
 | succ f t =>
  have s:∀x k a d m,k<=(ak b x).size->a.length=4->Gd d m->(bA b (f+1) x k a d).2.1.length=4/\eC b (bA b (f+1) x k a d).2.1<=eC b a/\∃e,Gd (bA b (f+1) x k a d).2.2 e/\e+eC b (bA b (f+1) x k a d).2.1<=m+((ak b x).size-k)+eC b a:=by
   intro x k a d m p g i;cases n:aK (aA (ak b x) k).1 with
   | true =>
    have H:=fT (ak b x) k p;have F:=Ko b q f t.2 x k a d m p g i n;obtain⟨⟨v,D,u,w,L⟩,M,E⟩:=F;cases l:((gJ b f x k a d).1.1.1==0) with
    | true =>
     rw[zh b f x k a d n l];obtain⟨B,J,z,C,K⟩:=t.1 x (gJ b f x k a d).2 (gJ b f x k a d).1.2.1 (gJ b f x k a d).1.2.2 u E v w;exact⟨B,by omega,z,C,by omega⟩
    | false =>
     rw[oR b f x k a d n l];exact⟨v,D,u,w,by omega⟩
   | false =>
    by_cases l:(aA (ak b x) k).1.fin=true/\lB d=false
    ·rw[Av b f x k a d n l.1 l.2];exact⟨g,RV _,m,i,by simp only;omega⟩
    ·rw[wY b f x k a d n l];exact⟨g,RV _,m,i,by simp only;omega⟩
  exact⟨s,c (f+1) s⟩
def QJ(l:List St):Prop:=∀s∈l,KZ s.fin/\∀x∈s.Wp,KZ x.2
structure Re(l:List St):Prop where
 ok:lu l
 prf:∀i (hi:i<l.length),yN l[i]
 lns:QJ l
theorem xA(d:∀j,j<b.length->(ak b j).size<=1024)(k:Nat):Re (cv b k).2.2.Wv:=by
 obtain⟨_,_,m,a,o⟩:=(Od b d 5000).2 k Gx fG 0 rfl Gd.empty;have l:=AM b d Gx;have g:m<=4104:=by omega
 have n:=a.bnd.Wv;unfold cv;refine⟨⟨by omega,fun i c=>?_,fun i c=>?_,fun i c=>?_⟩,fun i c=>⟨?_,?_⟩,?_⟩
 ·exact(a.Wv _ (Sj c)).1
 ·have:=(a.Wv _ (Sj c)).2.1;omega
 ·have:=(a.Wv _ (Sj c)).2.2.1;omega
 ·have:=(a.Wv _ (Sj c)).2.2.2.1;omega
 ·exact fun x e=>((a.Wv _ (Sj c)).2.2.2.2.1 x e).1
 ·exact fun s f=>⟨(a.Wv s f).2.2.2.2.2.2,fun x e=>((a.Wv s f).2.2.2.2.1 x e).2⟩
end Go.Proofs.YtnbhnocdhbcbcaaGreat
