import Derived.Deep.RegionHeld3
import Derived.Deep.RegionLaw
import Derived.Deep.CutRange
import Derived.Test.YtpdholcaobgofaaGreatP01
namespace Go.Proofs.YtpdholcaobgofaaGreat
open Go.RowKit Tryz
open Value IntKind Ending
set_option maxHeartbeats 0
variable{I:Xu}{f M:World}{L:Xt}{n:Fs}{S N:Nat}{m:List Value}(o:Xt)(H:Nat)(x:Fs)(y:Xr)(b:Fs)(d:Bool)(k a i:Value)(D:Xt)(T:Int)(l:Nat)(w:World)
def mC(w:World)(ao:Xt)(fs:Fs):Prop:=∀k,k<fs.length->∃g o,ao=some ⟨g,o,none⟩/\g<w.heap.size/\w.cell? ⟨g,o+k*2,none⟩=some (string (aI fs k))/\w.cell? ⟨g,o+k*2+1,none⟩=some (string (ak fs k))
theorem mC.Zbw(h:mC f L n)(k:aa I f M)(l:∀a,L=some a->a.block∉I):mC M L n:=by
 intro j m;obtain⟨g,o,e,b,c,d⟩:=h j m;have q:∀i,M.cell? ⟨g,i,none⟩=f.cell? ⟨g,i,none⟩:=fun i=>XJ (k.block g b (l _ e));exact⟨g,o,e,XB b k.size,by rw[q];exact c,by rw[q];exact d⟩
theorem Vj(h:l<b.length):b.take l++[(aI b l,ak b l)]=b.take (l+1):=by
 rw[Zap,Xv h];unfold aI ak;rw[Xw,Xv h];rfl
def I1(w:World)(v:Nat)(fs:Fs):World:=((((((((w.setCell ⟨v,0,none⟩ (string (aI fs 0))).setCell ⟨v,1,none⟩ (string (ak fs 0))).setCell ⟨v,2,none⟩ (string (aI fs 1))).setCell ⟨v,3,none⟩ (string (ak fs 1))).setCell ⟨v,4,none⟩ (string (aI fs 2))).setCell ⟨v,5,none⟩ (string (ak fs 2))).setCell ⟨v,6,none⟩ (string (aI fs 3))).setCell ⟨v,7,none⟩ (string (ak fs 3))).setCell ⟨v,8,none⟩ (int i64 fs.length)
theorem TQ(a:List Value):(((((((((rM x++a).set 0 (string (aI b 0))).set 1 (string (ak b 0))).set 2 (string (aI b 1))).set 3 (string (ak b 1))).set 4 (string (aI b 2))).set 5 (string (ak b 2))).set 6 (string (aI b 3))).set 7 (string (ak b 3))).set 8 (int i64 b.length)=rM b++a:=rfl
theorem bO.over{a:Fs}(h:bO f S N n m)(b:a.length<=4):bO (I1 f S a) S N a m:=by
 refine⟨?_,b⟩;unfold I1;rw[ae (ae (ae (ae (ae (ae (ae (ae (ae h.1 0 _) 1 _) 2 _) 3 _) 4 _) 5 _) 6 _) 7 _) 8 _];simp only[List.setIfInBounds_toArray,TQ]
theorem Lx(h:aa I f M)(a:S∈I∨f.heap.size<=S)(b:Fs):aa I f (I1 M S b) :=
 ((((((((h.setCell a _).setCell a _).setCell a _).setCell a _).setCell a _).setCell a _).setCell a _).setCell a _).setCell a _
theorem bO.nine(h:bO f S N n m) :
  f.cell? ⟨S,0,none⟩=some (string (aI n 0))/\f.cell? ⟨S,1,none⟩=some (string (ak n 0))/\f.cell? ⟨S,2,none⟩=some (string (aI n 1))/\f.cell? ⟨S,3,none⟩=some (string (ak n 1))/\f.cell? ⟨S,4,none⟩=some (string (aI n 2))/\f.cell? ⟨S,5,none⟩=some (string (ak n 2))/\f.cell? ⟨S,6,none⟩=some (string (aI n 3))/\f.cell? ⟨S,7,none⟩=some (string (ak n 3))/\f.cell? ⟨S,8,none⟩=some (int i64 n.length):=by
 refine⟨?_,?_,?_,?_,?_,?_,?_,?_,?_⟩ <;> (rw[ab h.1];rfl)
set_option maxRecDepth 100000
theorem Oq(b a:Fs)(c:List Value)(X:Xt)(Y:Nat)(w:World)(h:bO w H l b c)(hS:mC w X a)(I:nH a) :
  Calls prog 47 #[pointer (some ⟨H,0,none⟩),slice X a.length Y] w fun e j=>e=returned (int i64 (eC a))/\bO j H l (kU b a) c/\aa [H] w j:=by
 have J:Xq (bO w H l b c):=h;by_cases h4:4<a.length
 ·have A:Xq (eC a=1):=by show _=_;unfold eC;rw[XA h4]
  have P:Xq _:=(sZ (fs0:=b) A.o (by decide));rw[A.o];have ac:(4:Int)<a.length:=by omega
  clear h;go_enter func47,ntmps47;go_wp2;go_ret;exact⟨rfl,by rw[P.o];exact J.o,aa.refl _ _⟩
 ·have A:Xq (eC a=eO (Jq a) a.length):=by show _=_;unfold eC;rw[Xz h4]
  obtain⟨r,K⟩:=aP (eC a);rw[K.o]at A ⊢;have ac:¬(4:Int)<a.length:=by omega
  have HS:Xq (mC w X a):=hS;have D:Xq _:=I;obtain⟨W,R⟩:=aP (w.alloc (.cells #[string ⟨#[]⟩,string ⟨#[]⟩,string ⟨#[]⟩,string ⟨#[]⟩,string ⟨#[]⟩,string ⟨#[]⟩,string ⟨#[]⟩,string ⟨#[]⟩,int i64 0] 73));have O:Xq _:=dx R.o;have Q:Xq (bO W w.heap.size 73 (a.take 0) []):=by show bO _ _ _ _ _;rw[<-R.o];exact⟨XD _ _,by simp⟩
  clear h hS I;go_enter func47,ntmps47;go_upto_region 4 with fail
  rw[R.o];go_wp2
  go_loopg [6] a.length (fun g iv wr=>∃k:Nat,k<=a.length/\g=a.length-k/\iv=int i64 k/\Xq (eO (Jq a) k=0)/\Xq (bO wr w.heap.size 73 (a.take k) [])/\Xq (aa [] w wr))
  ·exact⟨0,by omega,rfl,rfl,rfl,Q,O⟩
  obtain⟨k,hk,hg,rfl,T,y,u⟩:=hrel;rcases kn k a.length with ⟨n,am⟩ | ⟨n,-⟩
  ·obtain⟨F,o0,rfl,t,c0,c1⟩:=(mC.Zbw HS.o u.o (by simp)) k n;have HC:Xq (∀j,aa [] wr j->j.cell? ⟨F,o0+k*2,none⟩=some (string (aI a k))/\j.cell? ⟨F,o0+k*2+1,none⟩=some (string (ak a k))/\F<j.heap.size):=fun j kw=>⟨by rw[XJ (kw.block F t (by simp))];exact c0,by rw[XJ (kw.block F t (by simp))];exact c1,XB t kw.size⟩
   have B:Xq (∀d,Calls prog 48 #[string (aI a k),string (ak a k)] d fun e j=>e=returned (int i64 (dE (aI a k) (ak a k)))/\j=d):=fun d=>qz _ _ d (D.o k).1 (by have:=(D.o k).2;omega);have v:Xq (∀d,bO d w.heap.size 73 (a.take k) []->Calls prog 49 #[pointer (some ⟨w.heap.size,0,none⟩),string (aI a k)] d fun e j=>e=returned (int i64 (bV (a.take k) (aI a k)))/\j=d):=fun d hx=>nK _ _ _ _ _ d hx;have hl:(a.take k).length=k:=(by rw[YL];omega);have M:Xq (∀d,bO d w.heap.size 73 (a.take k) []->Calls prog 50 #[pointer (some ⟨w.heap.size,0,none⟩),agg #[string (aI a k),string (ak a k)]] d fun e j=>e=returned (tuple #[])/\bO j w.heap.size 73 (a.take (k+1)) []/\aa [w.heap.size] d j):=fun d hx=>by
    rw[<-Vj a k n];exact Ma _ _ _ _ _ _ d hx (by rw[hl];omega)
   have m:Xq (Jq a k=if(dE (aI a k) (ak a k)==0)=false then dE (aI a k) (ak a k) else if 0<=bV (a.take k) (aI a k) then 4 else 0):=rfl;have C:Xq ((Jq a k==0)=false->r=Jq a k):=fun q=>by rw[A.o];exact rk T.o q n
   have N:Xq (Jq a k=0->eO (Jq a) (k+1)=0):=fun q=>by rw[eO,T.o];exact q
   clear hl;generalize aI a k=nm at *;generalize ak a k=dt at *;obtain⟨Z,U⟩:=aP (dE nm dt);rw[U.o]at B m;obtain⟨fi,V⟩:=aP (bV (a.take k) nm);rw[V.o]at v m;(go_upto_region 7 with fail);go_region_with (go_at_call 48;refine(B.o _).mono ?_;rintro e L ⟨rfl,ai⟩)
   all_goals
    subst ai;obtain⟨L,H9⟩:=aP (wr.drew);rw[H9.o];have f:Xq (aa [] wr L):=by show aa _ _ _;rw[<-H9.o];exact(aa.refl [] wr).drew
    clear c0 c1 t;cases i:(Z==0)
    ·rw[i,XA rfl]at m;have s:Xq _:=(C.o (by rw[m.o];exact i));rw[m.o]at s;have ad:(Z != 0)=true:=(by unfold bne;rw[i];rfl);go_wp2;go_ret;exact⟨au s.o.symm,by rw[sZ (K.o.trans s.o) (fun q=>by rw[q]at i;cases i)];exact bO.Zbw J.o (u.o.trans f.o) (by simp),(u.o.trans f.o).mono (by simp)⟩
    ·rw[i,Xz (by simp)]at m;have ad:(Z != 0)=false:=(by unfold bne;rw[i];rfl);obtain⟨d0,d1,d2⟩:=HC.o L f.o;have x:Xq (bO L w.heap.size 73 (a.take k) []):=bO.Zbw y.o f.o (by simp);by_cases G:0<=fi
     ·rw[XA G]at m;have s:Xq _:=(C.o (by rw[m.o];rfl));rw[m.o]at s;go_wp2_with (go_at_call 49;refine(v.o _ x.o).mono ?_;rintro e w8 ⟨rfl,p⟩;rw[p];clear p);go_ret;exact⟨au s.o.symm,by rw[sZ (K.o.trans s.o) (by decide)];exact bO.Zbw J.o (u.o.trans f.o) (by simp),(u.o.trans f.o).mono (by simp)⟩
     ·rw[Xz G]at m;have HM:Xq _:=N.o m.o;(go_upto_region 12 with (go_at_call 49;refine(v.o _ x.o).mono ?_;rintro e w8 ⟨rfl,p⟩;rw[p];clear p));go_wp2_with (go_at_call 50;refine(M.o _ x.o).mono ?_;rintro e w8 ⟨rfl,ag,af⟩);go_roundg (a.length-(k+1))
      ·exact⟨k+1,by omega,rfl,by go_num,HM,ag,((u.o.trans f.o).mono (S':=[w.heap.size]) (by simp)).trans af |>.mono (fun q hq n=>by simp at hq;omega)⟩
      omega
  ·have e:k=a.length:=(by omega);subst e;have s:Xq (r=0):=cm (by rw[A.o];exact T.o);have an:¬(a.length:Int)<a.length:=by omega
   rw[Yl]at y;obtain⟨q0,q1,q2,q3,q4,q5,q6,q7,q8⟩:=bO.nine y.o;have z:Xq (bO wr H l b c):=bO.Zbw J.o u.o (by simp);obtain⟨p0,p1,p2,p3,p4,p5,p6,p7,p8⟩:=bO.nine z.o;have al:=bO.free z.o;have E:Xq (bO (I1 wr H a) H l a c):=bO.over z.o (by omega);unfold I1 at E;have S:Xq _:=C9 (fs0:=b) (K.o.trans s.o);go_wp2;go_ret;exact⟨au s.o.symm,by rw[S.o];exact E.o,Lx (u.o.mono (by simp)) (XQ (by simp)) _⟩
def LdV(w':World)(x:Nat)(fs0 fs:Fs)(rep:Bool)(a b c:Value):Prop:=(eC fs=0->lD w' x (kU fs0 fs))/\(eC fs≠0->j6 w' x (kU fs0 fs) rep a b c)
set_option maxRecDepth 512
theorem Qc(h:j6 w H x d k a i)(u:mC w D b)(p:nH b) :
  Calls prog 29 #[pointer (some ⟨H,0,none⟩),slice D b.length l] w fun e q=>e=returned (int i64 (eC b))/\LdV q H x b d k a i/\aa [H] w q:=by
 unfold LdV;have f:Xq _:=Oq H 80 x b [bool d,k,a,i] D l w h u p;generalize eC b=s at *;generalize kU x b=g at *;cases m:(s==0)
 ·go_enter func29,ntmps29;go_wp2_with (go_at_call 47;refine Xx f.o ?_;rintro e r ⟨rfl,j,c⟩);go_ret;exact⟨rfl,⟨(fun e=>by rw[e]at m;cases m),fun _=>j⟩,c⟩
 ·go_enter func29,ntmps29;go_upto_region 3 with (go_at_call 47;refine Xx f.o ?_;rintro e r ⟨rfl,j,c⟩)
  go_wp2_with (go_at_call 32;refine(Aa H g r ⟨d,k,a,i,j⟩).mono ?_;rintro e v ⟨rfl,t,n⟩);go_ret;exact⟨rfl,⟨fun _=>t,fun e=>absurd (ZR m) e⟩,c.trans n⟩
theorem WF(d:Xr)(g:Fs)(f:Bool)(a b c:Value)(w:World)(h:j6 w H g f a b c)(r:y.size<=1073741824)(q:d.size<=4294967296)(k:(fY g y d).1≠0) :
  Calls prog 13 #[pointer (some ⟨H,0,none⟩),string y,string d] w fun e l=>e=returned (int i64 (fY g y d).1)/\j6 l H (fY g y d).2 f a b c/\aa [H] w l:=by
 have i:Xq _:=MW H 80 y d g [bool f,a,b,c] w h r q;generalize fY g y d=s at *;obtain⟨m,n⟩:=s;simp only at i k ⊢;have t:(m==0)=false:=X6.2 k;clear k;go_enter func13,ntmps13;go_wp2_with (go_at_call 31;refine Xx i.o ?_;rintro e u ⟨rfl,p,j⟩);go_ret;exact⟨rfl,p,j⟩
theorem Jc(h:j6 w H x d k a i)(A:bV x y<0) :
  Calls prog 35 #[pointer (some ⟨H,0,none⟩),string y] w fun e g=>e=returned (tuple #[agg #[int i64 0,string ⟨#[]⟩,int i64 0,int i64 0],int i64 5])/\j6 g H x d k a i/\aa [H] w g:=by
 obtain⟨W,m⟩:=aP (w.alloc (.cells #[int i64 0,string ⟨#[]⟩,int i64 0,int i64 0] 87));have l:Xq _:=dx m.o;have n:=dC m.o;have p:j6 W H x d k a i:=bO.Zbw h l.o (by simp);obtain⟨z,c⟩:=aP (bV x y);rw[c.o]at A;have j:Xq (Calls prog 49 #[pointer (some ⟨H,0,none⟩),string y] W fun e g=>e=returned (int i64 z)/\g=W):=by
  show Calls _ _ _ _ _;rw[<-c.o];exact nK H _ x _ y W p
 obtain⟨B,C,D,E⟩:=zU n;have G:=zcW n;have b:Xq (∀q r s t,aa [] w ((((W.setCell ⟨w.heap.size,0,none⟩ q).setCell ⟨w.heap.size,1,none⟩ r).setCell ⟨w.heap.size,2,none⟩ s).setCell ⟨w.heap.size,3,none⟩ t)):=fun q r s t=>(((l.o.sr1 (Xy _) _).sr1 (Xy _) _).sr1 (Xy _) _).sr1 (Xy _) _;have u:Xq (j6 w H x d k a i):=h;clear h p n l;go_enter func35,ntmps35;go_upto_region 1 with fail
 rw[m.o];go_wp2_with (go_at_call 49;refine Xx j.o ?_;rintro e F ⟨rfl,f⟩;rw[f];clear f);exact XG (v:=tuple #[agg #[int i64 0,string ⟨#[]⟩,int i64 0,int i64 0],int i64 5]) (by simp[results,results35,go_sem,B,C,D,E]) rfl ⟨rfl,bO.Zbw u.o (b.o _ _ _ _) (by simp),(b.o _ _ _ _).mono (by simp)⟩
def tP(c:Int):Prop:=-9223372036854775808<=c/\c<=9223372036854775807
def fH(c:Int)(n:Nat):Nat:=((if c<0 then -(c+1) else c).tmod n).toNat
theorem iw(b:1<=l):fH T l<l:=by
 unfold fH;split
 ·have a:0<=(-(T+1)).tmod l/\(-(T+1)).tmod l<l:=⟨ZaA _ (by omega),Zal _ (by omega)⟩
  omega
 ·have a:0<=T.tmod l/\T.tmod l<l:=⟨ZaA _ (by omega),Zal _ (by omega)⟩
  omega
theorem fS(i:tP T)(n:1<=l/\l<=4294967296) :
  Calls prog 11 #[int i64 T,int i64 l] w fun e m=>e=returned (int i64 (fH T l:Nat))/\m=w:=by
 obtain⟨j,k⟩:=i;by_cases f:T<0
 ·have a:0<=(-(T+1)).tmod l/\(-(T+1)).tmod l<l:=⟨ZaA _ (by omega),Zal _ (by omega)⟩
  have c:Xq _:=a;have d:Xq (fH T l=((-(T+1)).tmod l).toNat):=cm (by unfold fH;rw[XA f]);clear a;go_enter func11,ntmps11;go_wp2
  all_goals go_ret
  all_goals
   have a:=c.o;refine⟨au ?_,rfl⟩;rw[d.o]
   first | (simp only[Int.neg_tmod]at *;omega) | (rw[ZaC a.1])
 ·have a:0<=T.tmod l/\T.tmod l<l:=⟨ZaA _ (by omega),Zal _ (by omega)⟩
  have b:T.tmod l=T % l:=Int.tmod_eq_emod_of_nonneg (by omega);have c:Xq _:=a;have g:Xq _:=b;have d:Xq (fH T l=(T.tmod l).toNat):=cm (by unfold fH;rw[Xz f]);clear a b;go_enter func11,ntmps11;go_wp2
  all_goals go_ret
  all_goals
   have a:=c.o;have b:=g.o;refine⟨au ?_,rfl⟩;rw[d.o]
   first | (rw[ZaC a.1];done) | (rw[ZaC a.1,b])
theorem qk(r:Nat)(a:Fs)(w:World)(j:mC w o a)(m:mC w D a)(I:a.length<=4294967296) :
  Calls prog 25 #[slice o a.length l,slice D a.length r] w fun e u=>e=returned (bool true)/\∃n,u=w.drewN n:=by
 have p:Xq (mC w o a):=j;have q:Xq (mC w D a):=m;clear j m;go_enter func25,ntmps25;go_wp2
 go_loopg [5] a.length (fun g i wr=>∃k:Nat,k<=a.length/\g=a.length-k/\i=int i64 k/\Xq (∃n,wr=w.drewN n))
 ·exact⟨0,by omega,by omega,rfl,0,rfl⟩
 obtain⟨k,H,G,rfl,c⟩:=hrel;have f:Xq (aa [] w wr):=by show aa _ _ _;obtain⟨n,e⟩:=c.o;rw[e];exact(aa.refl [] w).drewN n
 rcases kn k a.length with ⟨b,s⟩ | ⟨b,t⟩
 ·obtain⟨B,K,rfl,E,v,x⟩:=(mC.Zbw p.o f.o (by simp)) k b;obtain⟨C,L,rfl,F,y,z⟩:=(mC.Zbw q.o f.o (by simp)) k b;generalize aI a k=J at *;generalize ak a k=A at *;go_upto_region 6 with fail
  go_quiet (fail);have d:Xq (∃n,wr.drewN nq=w.drewN n):=by show ∃_,_;obtain⟨n,e⟩:=c.o;exact⟨n+nq,by rw[e,Zaq]⟩
  go_wp2;go_roundg (a.length-(k+1))
  ·exact⟨k+1,by omega,rfl,by go_num,d⟩
  omega
 ·go_wp2;go_ret;exact⟨rfl,c.o⟩
theorem JO{P:Program}(p F G:TypeId)(g l c n:Nat)(d:Xt)(r:eD)(a:Array Value)(t:TypeId)(E:P.underlying p=some (.slice r.e))(s:(P.info? r.e).map (·.size)=some r.size)(q:w.heap[g]?=some (.cells a t))(C:r.n=n)(B:r.xs.length=r.n*r.size)(x:d=none->r.xs=[])(z:∀b,d=some b->∀j v,r.xs[j]?=some v->w.cell? (b.add j)=some v)(D:a.size=r.n*r.size)(y:∀v∈r.xs,v.oneCell'=true) :
  ∃k,(Builtin.copy_ #[p,F] G #[slice (some ⟨g,0,none⟩) n l,slice d n c]).run P w=.ok (goInt n) k/\k.heap[g]?=some (.cells r.xs.toArray t)/\aa [g] w k/\k.heap.size=w.heap.size:=by
 subst C;refine⟨w.setRow g r.xs.toArray,?_,setRow_heap w g _ _ t _ q,yB (aa.refl _ _) (XQ (by simp)) _,by simp[World.setRow]⟩;have f:=run_storeCells_at P g 0 t r.xs 0 a w q (by simp;omega) y;have u:(a.toList.take (0+0)++r.xs++a.toList.drop (0+0+r.xs.length))=r.xs:=by
  simp;omega
 rw[u]at f;have m:(Builtin.firstCells r.size r.n (slice d r.n c)).run P w=.ok r.xs.toArray w:=by
  cases d with
  | none=>rw[x rfl];exact run_firstCells_none w _ _ _ _
  | some b=>exact run_firstCells_some w r.size r.n b r.n c r.xs B (z b rfl)
 cases o:P.info? r.e with
 | none=>simp[o]at s
 | some i =>
  have A:i.size=r.size:=by simpa [o] using s
  simp[Builtin.copy_,run_underlying E,Builtin.lenOf,sizeOf,typeInfo,o,A,m,f]
theorem mC.cells(h:mC f L n):(L=none->uA n=[])/\∀d,L=some d->∀j v,(uA n)[j]?=some v->f.cell? (d.add j)=some v:=by
 refine⟨fun e=>?_,fun d e j v c=>?_⟩
 ·cases n with
  | nil=>rfl
  | cons a q=>obtain⟨g,o,b,-⟩:=h 0 (by simp);rw[e]at b;cases b
 ·have r:j<n.length*2:=by
   rw[<-zq];exact(XL.1 c).1
  obtain⟨g,o,b,-,i,k⟩:=h (j / 2) (by omega);rw[e]at b;cases b
  obtain⟨l,m⟩:=Ah n (j / 2) (by omega);have p:(⟨g,o,none⟩:Addr).add j=⟨g,o+j,none⟩:=by simp[Addr.add]
  rw[p];rcases ZaD j with e | e
  ·rw[show o+j / 2*2=o+j by omega]at i;rw[show j / 2*2=j by omega]at l;rw[l]at c;rw[i,<-c]
  ·rw[show o+j / 2*2+1=o+j by omega]at k;rw[show j / 2*2+1=j by omega]at m;rw[m]at c;rw[k,<-c]
theorem lk(t:mC w o b)(D:b.length<=1073741824) :
  Calls prog 28 #[slice o b.length H] w fun e v=>e=returned (slice (some ⟨w.heap.size,0,none⟩) b.length b.length)/\v.heap[w.heap.size]?=some (.cells (uA b).toArray 68)/\aa [] w v:=by
 obtain⟨A,u,n,i,p⟩:=XV Ez;have B:=fun w=>bY (P:=prog) w 33 68 A _ underlying33 u n b.length 2 i (by rw[p];omega) (by omega);obtain⟨d,a⟩:∃C,C=madeCells (agg #[string ⟨#[]⟩,string ⟨#[]⟩]).cells (b.length*2):=⟨_,rfl⟩
 have y:d.size=b.length*2:=by rw[a,YJ]
 rw[<-a]at B;clear a;obtain⟨W,l⟩:=aP (w.alloc (.cells d 68));have r:=dx l.o;have s:=dC l.o;have c:(prog.info? (dq b).e).map (·.size)=some (dq b).size:=by simp[dq,u,i]
 have m:=(t.Zbw r (by simp)).cells;obtain⟨x,z,f,g,q⟩:=JO (P:=prog) W 33 33 3 w.heap.size b.length H b.length o (dq b) d 68 underlying33 c s rfl (zq b) m.1 m.2 y (Mq b);have j:Xq (x.heap[w.heap.size]?=some (.cells (uA b).toArray 68)):=f;have k:Xq (aa [] w x):=((r.mono (S':=[w.heap.size]) (by simp)).trans g).mono (by simp);clear t r s m c f g q y;go_enter func28,ntmps28;go_upto_region 2 with fail
 rw[l.o];go_wp2;go_ret;exact⟨rfl,j.o,k.o⟩
end Go.Proofs.YtpdholcaobgofaaGreat
