import Derived.Deep.RegionHeld3
import Derived.Deep.RegionLaw
import Derived.Deep.CutRange
import Derived.Test.YtnbhnocdhbcbcaaGreatG01
namespace Go.Proofs.YtnbhnocdhbcbcaaGreat
open Go.RowKit Tryz
open Value IntKind Ending
set_option maxHeartbeats 0
variable{I:List Nat}{f M:World}{L:Option Addr}{n:Fs}{S N:Nat}{m:List Value}(o:Option Addr)(H:Nat)(x:Fs)(y:ByteArray)(l:Fs)(d:Bool)(k a i:Value)(D:Option Addr)(T:Int)(w:Nat)(b:World)
def lk(w:World)(ao:Option Addr)(fs:Fs):Prop:=∀k,k<fs.length->∃g o,ao=some ⟨g,o,none⟩/\g<w.heap.size/\w.cell? ⟨g,o+k*2,none⟩=some (string (aD fs k))/\w.cell? ⟨g,o+k*2+1,none⟩=some (string (ak fs k))
theorem lk.kept(h:lk f L n)(k:aa I f M)(l:∀a,L=some a->a.block∉I):lk M L n:=by
 intro j m;obtain⟨g,o,e,b,c,d⟩:=h j m;have q:∀i,M.cell? ⟨g,i,none⟩=f.cell? ⟨g,i,none⟩:=fun i=>Sh (k.block g b (l _ e));exact⟨g,o,e,R6 b k.size,by rw[q];exact c,by rw[q];exact d⟩
theorem Oa(h:w<l.length):l.take w++[(aD l w,ak l w)]=l.take (w+1):=by
 rw[VM,RQ h];unfold aD ak;rw[RT,RQ h];rfl
def DC(w:World)(v:Nat)(fs:Fs):World:=((((((((w.setCell ⟨v,0,none⟩ (string (aD fs 0))).setCell ⟨v,1,none⟩ (string (ak fs 0))).setCell ⟨v,2,none⟩ (string (aD fs 1))).setCell ⟨v,3,none⟩ (string (ak fs 1))).setCell ⟨v,4,none⟩ (string (aD fs 2))).setCell ⟨v,5,none⟩ (string (ak fs 2))).setCell ⟨v,6,none⟩ (string (aD fs 3))).setCell ⟨v,7,none⟩ (string (ak fs 3))).setCell ⟨v,8,none⟩ (int i64 fs.length)
theorem Np(a:List Value):(((((((((pk x++a).set 0 (string (aD l 0))).set 1 (string (ak l 0))).set 2 (string (aD l 1))).set 3 (string (ak l 1))).set 4 (string (aD l 2))).set 5 (string (ak l 2))).set 6 (string (aD l 3))).set 7 (string (ak l 3))).set 8 (int i64 l.length)=pk l++a:=rfl
theorem bF.over{a:Fs}(h:bF f S N n m)(b:a.length<=4):bF (DC f S a) S N a m:=by
 refine⟨?_,b⟩;unfold DC;rw[ah (ah (ah (ah (ah (ah (ah (ah (ah h.1 0 _) 1 _) 2 _) 3 _) 4 _) 5 _) 6 _) 7 _) 8 _];simp only[List.setIfInBounds_toArray,Np]
theorem FQ(h:aa I f M)(a:S∈I∨f.heap.size<=S)(b:Fs):aa I f (DC M S b) :=
 ((((((((h.setCell a _).setCell a _).setCell a _).setCell a _).setCell a _).setCell a _).setCell a _).setCell a _).setCell a _
theorem bF.nine(h:bF f S N n m) :
  f.cell? ⟨S,0,none⟩=some (string (aD n 0))/\f.cell? ⟨S,1,none⟩=some (string (ak n 0))/\f.cell? ⟨S,2,none⟩=some (string (aD n 1))/\f.cell? ⟨S,3,none⟩=some (string (ak n 1))/\f.cell? ⟨S,4,none⟩=some (string (aD n 2))/\f.cell? ⟨S,5,none⟩=some (string (ak n 2))/\f.cell? ⟨S,6,none⟩=some (string (aD n 3))/\f.cell? ⟨S,7,none⟩=some (string (ak n 3))/\f.cell? ⟨S,8,none⟩=some (int i64 n.length):=by
 refine⟨?_,?_,?_,?_,?_,?_,?_,?_,?_⟩ <;> (rw[aj h.1];rfl)
set_option maxRecDepth 100000
theorem Jk(c a:Fs)(d:List Value)(X:Option Addr)(Y:Nat)(b:World)(h:bF b H w c d)(hS:lk b X a)(J:lr a) :
  Calls prog 49 #[pointer (some ⟨H,0,none⟩),slice X a.length Y] b fun e l=>e=returned (int i64 (dF a))/\bF l H w (jK c a) d/\aa [H] b l:=by
 have K:Hid (bF b H w c d):=h;by_cases h4:4<a.length
 ·have z:Hid (dF a=1):=by show _=_;unfold dF;rw[RY h4]
  have P:Hid _:=(p9 (fs0:=c) z.out (by decide));rw[z.out];have ac:(4:Int)<a.length:=by omega
  clear h;go_enter func49,ntmps49;go_wp2;go_ret;exact⟨rfl,by rw[P.out];exact K.out,aa.refl _ _⟩
 ·have z:Hid (dF a=cQ (DQ a) a.length):=by show _=_;unfold dF;rw[RU h4]
  obtain⟨r,L⟩:∃r,Hid (dF a=r):=⟨_,rfl⟩
  rw[L.out]at z ⊢;have ac:¬(4:Int)<a.length:=by omega
  have HS:Hid (lk b X a):=hS;have D:Hid _:=J;have ar:H<b.heap.size:=h.lt;obtain⟨W,R⟩:∃W,Hid (b.alloc (.cells #[string ⟨#[]⟩,string ⟨#[]⟩,string ⟨#[]⟩,string ⟨#[]⟩,string ⟨#[]⟩,string ⟨#[]⟩,string ⟨#[]⟩,string ⟨#[]⟩,int i64 0] 73)=W):=⟨_,rfl⟩
  have O:Hid _:=fN R.out;have Q:Hid (bF W b.heap.size 73 (a.take 0) []):=by show bF _ _ _ _ _;rw[<-R.out];exact⟨R2 _ _,by simp⟩
  clear h hS J;go_enter func49,ntmps49;go_upto_region 4 with fail
  rw[R.out];go_wp2
  go_loopg [6] a.length (fun g iv wr=>∃k:Nat,k<=a.length/\g=a.length-k/\iv=int i64 k/\Hid (cQ (DQ a) k=0)/\Hid (bF wr b.heap.size 73 (a.take k) [])/\Hid (aa [] b wr))
  case atStart=>exact⟨0,by omega,rfl,rfl,rfl,Q,O⟩
  case round =>
   obtain⟨k,hk,hg,rfl,T,p,v⟩:=hrel;by_cases u:k<a.length
   ·have an:(k:Int)<a.length:=(by omega);obtain⟨G,o0,rfl,t,c0,c1⟩:=(lk.kept HS.out v.out (by simp)) k u;have HC:Hid (∀l,aa [] wr l->l.cell? ⟨G,o0+k*2,none⟩=some (string (aD a k))/\l.cell? ⟨G,o0+k*2+1,none⟩=some (string (ak a k))/\G<l.heap.size):=fun l kw=>⟨by rw[Sh (kw.block G t (by simp))];exact c0,by rw[Sh (kw.block G t (by simp))];exact c1,R6 t kw.size⟩
    have B:Hid (∀f,Calls prog 50 #[string (aD a k),string (ak a k)] f fun e l=>e=returned (int i64 (dc (aD a k) (ak a k)))/\l=f):=fun f=>oh _ _ f (D.out k).1 (by have:=(D.out k).2;omega);have x:Hid (∀f,bF f b.heap.size 73 (a.take k) []->Calls prog 51 #[pointer (some ⟨b.heap.size,0,none⟩),string (aD a k)] f fun e l=>e=returned (int i64 (bM (a.take k) (aD a k)))/\l=f):=fun f hx=>ma _ _ _ _ _ f hx;have hl:(a.take k).length=k:=(by rw[To];omega);have M:Hid (∀f,bF f b.heap.size 73 (a.take k) []->Calls prog 52 #[pointer (some ⟨b.heap.size,0,none⟩),agg #[string (aD a k),string (ak a k)]] f fun e l=>e=returned (tuple #[])/\bF l b.heap.size 73 (a.take (k+1)) []/\aa [b.heap.size] f l):=fun f hx=>by
     rw[<-Oa a k u];exact Gt _ _ _ _ _ _ f hx (by rw[hl];omega)
    have m:Hid (DQ a k=if(dc (aD a k) (ak a k)==0)=false then dc (aD a k) (ak a k) else if 0<=bM (a.take k) (aD a k) then 4 else 0):=rfl;have C:Hid ((DQ a k==0)=false->r=DQ a k):=fun q=>by rw[z.out];exact mM T.out q u
    have N:Hid (DQ a k=0->cQ (DQ a) (k+1)=0):=fun q=>by rw[cQ,T.out];exact q
    clear hl;generalize aD a k=nm at *;generalize ak a k=dt at *;obtain⟨F,U⟩:∃F,Hid (dc nm dt=F):=⟨_,rfl⟩
    rw[U.out]at B m;obtain⟨Z,V⟩:∃Z,Hid (bM (a.take k) nm=Z):=⟨_,rfl⟩
    rw[V.out]at x m;(go_upto_region 7 with fail);go_region_with (go_at_call 50;refine(B.out _).mono ?_;rintro e A ⟨rfl,ai⟩)
    all_goals
     subst ai;obtain⟨A,H9⟩:∃A,Hid (wr.drew=A):=⟨_,rfl⟩
     rw[H9.out];have i:Hid (aa [] wr A):=by show aa _ _ _;rw[<-H9.out];exact(aa.refl [] wr).drew
     clear c0 c1 t;cases j:(F==0)
     ·rw[j,RY rfl]at m;have o:Hid _:=(C.out (by rw[m.out];exact j));rw[m.out]at o;have ad:(F != 0)=true:=(by unfold bne;rw[j];rfl);go_wp2;go_ret;exact⟨au o.out.symm,by rw[p9 (L.out.trans o.out) (fun q=>by rw[q]at j;cases j)];exact bF.kept K.out (v.out.trans i.out) (by simp),(v.out.trans i.out).mono (by simp)⟩
     ·rw[j,RU (by simp)]at m;have ad:(F != 0)=false:=(by unfold bne;rw[j];rfl);obtain⟨d0,d1,d2⟩:=HC.out A i.out;have y:Hid (bF A b.heap.size 73 (a.take k) []):=bF.kept p.out i.out (by simp);by_cases I:0<=Z
      ·rw[RY I]at m;have o:Hid _:=(C.out (by rw[m.out];rfl));rw[m.out]at o;go_wp2_with (go_at_call 51;refine(x.out _ y.out).mono ?_;rintro e w8 ⟨rfl,n⟩;rw[n];clear n);go_ret;exact⟨au o.out.symm,by rw[p9 (L.out.trans o.out) (by decide)];exact bF.kept K.out (v.out.trans i.out) (by simp),(v.out.trans i.out).mono (by simp)⟩
      ·rw[RU I]at m;have HM:Hid _:=N.out m.out;(go_upto_region 12 with (go_at_call 51;refine(x.out _ y.out).mono ?_;rintro e w8 ⟨rfl,n⟩;rw[n];clear n));go_wp2_with (go_at_call 52;refine(M.out _ y.out).mono ?_;rintro e w8 ⟨rfl,ag,af⟩);go_roundg (a.length-(k+1))
       case measure=>omega
       case rel=>exact⟨k+1,by omega,rfl,by go_num,HM,ag,((v.out.trans i.out).mono (S':=[b.heap.size]) (by simp)).trans af |>.mono (fun q hq u=>by simp at hq;omega)⟩
   ·have e:k=a.length:=(by omega);subst e;have o:Hid (r=0):=by show _=_;rw[z.out];exact T.out
    have ap:¬(a.length:Int)<a.length:=(by omega);rw[Tr]at p;obtain⟨q0,q1,q2,q3,q4,q5,q6,q7,q8⟩:=bF.nine p.out;have ax:=bF.lt p.out;have s:Hid (bF wr H w c d):=bF.kept K.out v.out (by simp);obtain⟨p0,p1,p2,p3,p4,p5,p6,p7,p8⟩:=bF.nine s.out;have al:=bF.free s.out;have az:=bF.lt s.out;have E:Hid (bF (DC wr H a) H w a d):=bF.over s.out (by omega);unfold DC at E;have S:Hid _:=zo (fs0:=c) (L.out.trans o.out);go_wp2;go_ret;exact⟨au o.out.symm,by rw[S.out];exact E.out,FQ (v.out.mono (by simp)) (R4 (by simp)) _⟩
def Rk(w':World)(x:Nat)(fs0 fs:Fs)(rep:Bool)(a b c:Value):Prop:=(dF fs=0->kg w' x (jK fs0 fs))/\(dF fs≠0->je w' x (jK fs0 fs) rep a b c)
set_option maxRecDepth 512
theorem KE(h:je b H x d k a i)(t:lk b D l)(o:lr l) :
  Calls prog 31 #[pointer (some ⟨H,0,none⟩),slice D l.length w] b fun e p=>e=returned (int i64 (dF l))/\Rk p H x l d k a i/\aa [H] b p:=by
 unfold Rk;have f:Hid _:=Jk H 80 x l [bool d,k,a,i] D w b h t o;generalize dF l=r at *;generalize jK x l=g at *;cases m:(r==0)
 ·go_enter func31,ntmps31;go_wp2_with (go_at_call 49;refine R0 f.out ?_;rintro e q ⟨rfl,j,c⟩);go_ret;exact⟨rfl,⟨(fun e=>by rw[e]at m;cases m),fun _=>j⟩,c⟩
 ·go_enter func31,ntmps31;go_upto_region 3 with (go_at_call 49;refine R0 f.out ?_;rintro e q ⟨rfl,j,c⟩)
  go_wp2_with (go_at_call 34;refine(wJ H g q ⟨d,k,a,i,j⟩).mono ?_;rintro e u ⟨rfl,s,n⟩);go_ret;exact⟨rfl,⟨fun _=>s,fun e=>absurd (Vc m) e⟩,c.trans n⟩
theorem Pf(d:ByteArray)(g:Fs)(f:Bool)(a b c:Value)(w:World)(h:je w H g f a b c)(q:y.size<=1073741824)(p:d.size<=4294967296)(k:(fm g y d).1≠0) :
  Calls prog 15 #[pointer (some ⟨H,0,none⟩),string y,string d] w fun e l=>e=returned (int i64 (fm g y d).1)/\je l H (fm g y d).2 f a b c/\aa [H] w l:=by
 have i:Hid _:=G1 H 80 y d g [bool f,a,b,c] w h q p;generalize fm g y d=r at *;obtain⟨m,n⟩:=r;simp only at i k ⊢;have s:(m==0)=false:=Sp.2 k;clear k;go_enter func15,ntmps15;go_wp2_with (go_at_call 33;refine R0 i.out ?_;rintro e t ⟨rfl,o,j⟩);go_ret;exact⟨rfl,o,j⟩
theorem DI(h:je b H x d k a i)(A:bM x y<0) :
  Calls prog 37 #[pointer (some ⟨H,0,none⟩),string y] b fun e l=>e=returned (tuple #[agg #[int i64 0,string ⟨#[]⟩,int i64 0,int i64 0],int i64 5])/\je l H x d k a i/\aa [H] b l:=by
 have B:=bF.lt h;obtain⟨W,o⟩:∃W,Hid (b.alloc (.cells #[int i64 0,string ⟨#[]⟩,int i64 0,int i64 0] 87)=W):=⟨_,rfl⟩
 have n:Hid _:=fN o.out;have j:=fY o.out;have q:je W H x d k a i:=bF.kept h n.out (by simp);obtain⟨p,f⟩:∃p,Hid (bM x y=p):=⟨_,rfl⟩
 rw[f.out]at A;have m:Hid (Calls prog 51 #[pointer (some ⟨H,0,none⟩),string y] W fun e l=>e=returned (int i64 p)/\l=W):=by
  show Calls _ _ _ _ _;rw[<-f.out];exact ma H _ x _ y W q
 obtain⟨C,D,E,F⟩:=BK j;have I:=am j;have z:=ae j;have c:Hid (∀r s t u,aa [] b ((((W.setCell ⟨b.heap.size,0,none⟩ r).setCell ⟨b.heap.size,1,none⟩ s).setCell ⟨b.heap.size,2,none⟩ t).setCell ⟨b.heap.size,3,none⟩ u)):=fun r s t u=>(((n.out.setCell (RZ (RV _)) _).setCell (RZ (RV _)) _).setCell (RZ (RV _)) _).setCell (RZ (RV _)) _;have w:Hid (je b H x d k a i):=h;clear h q j n;go_enter func37,ntmps37;go_upto_region 1 with fail
 rw[o.out];go_wp2_with (go_at_call 51;refine R0 m.out ?_;rintro e G ⟨rfl,g⟩;rw[g];clear g);exact Sa (v:=tuple #[agg #[int i64 0,string ⟨#[]⟩,int i64 0,int i64 0],int i64 5]) (by simp[results,results37,go_sem,C,D,E,F]) rfl ⟨rfl,bF.kept w.out (c.out _ _ _ _) (by simp),(c.out _ _ _ _).mono (by simp)⟩
def sG(c:Int):Prop:=-9223372036854775808<=c/\c<=9223372036854775807
def fU(c:Int)(n:Nat):Nat:=((if c<0 then -(c+1) else c).tmod n).toNat
theorem iH(b:1<=w):fU T w<w:=by
 unfold fU;split
 ·have a:0<=(-(T+1)).tmod w/\(-(T+1)).tmod w<w:=⟨Vv _ (by omega),Vb _ (by omega)⟩
  omega
 ·have a:0<=T.tmod w/\T.tmod w<w:=⟨Vv _ (by omega),Vb _ (by omega)⟩
  omega
theorem gC(j:sG T)(q:1<=w/\w<=4294967296) :
  Calls prog 13 #[int i64 T,int i64 w] b fun e p=>e=returned (int i64 (fU T w:Nat))/\p=b:=by
 obtain⟨k,l⟩:=j;have m:(1:Int)<=(w:Int):=by omega
 have n:(w:Int)<=4294967296:=by omega
 have o:((w:Int)==0)=false:=Sp.2 (by omega);by_cases g:T<0
 ·have a:0<=(-(T+1)).tmod w/\(-(T+1)).tmod w<w:=⟨Vv _ (by omega),Vb _ (by omega)⟩
  have d:Hid _:=a;have f:Hid (fU T w=((-(T+1)).tmod w).toNat):=by show _=_;unfold fU;rw[RY g]
  clear a;go_enter func13,ntmps13;go_wp2
  all_goals go_ret
  all_goals
   have a:=d.out;refine⟨au ?_,rfl⟩;rw[f.out]
   first | (simp only[Int.neg_tmod]at *;omega) | (rw[Vz a.1])
 ·have a:0<=T.tmod w/\T.tmod w<w:=⟨Vv _ (by omega),Vb _ (by omega)⟩
  have c:T.tmod w=T % w:=Int.tmod_eq_emod_of_nonneg (by omega);have d:Hid _:=a;have i:Hid _:=c;have f:Hid (fU T w=(T.tmod w).toNat):=by show _=_;unfold fU;rw[RU g]
  clear a c;go_enter func13,ntmps13;go_wp2
  all_goals go_ret
  all_goals
   have a:=d.out;have c:=i.out;refine⟨au ?_,rfl⟩;rw[f.out]
   first | (rw[Vz a.1];done) | (rw[Vz a.1,c])
theorem nW(r:Nat)(a:Fs)(b:World)(l:lk b o a)(m:lk b D a)(I:a.length<=4294967296) :
  Calls prog 27 #[slice o a.length w,slice D a.length r] b fun e u=>e=returned (bool true)/\∃n,u=b.drewN n:=by
 have p:Hid (lk b o a):=l;have q:Hid (lk b D a):=m;clear l m;go_enter func27,ntmps27;go_wp2
 go_loopg [5] a.length (fun g i wr=>∃k:Nat,k<=a.length/\g=a.length-k/\i=int i64 k/\Hid (∃n,wr=b.drewN n))
 case atStart=>exact⟨0,by omega,by omega,rfl,0,rfl⟩
 case round =>
  obtain⟨k,H,G,rfl,d⟩:=hrel;have j:Hid (aa [] b wr):=by show aa _ _ _;obtain⟨n,e⟩:=d.out;rw[e];exact(aa.refl [] b).drewN n
  by_cases c:k<a.length
  ·have s:(k:Int)<a.length:=(by omega);obtain⟨B,K,rfl,E,v,x⟩:=(lk.kept p.out j.out (by simp)) k c;obtain⟨C,L,rfl,F,y,z⟩:=(lk.kept q.out j.out (by simp)) k c;generalize aD a k=J at *;generalize ak a k=A at *;(go_upto_region 6 with fail);go_quiet (fail);have f:Hid (∃n,wr.drewN nq=b.drewN n):=(by show ∃_,_;obtain⟨n,e⟩:=d.out;exact⟨n+nq,by rw[e,Vf]⟩);go_wp2;go_roundg (a.length-(k+1))
   case measure=>omega
   case rel=>exact⟨k+1,by omega,rfl,by go_num,f⟩
  ·have t:¬(k:Int)<a.length:=(by omega);go_wp2;go_ret;exact⟨rfl,d.out⟩
theorem El{P:Program}(q F G:TypeId)(g m c n:Nat)(f:Option Addr)(r:eB)(a:Array Value)(t:TypeId)(E:P.underlying q=some (.slice r.e))(u:(P.info? r.e).map (·.size)=some r.size)(s:b.heap[g]?=some (.cells a t))(C:r.n=n)(B:r.xs.length=r.n*r.size)(x:f=none->r.xs=[])(z:∀d,f=some d->∀j v,r.xs[j]?=some v->b.cell? (d.add j)=some v)(D:a.size=r.n*r.size)(y:∀v∈r.xs,v.oneCell'=true) :
  ∃l,(Builtin.copy_ #[q,F] G #[slice (some ⟨g,0,none⟩) n m,slice f n c]).run P b=.ok (goInt n) l/\l.heap[g]?=some (.cells r.xs.toArray t)/\aa [g] b l/\l.heap.size=b.heap.size:=by
 subst C;refine⟨b.setRow g r.xs.toArray,?_,setRow_heap b g _ _ t _ s,vo (aa.refl _ _) (R4 (by simp)) _,by simp[World.setRow]⟩;have k:=run_storeCells_at P g 0 t r.xs 0 a b s (by simp;omega) y;have w:(a.toList.take (0+0)++r.xs++a.toList.drop (0+0+r.xs.length))=r.xs:=by
  simp;omega
 rw[w]at k;have o:(Builtin.firstCells r.size r.n (slice f r.n c)).run P b=.ok r.xs.toArray b:=by
  cases f with
  | none=>rw[x rfl];exact run_firstCells_none b _ _ _ _
  | some d=>exact run_firstCells_some b r.size r.n d r.n c r.xs B (z d rfl)
 cases p:P.info? r.e with
 | none=>simp[p]at u
 | some i =>
  have A:i.size=r.size:=by simpa [p] using u
  simp[Builtin.copy_,run_underlying E,Builtin.lenOf,sizeOf,typeInfo,p,A,o,k]
theorem lk.cells(h:lk f L n):(L=none->ri n=[])/\∀d,L=some d->∀j v,(ri n)[j]?=some v->f.cell? (d.add j)=some v:=by
 refine⟨fun e=>?_,fun d e j v c=>?_⟩
 ·cases n with
  | nil=>rfl
  | cons a q=>obtain⟨g,o,b,-⟩:=h 0 (by simp);rw[e]at b;cases b
 ·have r:j<n.length*2:=by
   rw[<-vT];exact(R8.1 c).1
  obtain⟨g,o,b,-,i,k⟩:=h (j / 2) (by omega);rw[e]at b;cases b
  obtain⟨l,m⟩:=wQ n (j / 2) (by omega);have p:(⟨g,o,none⟩:Addr).add j=⟨g,o+j,none⟩:=by simp[Addr.add]
  rw[p];rcases VD j with e | e
  ·rw[show o+j / 2*2=o+j by omega]at i;rw[show j / 2*2=j by omega]at l;rw[l]at c;rw[i,<-c]
  ·rw[show o+j / 2*2+1=o+j by omega]at k;rw[show j / 2*2+1=j by omega]at m;rw[m]at c;rw[k,<-c]
theorem jY(u:lk b o l)(D:l.length<=1073741824) :
  Calls prog 30 #[slice o l.length H] b fun e w=>e=returned (slice (some ⟨b.heap.size,0,none⟩) l.length l.length)/\w.heap[b.heap.size]?=some (.cells (ri l).toArray 68)/\aa [] b w:=by
 obtain⟨A,v,p,i,q⟩:=Sr Ax;have B:=fun b=>dH (P:=prog) b 33 68 A _ underlying33 v p l.length 2 i (by rw[q];omega) (by omega);obtain⟨d,a⟩:∃C,C=madeCells (agg #[string ⟨#[]⟩,string ⟨#[]⟩]).cells (l.length*2):=⟨_,rfl⟩
 have y:d.size=l.length*2:=by rw[a,TO]
 rw[<-a]at B;clear a;obtain⟨W,m⟩:∃W,Hid (b.alloc (.cells d 68)=W):=⟨_,rfl⟩
 have s:=fN m.out;have t:=fY m.out;have c:(prog.info? (cK l).e).map (·.size)=some (cK l).size:=by simp[cK,v,i]
 have n:=(u.kept s (by simp)).cells;obtain⟨x,z,f,g,r⟩:=El (P:=prog) W 33 33 3 b.heap.size l.length H l.length o (cK l) d 68 underlying33 c t rfl (vT l) n.1 n.2 y (GG l);have j:Hid (x.heap[b.heap.size]?=some (.cells (ri l).toArray 68)):=f;have k:Hid (aa [] b x):=((s.mono (S':=[b.heap.size]) (by simp)).trans g).mono (by simp);clear u s t n c f g r y;go_enter func30,ntmps30;go_upto_region 2 with fail
 rw[m.out];go_wp2;go_ret;exact⟨rfl,j.out,k.out⟩
end Go.Proofs.YtnbhnocdhbcbcaaGreat
