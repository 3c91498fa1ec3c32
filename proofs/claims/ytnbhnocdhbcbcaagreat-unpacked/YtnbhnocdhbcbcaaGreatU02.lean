import Derived.Test.YtnbhnocdhbcbcaaGreatU01
namespace Go.Proofs.YtnbhnocdhbcbcaaGreat
open Go.RowKit Tryz
open Value IntKind Ending
set_option maxHeartbeats 0
variable(H:Xu)(b:Int)(w:Nat)(l:World)
def rx(c:Int):Prop:=-9223372036854775808<=c/\c<=9223372036854775807
def fA(c:Int)(n:Nat):Nat:=((if c<0 then -(c+1) else c).tmod n).toNat
theorem hZ(c:1<=w):fA b w<w:=by
 unfold fA;split
 ·have a:0<=(-(b+1)).tmod w/\(-(b+1)).tmod w<w:=⟨Xx _ (by omega),WV _ (by omega)⟩
  omega
 ·have a:0<=b.tmod w/\b.tmod w<w:=⟨Xx _ (by omega),WV _ (by omega)⟩
  omega
theorem fJ(j:rx b)(p:1<=w/\w<=4294967296) :
  Calls prog 13 #[int i64 b,int i64 w] l fun e n=>e=returned (int i64 (fA b w:Nat))/\n=l:=by
 obtain⟨k,m⟩:=j;by_cases g:b<0
 ·have a:0<=(-(b+1)).tmod w/\(-(b+1)).tmod w<w:=⟨Xx _ (by omega),WV _ (by omega)⟩
  have d:Xr _:=a;have f:Xr (fA b w=((-(b+1)).tmod w).toNat):=cM (by unfold fA;rw[Uf g]);clear a;go_enter func13,ntmps13;go_wp2
  all_goals go_ret
  all_goals
   have a:=d.o;refine⟨T0 ?_,rfl⟩;rw[f.o]
   first | (simp only[Int.neg_tmod]at *;omega) | (rw[XA a.1])
 ·have a:0<=b.tmod w/\b.tmod w<w:=⟨Xx _ (by omega),WV _ (by omega)⟩
  have c:b.tmod w=b % w:=Int.tmod_eq_emod_of_nonneg (by omega);have d:Xr _:=a;have i:Xr _:=c;have f:Xr (fA b w=(b.tmod w).toNat):=cM (by unfold fA;rw[Ud g]);clear a c;go_enter func13,ntmps13;go_wp2
  all_goals go_ret
  all_goals
   have a:=d.o;have c:=i.o;refine⟨T0 ?_,rfl⟩;rw[f.o]
   first | (rw[XA a.1];done) | (rw[XA a.1,c])
theorem oO(f:Xu)(r s:Nat)(a:Fs)(w:World)(l:lL w H a)(m:lL w f a)(J:a.length<=4294967296) :
  Calls prog 27 #[slice H a.length r,slice f a.length s] w fun e v=>e=returned (bool true)/\∃n,v=w.drewN n:=by
 have p:Xr (lL w H a):=l;have q:Xr (lL w f a):=m;clear l m;go_enter func27,ntmps27;go_wp2
 go_loopg [5] a.length (fun g i wr=>∃k:Nat,k<=a.length/\g=a.length-k/\i=int i64 k/\Xr (∃n,wr=w.drewN n))
 ·exact⟨0,by omega,by omega,rfl,0,rfl⟩
 obtain⟨k,I,G,rfl,c⟩:=hrel;have j:Xr (ae [] w wr):=by show ae _ _ _;obtain⟨n,e⟩:=c.o;rw[e];exact(ae.refl [] w).drewN n
 rcases kn k a.length with ⟨b,t⟩ | ⟨b,u⟩
 ·obtain⟨C,L,rfl,E,x,y⟩:=(lL.Yu p.o j.o (by simp)) k b;obtain⟨D,M,rfl,F,z,A⟩:=(lL.Yu q.o j.o (by simp)) k b;generalize aF a k=K at *;generalize ak a k=B at *;go_upto_region 6 with fail
  go_quiet (fail);have d:Xr (∃n,wr.drewN nq=w.drewN n):=by show ∃_,_;obtain⟨n,e⟩:=c.o;exact⟨n+nq,by rw[e,Xa]⟩
  go_wp2;go_roundg (a.length-(k+1))
  ·exact⟨k+1,by omega,rfl,by go_num,d⟩
  omega
 ·go_wp2;go_ret;exact⟨rfl,c.o⟩
theorem Fz{P:Program}(q F G:TypeId)(g m c n:Nat)(d:Xu)(r:ew)(a:Array Value)(t:TypeId)(E:P.underlying q=some (.slice r.e))(u:(P.info? r.e).map (·.size)=some r.size)(s:l.heap[g]?=some (.cells a t))(C:r.n=n)(B:r.xs.length=r.n*r.size)(x:d=none->r.xs=[])(z:∀b,d=some b->∀j v,r.xs[j]?=some v->l.cell? (b.add j)=some v)(D:a.size=r.n*r.size)(y:∀v∈r.xs,v.oneCell'=true) :
  ∃k,(Builtin.copy_ #[q,F] G #[slice (some ⟨g,0,none⟩) n m,slice d n c]).run P l=.ok (goInt n) k/\k.heap[g]?=some (.cells r.xs.toArray t)/\ae [g] l k/\k.heap.size=l.heap.size:=by
 subst C;refine⟨l.setRow g r.xs.toArray,?_,setRow_heap l g _ _ t _ s,v8 (ae.refl _ _) (Us (by simp)) _,by simp[World.setRow]⟩;have f:=run_storeCells_at P g 0 t r.xs 0 a l s (by simp;omega) y;have w:(a.toList.take (0+0)++r.xs++a.toList.drop (0+0+r.xs.length))=r.xs:=by
  simp;omega
 rw[w]at f;have o:(Builtin.firstCells r.size r.n (slice d r.n c)).run P l=.ok r.xs.toArray l:=by
  cases d with
  | none=>rw[x rfl];exact run_firstCells_none l _ _ _ _
  | some b=>exact run_firstCells_some l r.size r.n b r.n c r.xs B (z b rfl)
 cases p:P.info? r.e with
 | none=>simp[p]at u
 | some i =>
  have A:i.size=r.size:=by simpa [p] using u
  simp[Builtin.copy_,run_underlying E,Builtin.lenOf,sizeOf,typeInfo,p,A,o,f]
theorem lL.cells{w:World}{i:Xu}{b:Fs}(h:lL w i b):(i=none->rY b=[])/\∀f,i=some f->∀j v,(rY b)[j]?=some v->w.cell? (f.add j)=some v:=by
 refine⟨fun e=>?_,fun f e j v d=>?_⟩
 ·cases b with
  | nil=>rfl
  | cons a L=>obtain⟨g,o,c,-⟩:=h 0 (by simp);rw[e]at c;cases c
 ·have q:j<b.length*2:=by
   rw[<-wQ];exact(Uk.1 d).1
  obtain⟨g,o,c,-,k,l⟩:=h (j / 2) (by omega);rw[e]at c;cases c
  obtain⟨m,n⟩:=xN b (j / 2) (by omega);have p:(⟨g,o,none⟩:Addr).add j=⟨g,o+j,none⟩:=by simp[Addr.add]
  rw[p];rcases XF j with e | e
  ·rw[show o+j / 2*2=o+j by omega]at k;rw[show j / 2*2=j by omega]at m;rw[m]at d;rw[k,<-d]
  ·rw[show o+j / 2*2+1=o+j by omega]at l;rw[show j / 2*2+1=j by omega]at n;rw[n]at d;rw[l,<-d]
theorem kt(a:Fs)(b:World)(u:lL b H a)(E:a.length<=1073741824) :
  Calls prog 30 #[slice H a.length w] b fun e x=>e=returned (slice (some ⟨b.heap.size,0,none⟩) a.length a.length)/\x.heap[b.heap.size]?=some (.cells (rY a).toArray 68)/\ae [] b x:=by
 obtain⟨B,v,p,j,q⟩:=UC BI;have C:=fun b=>dV (P:=prog) b 33 68 B _ underlying33 v p a.length 2 j (by rw[q];omega) (by omega);obtain⟨f,c⟩:∃D,D=madeCells (agg #[string ⟨#[]⟩,string ⟨#[]⟩]).cells (a.length*2):=⟨_,rfl⟩
 have z:f.size=a.length*2:=by rw[c,VH]
 rw[<-c]at C;clear c;obtain⟨W,m⟩:=bm (b.alloc (.cells f 68));have s:=fg m.o;have t:=fE m.o;have d:(prog.info? (de a).e).map (·.size)=some (de a).size:=by simp[de,v,j]
 have n:=(u.Yu s (by simp)).cells;obtain⟨y,A,g,i,r⟩:=Fz (P:=prog) W 33 33 3 b.heap.size a.length w a.length H (de a) f 68 underlying33 d t rfl (wQ a) n.1 n.2 z (IL a);have k:Xr (y.heap[b.heap.size]?=some (.cells (rY a).toArray 68)):=g;have l:Xr (ae [] b y):=((s.mono (S':=[b.heap.size]) (by simp)).trans i).mono (by simp);clear u s t n d g i r z;go_enter func30,ntmps30;go_upto_region 2 with fail
 rw[m.o];go_wp2;go_ret;exact⟨rfl,k.o,l.o⟩
end Go.Proofs.YtnbhnocdhbcbcaaGreat
