import Derived.Test.YtnbhnocdhbcbcaaGreatU33
namespace Go.Proofs.YtnbhnocdhbcbcaaGreat
open Go.RowKit Tryz
open Value IntKind Ending
set_option maxHeartbeats 0
variable{n b:World}{l:Hd}{H:List nI}(w:nI->Prop)
def xm(X:nI->Prop):Prop:=∀(b N:Nat) (I:Nat×Nat->It) (M:Mc) (ht:Hd) (TS:List Tx) (o:nI) (w:World),da w b I M ht TS N->N<=1073741824->CV X o->X o->M.V.length≠0->Calls prog 10 #[pointer (some ⟨b,0,none⟩),agg #[int i64 o.k,int i64 o.a,int i64 o.c,int i64 o.d,string o.s,string o.t]] w fun e w'=>qn b I N e w'
theorem LD(L:xm w)(B:∀o,w o->(8<=o.k/\o.k<=14)∨19<=o.k)(b N:Nat)(I:Nat×Nat->It)(M:Mc)(H:Hd)(z:List Tx)(o:nI)(f:World)(h:da f b I M H z N)(l:N<=1073741824)(K:CV w o) :
  Calls prog 10 #[pointer (some ⟨b,0,none⟩),agg #[int i64 o.k,int i64 o.a,int i64 o.c,int i64 o.d,string o.s,string o.t]] f fun e u=>qn b I N e u:=by
 have F:=K;obtain⟨k,A,C,D,s,t⟩:=o;obtain⟨r,y,O,G,p,x⟩:=K;have J:=B ⟨k,A,C,D,s,t⟩;simp only at *;have i:=h.m;have j:∀{c:Calls prog 10 #[pointer (some ⟨b,0,none⟩),agg #[int i64 k,int i64 A,int i64 C,int i64 D,string s,string t]] f (fun e u=>jo b I M N true e u)},Calls prog 10 #[pointer (some ⟨b,0,none⟩),agg #[int i64 k,int i64 A,int i64 C,int i64 D,string s,string t]] f (fun e u=>qn b I N e u):=fun {c}=>c.mono (fun e u q=>h.up q);have E:k=1∨k=2∨k=3∨k=4∨k=5∨k=6∨k=7∨k=15∨k=16∨k=17∨k=18∨(k=8∨k=9∨k=10∨w ⟨k,A,C,D,s,t⟩):=by
  rcases x with x | x | x
  ·omega
  ·omega
  ·simp only[x,or_true]
 rcases E with rfl | rfl | rfl | rfl | rfl | rfl | rfl | rfl | rfl | rfl | rfl | n
 ·exact j (c:=jh b N I M _ A C D s t f i (fun W g=>RV b N I M A C D s t W g l))
 ·exact j (c:=jh b N I M _ A C D s t f i (fun W g=>RY b N I M A C D s t W g l G p))
 ·exact j (c:=jh b N I M _ A C D s t f i (fun W g=>RZ b N I M A C D s t W g))
 ·exact j (c:=jh b N I M _ A C D s t f i (fun W g=>R0 b N I M A C D s t W g l))
 ·exact j (c:=jh b N I M _ A C D s t f i (fun W g=>R2 b N I M A C D s t W g l))
 ·exact j (c:=jh b N I M _ A C D s t f i (fun W g=>R4 b N I M A C D s t W g l r y G p))
 ·exact j (c:=jh b N I M _ A C D s t f i (fun W g=>R6 b N I M A C D s t W g r y O))
 ·exact j (c:=jh b N I M _ A C D s t f i (fun W g=>Qd b N I M A C D s t W g))
 ·exact j (c:=jh b N I M _ A C D s t f i (fun W g=>Qe b N I M A C D s t W g))
 ·exact j (c:=jh b N I M _ A C D s t f i (fun W g=>Qf b N I M A C D s t W g h.q))
 ·exact LC b 18 A C D s t f _ (fun W P=>Qg b N I M H z A C D s t W (h.Yh P) l r y)
 by_cases v:M.V.length=0
 ·exact j (c:=LG b N I M k A C D s t f i (by rcases n with n | n | n | n;omega;omega;omega;exact J n) v)
 ·rcases n with rfl | rfl | rfl | n
  ·exact j (c:=Te b N I M A C D s t f i v r y l)
  ·exact j (c:=Tf b N I M A C D s t f i v r l G p)
  ·exact j (c:=So b N I M A C D s t f i v r l)
  ·exact L b N I M H z ⟨k,A,C,D,s,t⟩ f h l F n v
theorem NF{d:World}(s:ae [] n b)(r:aB b l (iO H))(k:ae [] b d)(p:d.heap[b.heap.size]?=some (.cells R8.cells.toArray 42)):∃I,da d b.heap.size I R8 ⟨none,0⟩ [] 0/\I (10,0)=Ty n l H:=by
 have t:pH b (fT (fun _=>TN) (10,0) (Ty n l H)):=by
  refine⟨fun q=>?_,fun q D a C g o=>?_⟩
  ·by_cases e:q=(10,0)
   ·subst e;rw[bV];exact⟨s,r⟩
   ·rw[au _ _ e];exact trivial
  ·by_cases e:q=(10,0)
   ·subst e;rw[au _ _ (Ne.symm a)]at o;cases o
   ·rw[au _ _ e]at g;cases g
 have u:=t.put (0,0) (sS b.heap.size 42 R8.cells) (k.mono (by simp)) p (fun q a=>Uo (by rw[Uq.1 a];exact Ue _));have v:=u.put (1,0) (cW ⟨none,0⟩ (mh 46 [])) (ae.refl _ _) (Uj _ _ _ _) (fun q a=>by cases a);have w:=v.put (2,0) (cW ⟨none,0⟩ (mh 47 [])) (ae.refl _ _) (Uj _ _ _ _) (fun q a=>by cases a);have y:=w.put (3,0) (cW ⟨none,0⟩ (de [])) (ae.refl _ _) (Uj _ _ _ _) (fun q a=>by cases a);have z:=y.put (4,0) (cW ⟨none,0⟩ (iY [])) (ae.refl _ _) (Uj _ _ _ _) (fun q a=>by cases a);have A:=z.put (5,0) (cW ⟨none,0⟩ (iY [])) (ae.refl _ _) (Uj _ _ _ _) (fun q a=>by cases a);have B:=A.put (11,0) (cW ⟨none,0⟩ (nf [])) (ae.refl _ _) (Uj _ _ _ _) (fun q a=>by cases a);refine⟨_,⟨⟨B,?_,?_,?_,?_,?_,?_,(fun i x m f c=>by cases c),(fun i x m f c=>by cases c),(fun j=>⟨by show(0:Nat)<=_;omega,by show(0:Nat)<=_;omega⟩),⟨Ue _,Ue _,Ue _⟩,⟨⟨by decide,by decide⟩,⟨by decide,by decide⟩,by decide,by decide⟩⟩,rfl,⟨rfl,bV _ _ _,(fun i x m f c=>by cases c),UF _⟩⟩,?_⟩
 all_goals (simp only[fT];rfl)
theorem Tl(C:xm w)(q:∀o,w o->(8<=o.k/\o.k<=14)∨19<=o.k)(g:World)(h:Hd)(L:List nI)(d:World)(E:ae [] g d)(s:aB d h (iO L))(B:L.length<=1073741824)(t:∀i,i<L.length->CV w (lN L i)) :
  Calls prog 9 #[slice h.ao L.length h.cap] d fun e x=>e=returned (int i64 (-1))/\ae [] g x:=by
 refine OP w g h L d B t (fun n wr=>∃I M b a,da wr d.heap.size I M b a n/\I (10,0)=Ty g h L) ?_ ?_ ?_ ?_ ?_
 ·intro W F D;obtain⟨I,l,p⟩:=NF E s F D;exact⟨I,_,_,_,l,p⟩
 ·rintro n wr ⟨I,M,b,a,c,f⟩;have v:=c.m.sep.all (10,0);rw[f]at v;exact v
 ·rintro n wr G ⟨I,M,b,a,c,f⟩ k;exact⟨I,M,b,a,c.Yh k,f⟩
 ·rintro n wr o ⟨I,M,b,a,c,f⟩ r s;refine(LD w C q d.heap.size n I M b a o wr c r s).mono ?_;rintro e x ⟨l,y,z,u,j,p,A⟩;exact⟨l,y,z,u,j,p,(A 10 0 (Us rfl)).trans f⟩
 ·rintro n wr ⟨I,M,b,a,c,f⟩ r;exact Kt d.heap.size n I M b a wr c r
theorem Sg(q:xm w)(f:∀o,w o->(8<=o.k/\o.k<=14)∨19<=o.k)(c:Xu)(b:Nat)(l:List nI)(K:List Int)(m:Xu)(a:World)(s:l.length<=140737488351232)(r:m9 a c l)(i:∀o∈l,zz o)(g:xk a m K)(d:K.length<=100)(n:∀o∈l,o.k∈K->w o) :
  Calls prog 6 #[slice c l.length b,slice m K.length K.length] a fun e u=>e=returned (bool true)/\ae [] a u :=
 KZ w c b l K m a s r i g d n (fun h L wr t i p j=>Tl w q f a h L wr t i p j)
theorem aB.opsIn(o:aB n l (iO H)):m9 n l.ao H:=fun i x c=>by
 obtain⟨g,e,b,a⟩:=(aB.srcG (f:=Mh) o (fun _=>rfl)) i x c;exact⟨g,0,e,b,fun j u d=>by rw[V3];exact a j u d⟩
theorem NO{d:Int}(b:rx d){o:nI}(h:zz o):zz (pn d o):=by
 unfold pn;split
 ·exact⟨h.k,h.a,h.c,b,h.s,h.t⟩
 ·exact h
def XT(d:Int)(o:nI):Prop:=o.k=d∨(o.k=19/\o.d=d)
theorem Sf(d:Int)(g:rx d)(f:xm (XT d))(i:(8<=d/\d<=14)∨19<=d)(r:H.length*64<=140737488351232)(j:∀o∈H,zz o)(p:ip n b l (iO (H.map (pn d)))) :
  Calls prog 6 #[slice l.ao H.length l.cap,slice (some ⟨b.heap.size,0,none⟩) 2 2] (b.alloc (.cells #[int i64 d,int i64 19] 3)) fun e m=>e=returned (bool true)/\ae [] (b.alloc (.cells #[int i64 d,int i64 19] 3)) m:=by
 have:=Sg (XT d) f (fun o h=>by rcases h with h | ⟨h,-⟩ <;> omega) l.ao l.cap (H.map (pn d)) [d,19] (some ⟨b.heap.size,0,none⟩) (b.alloc (.cells #[int i64 d,int i64 19] 3)) (by rw[Uy];omega) (p.YF.opsIn.Yh (bM.alloc _)) (fun o h=>by
  obtain⟨q,c,rfl⟩:=Vf.1 h;exact NO g (j q c)) (xk.of (Ui _ _)) (by show 2<=100;decide) (fun o h a=>by
  obtain⟨q,c,rfl⟩:=Vf.1 h;simp only[List.mem_cons,List.not_mem_nil,or_false]at a;rcases a with a | a
  ·exact Us a
  ·refine Uo ⟨a,?_⟩;unfold pn at a ⊢;by_cases e:q.k=19
   ·rw[Uf e]
   ·rw[Ud e]at a;exact absurd a e)
 rw[Uy]at this;exact this
end Go.Proofs.YtnbhnocdhbcbcaaGreat
