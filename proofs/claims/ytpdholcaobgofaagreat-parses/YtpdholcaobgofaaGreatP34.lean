import Derived.Test.YtpdholcaobgofaaGreatP33
namespace Go.Proofs.YtpdholcaobgofaaGreat
open Go.RowKit Tryz
open Value IntKind Ending
set_option maxHeartbeats 0
variable{n b:World}{l:Hd}{H:List oU}(w:oU->Prop)
def zI(X:oU->Prop):Prop:=∀(b N:Nat) (I:Nat×Nat->It) (M:Mc) (ht:Hd) (TS:List Tx) (o:oU) (w:World),dj w b I M ht TS N->N<=1073741824->FF X o->X o->M.V.length≠0->Calls prog 8 #[pointer (some ⟨b,0,none⟩),agg #[int i64 o.k,int i64 o.a,int i64 o.c,int i64 o.d,string o.s,string o.t]] w fun e w'=>rT b I N e w'
theorem PE(L:zI w)(B:∀o,w o->(8<=o.k/\o.k<=14)∨19<=o.k)(b N:Nat)(I:Nat×Nat->It)(M:Mc)(H:Hd)(z:List Tx)(o:oU)(f:World)(h:dj f b I M H z N)(l:N<=1073741824)(K:FF w o) :
  Calls prog 8 #[pointer (some ⟨b,0,none⟩),agg #[int i64 o.k,int i64 o.a,int i64 o.c,int i64 o.d,string o.s,string o.t]] f fun e u=>rT b I N e u:=by
 have F:=K;obtain⟨k,A,C,D,s,t⟩:=o;obtain⟨r,y,O,G,p,x⟩:=K;have J:=B ⟨k,A,C,D,s,t⟩;simp only at *;have i:=h.m;have j:∀{c:Calls prog 8 #[pointer (some ⟨b,0,none⟩),agg #[int i64 k,int i64 A,int i64 C,int i64 D,string s,string t]] f (fun e u=>jS b I M N true e u)},Calls prog 8 #[pointer (some ⟨b,0,none⟩),agg #[int i64 k,int i64 A,int i64 C,int i64 D,string s,string t]] f (fun e u=>rT b I N e u):=fun {c}=>c.mono (fun e u q=>h.up q);have E:k=1∨k=2∨k=3∨k=4∨k=5∨k=6∨k=7∨k=15∨k=16∨k=17∨k=18∨(k=8∨k=9∨k=10∨w ⟨k,A,C,D,s,t⟩):=by
  rcases x with x | x | x
  ·omega
  ·omega
  ·simp only[x,or_true]
 rcases E with rfl | rfl | rfl | rfl | rfl | rfl | rfl | rfl | rfl | rfl | rfl | n
 ·exact j (c:=jQ b N I M _ A C D s t f i (fun W g=>zaM b N I M A C D s t W g l))
 ·exact j (c:=jQ b N I M _ A C D s t f i (fun W g=>zaN b N I M A C D s t W g l G p))
 ·exact j (c:=jQ b N I M _ A C D s t f i (fun W g=>zaO b N I M A C D s t W g))
 ·exact j (c:=jQ b N I M _ A C D s t f i (fun W g=>zaP b N I M A C D s t W g l))
 ·exact j (c:=jQ b N I M _ A C D s t f i (fun W g=>zaQ b N I M A C D s t W g l))
 ·exact j (c:=jQ b N I M _ A C D s t f i (fun W g=>zaR b N I M A C D s t W g l r y G p))
 ·exact j (c:=jQ b N I M _ A C D s t f i (fun W g=>zaS b N I M A C D s t W g r y O))
 ·exact j (c:=jQ b N I M _ A C D s t f i (fun W g=>VH b N I M A C D s t W g))
 ·exact j (c:=jQ b N I M _ A C D s t f i (fun W g=>VI b N I M A C D s t W g))
 ·exact j (c:=jQ b N I M _ A C D s t f i (fun W g=>VJ b N I M A C D s t W g h.q))
 ·exact PD b 18 A C D s t f _ (fun W P=>VK b N I M H z A C D s t W (h.Zbj P) l r y)
 by_cases v:M.V.length=0
 ·exact j (c:=PI b N I M k A C D s t f i (by rcases n with n | n | n | n;omega;omega;omega;exact J n) v)
 ·rcases n with rfl | rfl | rfl | n
  ·exact j (c:=zcc b N I M A C D s t f i v r y l)
  ·exact j (c:=zcd b N I M A C D s t f i v r l G p)
  ·exact j (c:=zbg b N I M A C D s t f i v r l)
  ·exact L b N I M H z ⟨k,A,C,D,s,t⟩ f h l F n v
theorem Sg{d:World}(s:aa [] n b)(r:aD b l (jo H))(k:aa [] b d)(p:d.heap[b.heap.size]?=some (.cells mc0.cells.toArray 42)):∃I,dj d b.heap.size I mc0 ⟨none,0⟩ [] 0/\I (10,0)=itO n l H:=by
 have t:qq b (gC (fun _=>itN) (10,0) (itO n l H)):=by
  refine⟨fun q=>?_,fun q D a C g o=>?_⟩
  ·by_cases e:q=(10,0)
   ·subst e;rw[b9];exact⟨s,r⟩
   ·rw[aA _ _ e];exact trivial
  ·by_cases e:q=(10,0)
   ·subst e;rw[aA _ _ (Ne.symm a)]at o;cases o
   ·rw[aA _ _ e]at g;cases g
 have u:=t.put (0,0) (vk b.heap.size 42 mc0.cells) (k.mono (by simp)) p (fun q a=>XK (by rw[XH.1 a];exact Xy _));have v:=u.put (1,0) (de ⟨none,0⟩ (nk 46 [])) (aa.refl _ _) (XE _ _ _ _) (fun q a=>by cases a);have w:=v.put (2,0) (de ⟨none,0⟩ (nk 47 [])) (aa.refl _ _) (XE _ _ _ _) (fun q a=>by cases a);have y:=w.put (3,0) (de ⟨none,0⟩ (dq [])) (aa.refl _ _) (XE _ _ _ _) (fun q a=>by cases a);have z:=y.put (4,0) (de ⟨none,0⟩ (jB [])) (aa.refl _ _) (XE _ _ _ _) (fun q a=>by cases a);have A:=z.put (5,0) (de ⟨none,0⟩ (jB [])) (aa.refl _ _) (XE _ _ _ _) (fun q a=>by cases a);have B:=A.put (11,0) (de ⟨none,0⟩ (oq [])) (aa.refl _ _) (XE _ _ _ _) (fun q a=>by cases a);refine⟨_,⟨⟨B,?_,?_,?_,?_,?_,?_,(fun i x m f c=>by cases c),(fun i x m f c=>by cases c),(fun j=>⟨by show(0:Nat)<=_;omega,by show(0:Nat)<=_;omega⟩),⟨Xy _,Xy _,Xy _⟩,⟨⟨by decide,by decide⟩,⟨by decide,by decide⟩,by decide,by decide⟩⟩,rfl,⟨rfl,b9 _ _ _,(fun i x m f c=>by cases c),XX _⟩⟩,?_⟩
 all_goals (simp only[gC];rfl)
theorem zch(C:zI w)(q:∀o,w o->(8<=o.k/\o.k<=14)∨19<=o.k)(g:World)(h:Hd)(L:List oU)(d:World)(E:aa [] g d)(s:aD d h (jo L))(B:L.length<=1073741824)(t:∀i,i<L.length->FF w (mE L i)) :
  Calls prog 7 #[slice h.ao L.length h.cap] d fun e x=>e=returned (int i64 (-1))/\aa [] g x:=by
 refine Uf w g h L d B t (fun n wr=>∃I M b a,dj wr d.heap.size I M b a n/\I (10,0)=itO g h L) ?_ ?_ ?_ ?_ ?_
 ·intro W F D;obtain⟨I,l,p⟩:=Sg E s F D;exact⟨I,_,_,_,l,p⟩
 ·rintro n wr ⟨I,M,b,a,c,f⟩;have v:=c.m.sep.all (10,0);rw[f]at v;exact v
 ·rintro n wr G ⟨I,M,b,a,c,f⟩ k;exact⟨I,M,b,a,c.Zbj k,f⟩
 ·rintro n wr o ⟨I,M,b,a,c,f⟩ r s;refine(PE w C q d.heap.size n I M b a o wr c r s).mono ?_;rintro e x ⟨l,y,z,u,j,p,A⟩;exact⟨l,y,z,u,j,p,(A 10 0 (XQ rfl)).trans f⟩
 ·rintro n wr ⟨I,M,b,a,c,f⟩ r;exact Ot d.heap.size n I M b a wr c r
theorem za3(q:zI w)(f:∀o,w o->(8<=o.k/\o.k<=14)∨19<=o.k)(c:Xt)(b:Nat)(l:List oU)(K:List Int)(m:Xt)(a:World)(s:l.length<=140737488351232)(r:oj a c l)(i:∀o∈l,Cc o)(g:zG a m K)(d:K.length<=100)(n:∀o∈l,o.k∈K->w o) :
  Calls prog 5 #[slice c l.length b,slice m K.length K.length] a fun e u=>e=returned (bool true)/\aa [] a u :=
 OR w c b l K m a s r i g d n (fun h L wr t i p j=>zch w q f a h L wr t i p j)
theorem aD.opsIn(o:aD n l (jo H)):oj n l.ao H:=fun i x c=>by
 obtain⟨g,e,b,a⟩:=(aD.srcG (f:=Qr) o (fun _=>rfl)) i x c;exact⟨g,0,e,b,fun j u d=>by rw[Zf];exact a j u d⟩
theorem Sw{d:Int}(b:tP d){o:oU}(h:Cc o):Cc (qL d o):=by
 unfold qL;split
 ·exact⟨h.k,h.a,h.c,b,h.s,h.t⟩
 ·exact h
def XT(d:Int)(o:oU):Prop:=o.k=d∨(o.k=19/\o.d=d)
theorem za2(d:Int)(g:tP d)(f:zI (XT d))(i:(8<=d/\d<=14)∨19<=d)(r:H.length*64<=140737488351232)(j:∀o∈H,Cc o)(p:iG n b l (jo (H.map (qL d)))) :
  Calls prog 5 #[slice l.ao H.length l.cap,slice (some ⟨b.heap.size,0,none⟩) 2 2] (b.alloc (.cells #[int i64 d,int i64 19] 3)) fun e m=>e=returned (bool true)/\aa [] (b.alloc (.cells #[int i64 d,int i64 19] 3)) m:=by
 have:=za3 (XT d) f (fun o h=>by rcases h with h | ⟨h,-⟩ <;> omega) l.ao l.cap (H.map (qL d)) [d,19] (some ⟨b.heap.size,0,none⟩) (b.alloc (.cells #[int i64 d,int i64 19] 3)) (by rw[XZ];omega) (p.ZbH.opsIn.Zbj (bH.alloc _)) (fun o h=>by
  obtain⟨q,c,rfl⟩:=YN.1 h;exact Sw g (j q c)) (zG.of (XD _ _)) (by show 2<=100;decide) (fun o h a=>by
  obtain⟨q,c,rfl⟩:=YN.1 h;simp only[List.mem_cons,List.not_mem_nil,or_false]at a;rcases a with a | a
  ·exact XQ a
  ·refine XK ⟨a,?_⟩;unfold qL at a ⊢;by_cases e:q.k=19
   ·rw[XA e]
   ·rw[Xz e]at a;exact absurd a e)
 rw[XZ]at this;exact this
end Go.Proofs.YtpdholcaobgofaaGreat
