import Derived.Test.YtnbhnocdhbcbcaaGreatK11
namespace Go.Proofs.YtnbhnocdhbcbcaaGreat
open Go.RowKit Tryz
open Value IntKind Ending
set_option maxHeartbeats 0
variable{M t:List Rw}{N:Xv}{S D:World}{T y:Nat}{f:List St}{x:Nat->Hd}{g:Fs}(I:World)(L n:Nat)(o:Xs)(b:List St)(m:Nat->Hd)(d:List Rw)(H:Nat)(z4 z5 z6 z7:Value)(a:Fs)(s:Xs)(i:World)(w:Nat)
def ln(l:List St)(n:Nat)(prev:List Rw):Rw:=match l[n]? with
 | some s=>if(s.XS==4)=true then⟨s.XU,1,0,lm⟩ else if(s.XS==5)=true then dq l n s prev else qr
 | none=>qr
def bP(l:List St):Nat->List Rw
 | 0=>[]
 | k+1=>bP l k++[ln l k (bP l k)]
theorem pO(k:Nat):(bP b k).length=k:=by
 induction k with
 | zero=>rfl
 | succ k a=>simp[bP,a]
def kj(l:List St)(k:Nat):List Rw:=bP l k++List.replicate (l.length-k) qr
theorem xZ(h:w<=b.length):(kj b w).length=b.length:=by simp[kj,pO];omega
theorem Kr(h:w<b.length):kj b (w+1)=(kj b w).set w (ln b w (bP b w)):=by
 unfold kj;have e:b.length-w=(b.length-(w+1))+1:=by omega
 rw[e,Wj,bP];have a:=pO b w;rw[Vv _ _ (by omega),a,Uy,VT,U4];rfl
theorem Nx:kj b b.length=bP b b.length:=by simp[kj]
theorem Ny(h:w<b.length):(kj b w).set w qr=kj b w:=by
 unfold kj;have e:b.length-w=(b.length-(w+1))+1:=by omega
 have a:=pO b w;rw[e,Wj,Vv _ _ (by omega),a,Uy,VT]
theorem Oy:eN (d++List.replicate H qr) w=eN d w:=by
 unfold eN;rw[Tn,Tn];by_cases h:w<d.length
 ·rw[TP h]
 ·rw[TI (by omega),Um (l:=d) (by omega),UO];split <;> rfl
theorem DV(h:∀n,eN M n=eN t n)(a:List kC):mZ M a=mZ t a:=by
 unfold mZ;simp only[h]
theorem Bs(h:∀n,eN M n=eN t n)(l:List St)(n:Nat)(s:St):dq l n s M=dq l n s t:=by
 unfold dq kF;rw[DV h]
theorem Fr(s:St)(k:Nat):dq b w s (kj b k)=dq b w s (bP b k):=Bs (fun _=>Oy _ _ _) b w s
theorem oY(A M B:List Value)(i j:Nat)(v:Value)(a:i=A.length+j)(b:j<M.length):(A++(M++B)).set i v=A++(M.set j v++B):=by
 subst a;rw[Vv _ _ (by omega),Nat.add_sub_cancel_left,Wb _ _ b]
theorem Aq(a:w<d.length):lG d=lG (d.take w)++(nR d[w]++lG (d.drop (w+1))):=by
 have e:d=d.take w++(d[w] :: d.drop (w+1)):=by rw[<-TU a,List.take_append_drop]
 conv=>lhs;rw[e]
 unfold lG;rw[U3,Uu]
theorem Qi(a:w<d.length)(r:Rw) :
  (((((((lG d).set (w*6) (string r.XU)).set (w*6+1) (int i64 r.XE)).set (w*6+2) (int i64 r.why)).set (w*6+3) (string r.at_.XY)).set (w*6+4) (int i64 r.at_.XZ)).set (w*6+5) (int i64 r.at_.X0))=lG (d.set w r):=by
 have c:(lG (d.take w)).length=w*6:=by rw[Ee,UI];congr 1;omega
 have b:lG (d.set w r)=lG (d.take w)++(nR r++lG (d.drop (w+1))):=by
  rw[Aq (d.set w r) w (by simpa using a)];simp[List.take_set,List.drop_set];rw[List.set_eq_of_length_le (by simp;omega)]
 rw[b,Aq d w a,nR,oY _ _ _ _ 0 _ (by omega) (by simp),oY _ _ _ _ 1 _ (by omega) (by simp),oY _ _ _ _ 2 _ (by omega) (by simp),oY _ _ _ _ 3 _ (by omega) (by simp),oY _ _ _ _ 4 _ (by omega) (by simp),oY _ _ _ _ 5 _ (by omega) (by simp)];rfl
theorem ae.wide(k:ae [] S D):ae N S D:=k.mono (by simp)
def Eg(w:World)(g k:Nat)(r:Rw):World :=
 (((((w.setCell ⟨g,k*6,none⟩ (string r.XU)).setCell ⟨g,k*6+1,none⟩ (int i64 r.XE)).setCell ⟨g,k*6+2,none⟩ (int i64 r.why)).setCell ⟨g,k*6+3,none⟩ (string r.at_.XY)).setCell ⟨g,k*6+4,none⟩ (int i64 r.at_.XZ)).setCell ⟨g,k*6+5,none⟩ (int i64 r.at_.X0)
theorem ti(r:Rw):ae [H] I (Eg I H w r) :=
 ((((((ae.refl [H] I).sl1 _).sl1 _).sl1 _).sl1 _).sl1 _).sl1 _
theorem jA.store{g:Nat}(h:jA S T y f x g M)(c:T≠g)(j:∀a,ij x a->a≠g)(k:Nat)(l:k<M.length)(r:Rw):jA (Eg S g k r) T y f x g (M.set k r):=by
 have d:=ti S g k r;obtain⟨b,t,e,i⟩:=h.cell;refine⟨h.recd.XQ d (by simpa using c) (fun a m=>by simpa using j a m),⟨b,t,d.get e (by simpa using c),by rw[Ul];exact i⟩,?_⟩;unfold Eg;rw[ab (ab (ab (ab (ab (ab h.arr _ _) _ _) _ _) _ _) _ _)];simp only[List.setIfInBounds_toArray];rw[Qi M k l r]
def wg(l:List St)(H:Nat->Hd):Nat->Hd:=fun i=>if i=6∨(10<=i/\i<10+2*l.length) then H i else⟨none,0⟩
theorem pk(h:w=6∨(10<=w/\w<10+2*b.length)):wg b m w=m w:=Tq h
theorem ir.trim(h:ir S f x):ir S f (wg f x)/\∀k,ij (wg f x) k->k<S.heap.size/\ij x k:=by
 refine⟨⟨?_,fun i s c=>?_,fun i s c=>?_⟩,?_⟩
 ·have e:nk f (wg f x)=nk f x:=by
   rw[<-wa f x (fun i=>if i<10+2*f.length then x i else⟨none,0⟩) (fun j g=>Tq g)];apply yK;intro j g;by_cases b:j<10+2*f.length
   ·simp only[if_pos b];exact pk f x j (TA ⟨g,b⟩)
   ·simp only[if_neg b];exact To (by omega)
  rw[pk f x 6 (TG rfl)];unfold ji;rw[e];exact h.X6
 ·have a:i<f.length:=(Tz.1 c).1;rw[pk f x (10+2*i) (by omega)];exact h.syms i s c
 ·have a:i<f.length:=(Tz.1 c).1;rw[pk f x (11+2*i) (by omega)];exact h.prfs i s c
 ·rintro k ⟨i,a⟩;by_cases d:i=6∨(10<=i/\i<10+2*f.length)
  ·rw[pk f x i d]at a;refine⟨?_,⟨i,a⟩⟩;rcases d with rfl | ⟨l,m⟩
   ·exact h.X6.lt a
   ·by_cases n:(i-10) % 2=0
    ·have e:i=10+2*((i-10) / 2):=(by omega);rw[e]at a;have b:(i-10) / 2<f.length:=by omega
     exact(h.syms _ _ (Tm b)).lt a
    ·have e:i=11+2*((i-10) / 2):=(by omega);rw[e]at a;have b:(i-10) / 2<f.length:=by omega
     exact(h.prfs _ _ (Tm b)).lt a
  ·have e:wg f x i=⟨none,0⟩:=To d;rw[e]at a;simp[Hd.XR]at a
set_option maxRecDepth 100000
theorem t8(l:List St)(j:Nat->Hd)(Q:World)(h:jA Q n H l j w (kj l 0))(ok:jU l)(ac:∀i (hi:i<l.length),rW l[i])(hb:n≠w)(hg:∀x,ij j x->x≠w) :
  Calls prog 82 #[pointer (some ⟨n,H,none⟩)] Q fun e a=>e=returned (tuple #[])/\jA a n H l j w (bP l l.length)/\ae [w] Q a:=by
 have ap:=h.recd.lt;have ax:=aj h.arr;have ag:=ok.len;go_enter func82,ntmps82;go_wp2_with (go_at_call 114;refine(tG n H l j _ (by exact h.recd) ok).mono ?_;rintro e w1 ⟨W,K,rfl,A1,av,Z,k1⟩)
 go_loopg [3] l.length (fun gk iv wr=>∃(k:Nat),k<=l.length/\gk=l.length-k/\iv=int i64 k/\jA wr n H l j w (kj l k)/\iG wr W l l.length K/\ae [w] Q wr)
 ·exact⟨0,by omega,by omega,rfl,h.XD k1,A1,k1.wide⟩
 obtain⟨k,hk,ar,rfl,v,hA,hK⟩:=hrel;have m:Xr _:=xZ l k hk;have c2:=v.at2;rw[m.o]at c2;by_cases c:k<l.length
 ·have f:Xr (ln l k (bP l k)=if(l[k].XS==4)=true then⟨l[k].XU,1,0,lm⟩ else if(l[k].XS==5)=true then dq l k l[k] (kj l k) else qr):=by
   show _=_;unfold ln;rw[Tm c,Fr]
  have d:Xr _:=Kr l k c;go_upto_region 5 with (go_at_call 98;refine(bF n H k l j _ (by exact v.recd) c).mono ?_;rintro e R ⟨rfl,k3⟩;unfold fR)
  obtain⟨X,P⟩:∃X,X=R.alloc (.cells #[int i64 l[k].XS,string l[k].XU,slice (j (10+2*k)).ao l[k].Xy.length (j (10+2*k)).cap,slice (j (11+2*k)).ao l[k].XJ.length (j (11+2*k)).cap,string l[k].XX.XY,int i64 l[k].XX.XZ,int i64 l[k].XX.X0,int i64 l[k].til] 158):=⟨_,rfl⟩
  have kX:ae [] wr X:=by rw[P];exact k3.alloc _
  have BX:=f8 P.symm;rw[<-P];clear P;obtain⟨m0,m1,-⟩:=wn BX;have b:=v.XD kX;have N:=hA.XD kX;have V:=hK.trans kX.wide;have aS:wr.heap.size<=R.heap.size:=k3.size;have af:=aj v.arr;have ad:=v.recd.lt;have t:W≠w:=by omega
  have s:∀z x,(K z).XR=some x->x∉[w]:=fun z x hx=>by have:=Z z x hx;simp;omega
  have u:=b.at2;rw[m.o]at u;have y:k<(kj l k).length:=by rw[m.o];exact c
  obtain⟨F,G,I,J,L,M⟩:=b.row k y;have S:=am b.arr;have az:(k:Int)<l.length:=by omega
  have ai:R.heap.size≠w:=by omega
  have al:w≠R.heap.size:=by omega
  have an:w≠n:=fun e=>hb e.symm;clear c2;generalize (kj l k)[k]=g at *;cases O:(l[k].XS==4)
  ·cases Y:(l[k].XS==5)
   ·have D:Xr (kj l (k+1)=kj l k):=by
     show _=_;rw[d.o,f.o,O,Y];simp only[Bool.false_eq_true,if_false];exact Ny l k c
    clear f d;go_wp2;go_roundg (l.length-(k+1))
    ·exact⟨k+1,by omega,rfl,by go_num,by rw[D.o];exact b,N,V⟩
    omega
   ·have D:Xr (kj l (k+1)=(kj l k).set k (dq l k l[k] (kj l k))):=(by show _=_;rw[d.o,f.o,O,Y];rfl);have JA:=fun(a:World) (q:ae [] X a)=>JX n H k w W l j K (kj l k) a (b.XD q) ok c (ac k c) (N.XD q);have E:Xr _:=JA;have T:Xr (∀a,ae [] X a->a.cell? ⟨n,H+2,none⟩=some (slice (some ⟨w,0,none⟩) l.length l.length)):=by
     intro a q;have:=(b.XD q).at2;rw[m.o]at this;exact this
    have U:Xr (∀a,ae [] X a->a.cell? ⟨w,k*6,none⟩=some (string g.XU)/\a.cell? ⟨w,k*6+1,none⟩=some (int i64 g.XE)/\a.cell? ⟨w,k*6+2,none⟩=some (int i64 g.why)/\a.cell? ⟨w,k*6+3,none⟩=some (string g.at_.XY)/\a.cell? ⟨w,k*6+4,none⟩=some (int i64 g.at_.XZ)/\a.cell? ⟨w,k*6+5,none⟩=some (int i64 g.at_.X0)/\∀z,a.frozen? ⟨w,z,none⟩=false):=by
     intro a q;have A:=q.get b.arr (by simp);refine⟨?_,?_,?_,?_,?_,?_,fun z=>am A z⟩
     ·rw[ah A,<-ah b.arr];exact F
     ·rw[ah A,<-ah b.arr];exact G
     ·rw[ah A,<-ah b.arr];exact I
     ·rw[ah A,<-ah b.arr];exact J
     ·rw[ah A,<-ah b.arr];exact L
     ·rw[ah A,<-ah b.arr];exact M
    unfold nR at E;clear f d JA F G I J L M S;generalize dq l k l[k] (kj l k)=r at *;(go_upto_region 8 with fail);go_region_held3 (fun a=>a.cell? ⟨n,H+2,none⟩=some (slice (some ⟨w,0,none⟩) l.length l.length)) (go_keep) (first | (go_at_call 115;refine(E.o _ (by exact(ae.refl [] X).drew)).mono ?_;rintro e w5 ⟨rfl,k5⟩;have x0:=T.o w5 ((ae.refl [] X).drew.trans k5);obtain⟨F,G,I,J,L,M,S⟩:=U.o w5 ((ae.refl [] X).drew.trans k5)))
    all_goals
     have kk:=((ae.refl [] X).drew.trans k5);have p:=(b.XD kk).store hb hg k y r;have o:=ti w5 w k r;have B:=(N.XD kk).XQ o (by simpa using t) s;have C:=(V.trans kk.wide).trans o;rw[<-D.o]at p;unfold Eg at p o B C;clear m0 m1 u F G I J L M S x0;go_wp2;go_roundg (l.length-(k+1))
     ·exact⟨k+1,by omega,rfl,by go_num,p,B,C⟩
     omega
  ·have Y:(l[k].XS==5)=false:=(by have:=Wg O;rw[this];rfl);have D:Xr (kj l (k+1)=(kj l k).set k ⟨l[k].XU,1,0,lm⟩):=cg (by rw[d.o,f.o,O];rfl);clear f d;(go_upto_region 6 with fail);go_region
   all_goals
    have p:=b.store hb hg k y ⟨l[k].XU,1,0,lm⟩;have o:=ti X w k ⟨l[k].XU,1,0,lm⟩;have B:=N.XQ o (by simpa using t) s;have C:=V.trans o;rw[<-D.o]at p;unfold Eg at p o B C;simp only[lm]at p B C;clear m1 u F G I J L M S o;go_wp2;go_roundg (l.length-(k+1))
    ·exact⟨k+1,by omega,rfl,by go_num,p.XD kr0.drew,B.XD kr0.drew,C.drew⟩
    omega
 ·have e:k=l.length:=by omega
  subst e;rw[Nx]at v;go_wp2;go_end0;exact⟨rfl,v,hK⟩

theorem J5:madeCells (agg #[string ⟨#[]⟩,int i64 0,int i64 0,string ⟨#[]⟩,int i64 0,int i64 0]).cells (w*6)=(lG (List.replicate w qr)).toArray:=by
  have k:(agg #[string ⟨#[]⟩,int i64 0,int i64 0,string ⟨#[]⟩,int i64 0,int i64 0]).cells=(nR qr).toArray:=by rfl
  rw[k];apply Array.ext
  · rw[U6];simp[Ee]
  · intro i f g
    rw[U6]at f;have n:i / 6<(List.replicate w qr).length:=by simp;omega
    have e:=IQ (List.replicate w qr) (i / 6) n (i % 6) (by omega);have d:i / 6*6+i % 6=i:=(by omega);have a:(List.replicate w qr)[i / 6]=qr:=(by simp);rw[d,a]at e;have j:i<(lG (List.replicate w qr)).length:=by simpa using g
    have b:(lG (List.replicate w qr)).toArray[i]=(lG (List.replicate w qr))[i]:=(by simp);rw[b];have c:some (lG (List.replicate w qr))[i]=(nR qr)[i % 6]?:=by rw[<-e,Tm j]
    have l:some (madeCells (nR qr).toArray (w*6))[i]=(nR qr)[i % 6]?:=by
      have m:i % 6=0∨i % 6=1∨i % 6=2∨i % 6=3∨i % 6=4∨i % 6=5:=(by omega);have o:(nR qr).toArray.size=6:=rfl;simp only[madeCells,Array.getElem_map,Array.getElem_range,o];rcases m with h | h | h | h | h | h <;> rw[h] <;> rfl
    exact UP (l.trans c.symm)
theorem Nz:kj b 0=List.replicate b.length qr:=by simp[kj,bP]
theorem qV(h:ae [] S D)(b:S.heap.size<=T)(a:S.heap.size<=y)(c d e f g i j:Value) :
    ae [] S (((((((D.setCell ⟨T,0,none⟩ c).setCell ⟨T,1,none⟩ d).setCell ⟨T,2,none⟩ e).setCell ⟨y,0,none⟩ f).setCell ⟨y,1,none⟩ g).setCell ⟨y,2,none⟩ i).setCell ⟨y,3,none⟩ j) :=
  ((((((h.setCell (TA b) _).setCell (TA b) _).setCell (TA b) _).setCell (TA a) _).setCell (TA a) _).setCell (TA a) _).setCell (TA a) _
theorem uA(a b c:Value) :
    ae [n,H] I (((((((I.setCell ⟨n,0,none⟩ z4).setCell ⟨n,1,none⟩ z5).setCell ⟨n,2,none⟩ z6).setCell ⟨H,0,none⟩ z7).setCell ⟨H,1,none⟩ a).setCell ⟨H,2,none⟩ b).setCell ⟨H,3,none⟩ c) :=
  (((((((ae.refl [n,H] I).sl1 _).sl1 _).sl1 _).sl1 _).sl1 _).sl1 _).sl1 _
def EQ(fs:Fs)(k0:Nat)(w:World)(e:Ending)(w':World):Prop :=
  (if((bE fs k0).1.1==0)=true then ∃(H:Nat->Hd) (g:Nat) (a7:Xu) (n7 c7:Nat),
      e=returned (tuple #[agg #[slice (H 6).ao (bE fs k0).2.2.XP.length (H 6).cap,slice a7 n7 c7,slice (some ⟨g,0,none⟩) (bE fs k0).2.2.XP.length (bE fs k0).2.2.XP.length],iu cY]) /\
      ir w' (bE fs k0).2.2.XP H/\w'.heap[g]?=some (.cells (lG (bP (bE fs k0).2.2.XP (bE fs k0).2.2.XP.length)).toArray 38)/\(∀k,ij H k->w.heap.size<=k)/\w.heap.size<=g
   else e=returned (tuple #[agg #[slice none 0 0,slice none 0 0,slice none 0 0],iu (bE fs k0).1]))/\ae [] w w'
theorem Rn(K:List Value)(w:World)(ht:bO w L n a K)(ar:H<a.length)(al:∀j,j<a.length->(ak a j).size<=1024) :
    Calls prog 54 #[pointer (some ⟨L,0,none⟩),int i64 H] w fun e v=>EQ a H w e v:=by
  obtain⟨i0,hi,ax,az,aS⟩:=TY Sc;have Z:Xr _:=uo a al H;obtain⟨W,hW⟩:∃W,W=(w.alloc (.cells #[slice none 0 0,slice none 0 0,slice none 0 0] 78)).alloc (.cells #[int i64 0,string ⟨#[]⟩,int i64 0,int i64 0] 87):=⟨_,rfl⟩
  have hK:ae [] w W:=by rw[hW];exact(kr0.alloc _).alloc _
  have hA:W.heap[w.heap.size]?=some (.cells #[slice none 0 0,slice none 0 0,slice none 0 0] 78):=by
    rw[hW];exact(kr0.alloc _).get (Ts _ _) (by simp)
  have hF:W.heap[w.heap.size+1]?=some (.cells bK 87):=by
    rw[hW];have e:(w.alloc (.cells #[slice none 0 0,slice none 0 0,slice none 0 0] 78)).heap.size=w.heap.size+1:=by simp
    rw[<-e];exact Ts _ _
  have HW:Xr _:=hW.symm;have RD:=NQ L n H a K W (ht.XQ hK (by simp)) ar al;have ad:Xr _:=RD;clear RD hW;unfold EQ;generalize bE a H=R at *;obtain⟨⟨r,pf,pl,pc⟩,a5,d'⟩:=R;simp only[iu,cY]at ad Z ⊢;generalize d'.XP=l at *;generalize d'.rbl=rb at *;go_enter func54,ntmps54;go_wp2_with fail;rw[HW.o];refine Tr ad.o ?_;rintro e c ⟨g,y⟩;have Q:=y.get hA (by simp);have S:=y.get hF (by simp);have hz:=y.size;have a6:=aj hF;cases hr:(r==0)
  · have av:(r != 0)=true:=by simp[bne,hr]
    simp only[hr,Bool.false_eq_true,if_false]at g ⊢;subst g;obtain⟨a0,a1,a2⟩:=wm Q;obtain⟨z0,z1,z2,z3⟩:=cO S;have ya:=am Q;have yf:=am S;have A:=aj Q;have B:=aj S;go_wp2_with fail;go_region
    all_goals go_wp2
    all_goals exact Ty (v:=tuple #[agg #[slice none 0 0,slice none 0 0,slice none 0 0],agg #[int i64 r,string pf,int i64 pl,int i64 pc]]) (by simp[results,results54,go_sem,a0,a1,a2,z0,z1,z2,z3,A,B]) rfl ⟨rfl,(((qV (hK.trans y) (Tp _) (Wp _) _ _ _ _ _ _ _).alloc _).alloc _).drew⟩
  · have av:(r != 0)=false:=by simp[bne,hr]
    simp only[hr,if_true]at g ⊢;obtain⟨J,rfl,ai,ag⟩:=g;obtain⟨hS,hT⟩:=ai.trim;have af:J 6=wg l J 6:=(pk l J 6 (TG rfl)).symm;rw[af];have hN:∀k,ij (wg l J) k->k<c.heap.size/\w.heap.size+2<=k:=fun k t=>⟨(hT k t).1,by have:=ag k (hT k t).2;omega⟩
    clear ai ag hT af;generalize wg l J=b at *;generalize (J 7).ao=i at *;generalize (J 7).cap=m at *;generalize rb.length=s at *;clear J;have HN:Xr _:=hN;have a3:=Z.o.ok.len;obtain⟨f,C⟩:∃f,f=(c.alloc (.cells #[slice (b 6).ao l.length (b 6).cap,slice i s m] 76)).alloc (.cells #[int i64 0,string ⟨#[]⟩,int i64 0,int i64 0] 87):=⟨_,rfl⟩
    have k3:ae [] c f:=(by rw[C];exact(kr0.alloc _).alloc _);have B3:f.heap[c.heap.size]?=some (.cells #[slice (b 6).ao l.length (b 6).cap,slice i s m] 76):=by
      rw[C];exact(kr0.alloc _).get (Ts _ _) (by simp)
    have I:f.heap.size=c.heap.size+2:=(by rw[C];simp);have T:=hS.XD k3;have R3:fL f c.heap.size 0 l b:=⟨⟨_,_,B3,rfl⟩,T⟩;obtain⟨r0,r1⟩:=A9 B3;have an:Xr (∀v,ae [] f v->Calls prog 81 #[pointer (some ⟨c.heap.size,0,none⟩)] v fun e aT=>e=returned (int i64 l.length)/\aT=v):=fun v q=>eZ c.heap.size 0 l b v (R3.XD q);have a4:Xr (∀v,ae [] f v->v.cell? ⟨c.heap.size,0,none⟩=some (slice (b 6).ao l.length (b 6).cap)/\v.cell? ⟨c.heap.size,1,none⟩=some (slice i s m)):=fun v q=>by
      have q2:=q.get B3 (by simp);exact⟨by rw[ah q2];rfl,by rw[ah q2];rfl⟩
    have m1:=fun w=>dF (P:=prog) w 54 38 i0 _ underlying54 hi ax l.length 6 az (by rw[aS];omega) (by omega);obtain⟨D,U⟩:∃D,D=madeCells (agg #[string ⟨#[]⟩,int i64 0,int i64 0,string ⟨#[]⟩,int i64 0,int i64 0]).cells (l.length*6):=⟨_,rfl⟩
    have ac:Xr (D=(lG (kj l 0)).toArray):=cg (by rw[U,J5,Nz]);rw[<-U]at m1;clear U hN hS;have ap:Xr _:=C.symm;clear C;(go_upto_region 4 with fail);rw[ap.o];go_region_held3 (fun v=>v.cell? ⟨c.heap.size,0,none⟩=some (slice (b 6).ao l.length (b 6).cap)/\v.cell? ⟨c.heap.size,1,none⟩=some (slice i s m)) (go_keep) (first | (go_at_call 81;refine(an.o _ (by first | exact(ae.refl [] f).drew | exact((ae.refl [] f).alloc _).drew | exact(ae.refl [] f).drew.alloc _)).mono ?_;rintro e wc ⟨rfl,V⟩;rw[V]))
    · obtain⟨u,d⟩:∃u,u=((f.alloc (.cells D 38)).alloc (.cells #[slice (b 6).ao l.length (b 6).cap,slice i s m,slice (some ⟨c.heap.size+2,0,none⟩) l.length l.length] 78)).drew:=⟨_,rfl⟩
      have k4:ae [] f u:=(by rw[d];exact((kr0.alloc _).alloc _).drew);have F:u.heap[c.heap.size+2+1]?=some (.cells #[slice (b 6).ao l.length (b 6).cap,slice i s m,slice (some ⟨c.heap.size+2,0,none⟩) l.length l.length] 78):=by
        rw[d];have e1:(f.alloc (.cells D 38)).heap.size=c.heap.size+2+1:=by simp[I]
        have e:=Ts (f.alloc (.cells D 38)) (.cells #[slice (b 6).ao l.length (b 6).cap,slice i s m,slice (some ⟨c.heap.size+2,0,none⟩) l.length l.length] 78);rw[e1]at e;exact kr0.drew.get e (by simp)
      have G4:u.heap[c.heap.size+2]?=some (.cells (lG (kj l 0)).toArray 38):=by
        rw[d,<-ac.o];have e:=((ae.refl [] (f.alloc (.cells D 38))).alloc (.cells #[slice (b 6).ao l.length (b 6).cap,slice i s m,slice (some ⟨c.heap.size+2,0,none⟩) l.length l.length] 78)).drew.get (Ts _ _) (by simp);rw[I]at e;exact e
      rw[<-d];clear d;have RP:jA u (c.heap.size+2+1) 0 l b (c.heap.size+2) (kj l 0):=⟨⟨⟨_,_,F,rfl⟩,T.XD k4⟩,⟨_,_,F,by rw[xZ l 0 (Ub _)];rfl⟩,G4⟩;have HJ:Xr _:=(t8 (c.heap.size+2+1) 0 (c.heap.size+2) l b u RP Z.o.ok Z.o.prf (by omega) (fun x hx=>by have:=HN.o x hx;omega));have X:=(y.trans k3).trans k4;have A4:=X.get hA (by simp);have F4:=X.get hF (by simp);clear RP V;go_wp2_with fail;refine Tr HJ.o ?_;rintro e Y ⟨rfl,O,p⟩;have B5:=p.get F (by simp);have E:=p.get A4 (by simp;omega);have G:=p.get F4 (by simp;omega);obtain⟨b0,b1,b2⟩:=wm B5;obtain⟨a0,a1,a2⟩:=wm E;obtain⟨z0,z1,z2,z3⟩:=cO G;have ya:=am E;have yf:=am G;have A:=aj E;have B:=aj G;have KW:ae [] w Y:=by
        have q:=(hK.trans X);exact⟨p.os.trans q.os,p.tape.trans q.tape,p.output.trans q.output,TE q.size p.size,fun k t _=>(p.block k (Tv t q.size) (by simp;omega)).trans (q.block k t (by simp))⟩
      have KS:=uA Y w.heap.size (w.heap.size+1);have N:Xr (ir Y l b):=O.recd.XP;have M:Xr _:=O.arr;have z:Xr _:=KS;clear O KS B5 E G F A4 F4 G4;go_wp2;exact Ty (v:=tuple #[agg #[slice (b 6).ao l.length (b 6).cap,slice i s m,slice (some ⟨c.heap.size+2,0,none⟩) l.length l.length],agg #[int i64 0,string ⟨#[]⟩,int i64 0,int i64 0]]) (by simp[results,results54,go_sem,a0,a1,a2,z0,z1,z2,z3]) rfl
        ⟨⟨b,c.heap.size+2,⟨i,s,m,rfl⟩,N.o.XQ (z.o _ _ _ _ _ _ _) (fun k t=>by have:=HN.o k t;simp;omega),(z.o _ _ _ _ _ _ _).get M.o (by simp;omega),fun k t=>by have:=HN.o k t;omega,by omega⟩,qV KW (Tp _) (Wp _) _ _ _ _ _ _ _⟩
    all_goals
      obtain⟨u,d⟩:∃u,u=((f.alloc (.cells #[slice (b 6).ao l.length (b 6).cap,slice i s m,slice (some ⟨c.heap.size+2+1,0,none⟩) l.length l.length] 78)).alloc (.cells D 38)).drew:=⟨_,rfl⟩
      have k4:ae [] f u:=(by rw[d];exact((kr0.alloc _).alloc _).drew);have F:u.heap[c.heap.size+2]?=some (.cells #[slice (b 6).ao l.length (b 6).cap,slice i s m,slice (some ⟨c.heap.size+2+1,0,none⟩) l.length l.length] 78):=by
        rw[d];have e:=((ae.refl [] (f.alloc (.cells #[slice (b 6).ao l.length (b 6).cap,slice i s m,slice (some ⟨c.heap.size+2+1,0,none⟩) l.length l.length] 78))).alloc (.cells D 38)).drew.get (Ts _ _) (by simp);rw[I]at e;exact e
      have G4:u.heap[c.heap.size+2+1]?=some (.cells (lG (kj l 0)).toArray 38):=by
        rw[d,<-ac.o];have e1:(f.alloc (.cells #[slice (b 6).ao l.length (b 6).cap,slice i s m,slice (some ⟨c.heap.size+2+1,0,none⟩) l.length l.length] 78)).heap.size=c.heap.size+2+1:=by simp[I]
        have e:=Ts (f.alloc (.cells #[slice (b 6).ao l.length (b 6).cap,slice i s m,slice (some ⟨c.heap.size+2+1,0,none⟩) l.length l.length] 78)) (.cells D 38);rw[e1]at e;exact kr0.drew.get e (by simp)
      rw[<-d];clear d;have RP:jA u (c.heap.size+2) 0 l b (c.heap.size+2+1) (kj l 0):=⟨⟨⟨_,_,F,rfl⟩,T.XD k4⟩,⟨_,_,F,by rw[xZ l 0 (Ub _)];rfl⟩,G4⟩;have HJ:Xr _:=(t8 (c.heap.size+2) 0 (c.heap.size+2+1) l b u RP Z.o.ok Z.o.prf (by omega) (fun x hx=>by have:=HN.o x hx;omega));have X:=(y.trans k3).trans k4;have A4:=X.get hA (by simp);have F4:=X.get hF (by simp);clear RP V;go_wp2_with fail;refine Tr HJ.o ?_;rintro e Y ⟨rfl,O,p⟩;have B5:=p.get F (by simp);have E:=p.get A4 (by simp;omega);have G:=p.get F4 (by simp;omega);obtain⟨b0,b1,b2⟩:=wm B5;obtain⟨a0,a1,a2⟩:=wm E;obtain⟨z0,z1,z2,z3⟩:=cO G;have ya:=am E;have yf:=am G;have A:=aj E;have B:=aj G;have KW:ae [] w Y:=by
        have q:=(hK.trans X);exact⟨p.os.trans q.os,p.tape.trans q.tape,p.output.trans q.output,TE q.size p.size,fun k t _=>(p.block k (Tv t q.size) (by simp;omega)).trans (q.block k t (by simp))⟩
      have KS:=uA Y w.heap.size (w.heap.size+1);have N:Xr (ir Y l b):=O.recd.XP;have M:Xr _:=O.arr;have z:Xr _:=KS;clear O KS B5 E G F A4 F4 G4;go_wp2;exact Ty (v:=tuple #[agg #[slice (b 6).ao l.length (b 6).cap,slice i s m,slice (some ⟨c.heap.size+2+1,0,none⟩) l.length l.length],agg #[int i64 0,string ⟨#[]⟩,int i64 0,int i64 0]]) (by simp[results,results54,go_sem,a0,a1,a2,z0,z1,z2,z3]) rfl
        ⟨⟨b,c.heap.size+2+1,⟨i,s,m,rfl⟩,N.o.XQ (z.o _ _ _ _ _ _ _) (fun k t=>by have:=HN.o k t;simp;omega),(z.o _ _ _ _ _ _ _).get M.o (by simp;omega),fun k t=>by have:=HN.o k t;omega,by omega⟩,qV KW (Tp _) (Wp _) _ _ _ _ _ _ _⟩
structure nE(w:World)(x:Nat)(fs:Fs)(l:List St)(H:Nat->Hd)(g:Nat):Prop where
  ver:∃(a7:Xu) (n7 c7:Nat),jq w x fs true (slice (H 6).ao l.length (H 6).cap) (slice a7 n7 c7) (slice (some ⟨g,0,none⟩) l.length l.length)
  XP:ir w l H
  arr:w.heap[g]?=some (.cells (lG (bP l l.length)).toArray 38)
  far:x≠g/\∀k,ij H k->k≠x
theorem nE.anyR(h:nE S T g f x y):lO S T g:=by
  obtain⟨a,c,b,h⟩:=h.ver;exact h.anyR
theorem nE.XD(h:nE S T g f x y)(k:ae [] S D):nE D T g f x y:=by
  obtain⟨a,d,b,c⟩:=h.ver;exact⟨⟨a,d,b,bO.XQ c k (by simp)⟩,h.XP.XD k,k.get h.arr (by simp),h.far⟩
theorem nE.tellA(h:nE S T g f x y):QQ S T 10 y (bP f f.length):=by
  obtain⟨b,d,c,a⟩:=h.ver;refine⟨⟨_,_,a.1,?_⟩,h.arr⟩;rw[pO];rfl
theorem JR(h:ae N S D)(a:S.heap.size<=T)(b c d e:Value) :
    ae N S ((((D.setCell ⟨T,0,none⟩ b).setCell ⟨T,1,none⟩ c).setCell ⟨T,2,none⟩ d).setCell ⟨T,3,none⟩ e) :=
  (((h.setCell (TA a) _).setCell (TA a) _).setCell (TA a) _).setCell (TA a) _
theorem xH :
    ae [H] I ((((I.setCell ⟨H,0,none⟩ z4).setCell ⟨H,1,none⟩ z5).setCell ⟨H,2,none⟩ z6).setCell ⟨H,3,none⟩ z7) :=
  ((((ae.refl [H] I).sl1 _).sl1 _).sl1 _).sl1 _
theorem sK(h:ae N S D)(a:T∈N∨S.heap.size<=T)(b:y∈N∨S.heap.size<=y)(c d e f g i j k:Value) :
    ae N S ((((((((D.setCell ⟨T,9,none⟩ c).setCell ⟨T,10,none⟩ d).setCell ⟨T,11,none⟩ e).setCell ⟨T,12,none⟩ f).setCell ⟨y,0,none⟩ g).setCell ⟨y,1,none⟩ i).setCell ⟨y,2,none⟩ j).setCell ⟨y,3,none⟩ k) :=
  (((((((h.setCell a _).setCell a _).setCell a _).setCell a _).setCell b _).setCell b _).setCell b _).setCell b _
def Hb(fs:Fs)(k0 x:Nat)(w:World)(e:Ending)(w':World):Prop :=
  (if((bE fs k0).1.1==0)=true then e=returned (tuple #[iu cY,int i64 0])/\∃H g,nE w' x fs (bE fs k0).2.2.XP H g/\w.heap.size<=g/\∀k,ij H k->w.heap.size<=k
   else e=returned (tuple #[iu (bE fs k0).1,int i64 6])/\kB w' x fs)/\ae [x] w w'
theorem GL(h:lO i n a)(hf:bS a s=H)(Q:H<a.length)(T:∀j,j<a.length->(ak a j).size<=1024) :
    Calls prog 37 #[pointer (some ⟨n,0,none⟩),string s] i fun e U=>Hb a H n i e U:=by
  have ag:=h.lt;obtain⟨W,C⟩:∃W,W=i.alloc (.cells #[int i64 0,string ⟨#[]⟩,int i64 0,int i64 0] 87):=⟨_,rfl⟩
  have hK:=fH C.symm;have hF:W.heap[i.heap.size]?=some (.cells bK 87):=by rw[C];exact Ts _ _
  have B:=h.XQ hK (by simp);have HW:Xr _:=C.symm;have Y:Calls prog 51 #[pointer (some ⟨n,0,none⟩),string s] W fun e U=>e=returned (int i64 H)/\U=W:=by
    obtain⟨an,ap,b,c,hv⟩:=B;rw[<-hf];exact mu n _ a _ s W hv
  have J:Xr _:=Y;have X:=xr n a W B;have I:Xr _:=X;clear Y X C;have L:=fun(V:World) (m:kB V n a)=>Rn n _ H a _ V m Q T;unfold EQ at L;have x:Xr _:=L;clear L;unfold Hb;generalize bE a H=R at *;obtain⟨⟨r,pf,pl,pc⟩,af,d'⟩:=R;simp only[iu,cY]at x ⊢;generalize d'.XP=l at *;go_enter func37,ntmps37;go_wp2_with fail;rw[HW.o];refine Tr J.o ?_;rintro e w9 ⟨rfl,rfl⟩;go_wp2_with fail;refine Tr I.o ?_;rintro e V ⟨rfl,m,u⟩;have P:=u.get hF (by simp;omega);go_wp2_with fail;refine Tr (x.o _ m) ?_;rintro e A ⟨d,w⟩;have t:=w.get P (by simp);have f:=m.XQ w (by simp);have y:ae [n] i A:=((hK.mono (by simp)).trans u).trans (w.mono (by simp));obtain⟨z0,z1,z2,z3⟩:=cO t;have yf:=am t;have p:=aj t;have ac:n≠i.heap.size:=by omega
  cases D:(r==0)
  · have S:(r != 0)=true:=by simp[bne,D]
    simp only[D,Bool.false_eq_true,if_false]at d ⊢;subst d;have G:Xr _:=f;clear f m B;go_wp2;exact Ty (v:=tuple #[agg #[int i64 r,string pf,int i64 pl,int i64 pc],int i64 6]) (by simp[results,results37,go_sem,z0,z1,z2,z3,p]) rfl
      ⟨⟨rfl,G.o.XQ (((xH A i.heap.size _ _ _ _).alloc _).alloc _) (by simp;omega)⟩,((JR y (Tp _) _ _ _ _).alloc _).alloc _⟩
  · have S:(r != 0)=false:=by simp[bne,D]
    simp only[D,if_true]at d ⊢;obtain⟨E,g,a7,n7,c7,rfl,hS,hA,hN,hg⟩:=d;have al:=aj hF;have ai:=u.size;obtain⟨c9,M,N,O⟩:=jq.cells f;have yv:=bO.free f;have Z:Xr _:=jq.turn f true (slice (E 6).ao l.length (E 6).cap) (slice a7 n7 c7) (slice (some ⟨g,0,none⟩) l.length l.length);have K:Xr _:=hS;have F:Xr _:=hA;have q:Xr _:=hN;have ad:n<A.heap.size:=bO.lt f;clear f m B hS hA hN;unfold PG at M N O;unfold Ev at Z;go_wp2;exact Ty (v:=tuple #[agg #[int i64 0,string ⟨#[]⟩,int i64 0,int i64 0],int i64 0]) (by simp[results,results37,go_sem,z0,z1,z2,z3,p]) rfl
      ⟨⟨rfl,E,g,⟨⟨a7,n7,c7,bO.XQ Z.o (((xH _ i.heap.size _ _ _ _).alloc _).alloc _) (by simp;omega)⟩,K.o.XQ (((sK (ae.refl [n,i.heap.size] A) (TG (by simp)) (TG (by simp)) _ _ _ _ _ _ _ _).alloc _).alloc _) (fun k z=>by have:=q.o k z;simp;omega),(((sK (ae.refl [n,i.heap.size] A) (TG (by simp)) (TG (by simp)) _ _ _ _ _ _ _ _).alloc _).alloc _).get F.o (by simp;omega),⟨by omega,fun k z=>by have:=q.o k z;omega⟩⟩,by omega,fun k z=>by have:=q.o k z;omega⟩,
        ((sK y (TG (by simp)) (TA (Tp _)) _ _ _ _ _ _ _ _).alloc _).alloc _⟩
def oB(l:List St)(lab:Xs)(n:Nat):Bool:=match l[n]? with | some s=>(s.XU.toList==lab.toList)&&oA s.XS | none=>false
def lh(l:List St)(lab:Xs):Option Nat:=(List.range l.length).find? (oB l lab)
theorem Ab(h:w<b.length):oB b s w=((b[w].XU.toList==s.toList)&&oA b[w].XS):=by
 unfold oB;rw[Tm h]
set_option maxRecDepth 512
theorem tV(h:fL i L n b m)(N:b.length<=1073741824) :
  Calls prog 135 #[pointer (some ⟨L,n,none⟩),string o] i fun e y=>e=returned (int i64 (oC (lh b o)))/\ae [] i y:=by
 go_enter func135,ntmps135;go_wp2
 go_loopg [5] b.length (fun g a wr=>∃k:Nat,k<=b.length/\g=b.length-k/\a=int i64 k/\Xr (∀a,a<k->oB b o a=false)/\ae [] i wr)
 ·exact⟨0,by omega,by omega,rfl,fun a v=>by omega,ae.refl _ _⟩
 obtain⟨k,M,K,rfl,d,r⟩:=hrel;have q:=h.XD r;have c:=q.at
 by_cases l:k<b.length
 ·obtain⟨g,w,I,J,A,B,C,D,E,F,G,H⟩:=q.XP.stmt k l;rw[w]at c;have p:Xr _:=Ab b o k l;have next:Xr (oB b o k=false->∀a,a<k+1->oB b o a=false):=by
   intro x a v;by_cases e:a=k
   ·subst e;exact x
   ·exact d.o a (by omega)
  generalize b[k]=s at *;cases u:(s.XU.toList==o.toList)
  ·have f:Xr (oB b o k=false):=(by show _=_;rw[p.o,u];simp);clear p q;go_wp2;go_roundg (b.length-(k+1))
   ·exact⟨k+1,by omega,rfl,by go_num,next.o f.o,r⟩
   omega
  ·cases t:oA s.XS
   ·have f:Xr (oB b o k=false):=(by show _=_;rw[p.o,t];simp);clear p q;go_wp2_with (go_at_call 161;refine(dA s.XS _ _ _ _ _ _ _ _).mono ?_;rintro e z ⟨rfl,j⟩;rw[t]);go_roundg (b.length-(k+1))
    ·exact⟨k+1,by omega,rfl,by go_num,next.o f.o,r.trans j⟩
    omega
   ·have f:Xr (lh b o=some k):=pa l (by rw[p.o,u,t];rfl) d.o;clear p q;go_wp2_with (go_at_call 161;refine(dA s.XS _ _ _ _ _ _ _ _).mono ?_;rintro e z ⟨rfl,j⟩;rw[t]);go_ret;exact⟨au (by rw[f.o];rfl),r.trans j⟩
 ·have f:Xr (lh b o=none):=nP (fun a v=>d.o a (by omega));clear q;go_wp2;go_ret;exact⟨au (by rw[f.o];rfl),r⟩
structure SQ(s:St):Prop where
 XU:s.XU.size<=100000
 syms:∀x∈s.Xy,x.size<=100000
def Cg(l:List St)(n:Nat):Option Xs:=match l[n]? with
 | some s=>if(s.XS==2)=true then some (aN s) else none
 | none=>none
def uI(l:List St)(hs:Xv):Xt:=hs.filterMap (Cg l)
theorem Em(L:Xt)(k:Nat)(x:Xs):dK (L.set k x)=(dK L).set k (string x):=by simp[dK,List.map_set]
theorem nE.recd(h:nE S T g f x y):fL S T 10 f x:=by
 obtain⟨b,d,c,a⟩:=h.ver;exact⟨⟨_,_,a.1,rfl⟩,h.XP⟩
theorem KU(h:fL i L n b m)(c:b.length<=1073741824) :
  Calls prog 91 #[pointer (some ⟨L,n,none⟩),string o] i fun e f=>e=returned (int i64 (oC (lh b o)))/\ae [] i f:=by
 have a:Xr _:=tV L n o b m i h c;go_enter func91,ntmps91;go_wp2_with fail;refine Tr a.o ?_;rintro e g ⟨rfl,d⟩;go_wp2;go_ret;exact⟨rfl,d⟩
theorem LD(l:List St)(f:Nat->Hd)(g:Nat)(c:Xs)(w:World)(h:nE w H a l f g)(p:l.length<=1073741824) :
  Calls prog 60 #[pointer (some ⟨H,0,none⟩),string c] w fun e r=>e=returned (match lh l c with | some n=>.tuple #[int i64 n,int i64 0] | none=>.tuple #[int i64 0,int i64 8])/\ae [] w r:=by
 have b:Xr _:=KU H 10 c l f w h.recd p;obtain⟨t,x,u,q⟩:=h.ver;obtain⟨v,j,k,m⟩:=jq.cells q;cases i:lh l c with
 | none =>
  rw[i]at b;simp only[oC]at b;go_enter func60,ntmps60;go_wp2_with fail;refine Tr b.o ?_;rintro e s ⟨rfl,d⟩;go_wp2;go_ret2;exact⟨rfl,d⟩
 | some n =>
  rw[i]at b;simp only[oC]at b;go_enter func60,ntmps60;go_wp2_with fail;refine Tr b.o ?_;rintro e s ⟨rfl,d⟩;go_wp2;go_ret2;exact⟨rfl,d⟩
theorem C0{a:Xs}(h:lh f a=some T):∃h:T<f.length,oA f[T].XS=true/\f[T].XU.toList=a.toList:=by
 unfold lh at h;have c:=TF.1 (Ur h);have b:=Vg h;rw[Ab f a T c]at b;simp only[Bool.and_eq_true]at b;exact⟨c,b.2,by simpa using b.1⟩
def qh(l:List St)(n:Nat):Xs:=(l.getD n zs).XU
structure Ti where
 W:Xt
 sp:List (Nat×Nat)
 th:Xv
end Go.Proofs.YtnbhnocdhbcbcaaGreat
