import Derived.Test.YtnbhnocdhbcbcaaGreatK11
namespace Go.Proofs.YtnbhnocdhbcbcaaGreat
open Go.RowKit Tryz
open Value IntKind Ending
set_option maxHeartbeats 0
variable{M t:List Rw}{N:Xv}{S D:World}{T y:Nat}{f:List St}{x:Nat->Hd}{g:Fs}(I:World)(L n:Nat)(o:Xs)(b:List St)(m:Nat->Hd)(d:List Rw)(H:Nat)(z4 z5 z6 z7:Value)(a:Fs)(s:Xs)(i:World)(w:Nat)
def lp(l:List St)(n:Nat)(prev:List Rw):Rw:=match l[n]? with
 | some s=>if(s.XU==4)=true then⟨s.XV,1,0,ln⟩ else if(s.XU==5)=true then dr l n s prev else qs
 | none=>qs
def bP(l:List St):Nat->List Rw
 | 0=>[]
 | k+1=>bP l k++[lp l k (bP l k)]
theorem pP(k:Nat):(bP b k).length=k:=by
 induction k with
 | zero=>rfl
 | succ k a=>simp[bP,a]
def kl(l:List St)(k:Nat):List Rw:=bP l k++List.replicate (l.length-k) qs
theorem x9(h:w<=b.length):(kl b w).length=b.length:=by simp[kl,pP];omega
theorem Ks(h:w<b.length):kl b (w+1)=(kl b w).set w (lp b w (bP b w)):=by
 unfold kl;have e:b.length-w=(b.length-(w+1))+1:=by omega
 rw[e,Wk,bP];have a:=pP b w;rw[Vw _ _ (by omega),a,Uz,VU,U5];rfl
theorem Ny:kl b b.length=bP b b.length:=by simp[kl]
theorem Nz(h:w<b.length):(kl b w).set w qs=kl b w:=by
 unfold kl;have e:b.length-w=(b.length-(w+1))+1:=by omega
 have a:=pP b w;rw[e,Wk,Vw _ _ (by omega),a,Uz,VU]
theorem Oz:eO (d++List.replicate H qs) w=eO d w:=by
 unfold eO;rw[To,To];by_cases h:w<d.length
 ·rw[TQ h]
 ·rw[TJ (by omega),Un (l:=d) (by omega),UP];split <;> rfl
theorem DW(h:∀n,eO M n=eO t n)(a:List kD):m8 M a=m8 t a:=by
 unfold m8;simp only[h]
theorem Bt(h:∀n,eO M n=eO t n)(l:List St)(n:Nat)(s:St):dr l n s M=dr l n s t:=by
 unfold dr kG;rw[DW h]
theorem Ft(s:St)(k:Nat):dr b w s (kl b k)=dr b w s (bP b k):=Bt (fun _=>Oz _ _ _) b w s
theorem oZ(A M B:List Value)(i j:Nat)(v:Value)(a:i=A.length+j)(b:j<M.length):(A++(M++B)).set i v=A++(M.set j v++B):=by
 subst a;rw[Vw _ _ (by omega),Nat.add_sub_cancel_left,Wc _ _ b]
theorem Ar(a:w<d.length):lH d=lH (d.take w)++(nU d[w]++lH (d.drop (w+1))):=by
 have e:d=d.take w++(d[w] :: d.drop (w+1)):=by rw[<-TV a,List.take_append_drop]
 conv=>lhs;rw[e]
 unfold lH;rw[U4,Uv]
theorem Qj(a:w<d.length)(r:Rw) :
  (((((((lH d).set (w*6) (string r.XV)).set (w*6+1) (int i64 r.XF)).set (w*6+2) (int i64 r.why)).set (w*6+3) (string r.at_.XZ)).set (w*6+4) (int i64 r.at_.X0)).set (w*6+5) (int i64 r.at_.X3))=lH (d.set w r):=by
 have c:(lH (d.take w)).length=w*6:=by rw[Ef,UJ];congr 1;omega
 have b:lH (d.set w r)=lH (d.take w)++(nU r++lH (d.drop (w+1))):=by
  rw[Ar (d.set w r) w (by simpa using a)];simp[List.take_set,List.drop_set];rw[List.set_eq_of_length_le (by simp;omega)]
 rw[b,Ar d w a,nU,oZ _ _ _ _ 0 _ (by omega) (by simp),oZ _ _ _ _ 1 _ (by omega) (by simp),oZ _ _ _ _ 2 _ (by omega) (by simp),oZ _ _ _ _ 3 _ (by omega) (by simp),oZ _ _ _ _ 4 _ (by omega) (by simp),oZ _ _ _ _ 5 _ (by omega) (by simp)];rfl
theorem ae.wide(k:ae [] S D):ae N S D:=k.mono (by simp)
def Eh(w:World)(g k:Nat)(r:Rw):World :=
 (((((w.setCell ⟨g,k*6,none⟩ (string r.XV)).setCell ⟨g,k*6+1,none⟩ (int i64 r.XF)).setCell ⟨g,k*6+2,none⟩ (int i64 r.why)).setCell ⟨g,k*6+3,none⟩ (string r.at_.XZ)).setCell ⟨g,k*6+4,none⟩ (int i64 r.at_.X0)).setCell ⟨g,k*6+5,none⟩ (int i64 r.at_.X3)
theorem tj(r:Rw):ae [H] I (Eh I H w r) :=
 ((((((ae.refl [H] I).sl1 _).sl1 _).sl1 _).sl1 _).sl1 _).sl1 _
theorem jB.store{g:Nat}(h:jB S T y f x g M)(c:T≠g)(j:∀a,ik x a->a≠g)(k:Nat)(l:k<M.length)(r:Rw):jB (Eh S g k r) T y f x g (M.set k r):=by
 have d:=tj S g k r;obtain⟨b,t,e,i⟩:=h.cell;refine⟨h.recd.XR d (by simpa using c) (fun a m=>by simpa using j a m),⟨b,t,d.get e (by simpa using c),by rw[Um];exact i⟩,?_⟩;unfold Eh;rw[ab (ab (ab (ab (ab (ab h.arr _ _) _ _) _ _) _ _) _ _)];simp only[List.setIfInBounds_toArray];rw[Qj M k l r]
def wh(l:List St)(H:Nat->Hd):Nat->Hd:=fun i=>if i=6∨(10<=i/\i<10+2*l.length) then H i else⟨none,0⟩
theorem pm(h:w=6∨(10<=w/\w<10+2*b.length)):wh b m w=m w:=Tr h
theorem iu.trim(h:iu S f x):iu S f (wh f x)/\∀k,ik (wh f x) k->k<S.heap.size/\ik x k:=by
 refine⟨⟨?_,fun i s c=>?_,fun i s c=>?_⟩,?_⟩
 ·have e:np f (wh f x)=np f x:=by
   rw[<-wb f x (fun i=>if i<10+2*f.length then x i else⟨none,0⟩) (fun j g=>Tr g)];apply yL;intro j g;by_cases b:j<10+2*f.length
   ·simp only[if_pos b];exact pm f x j (TE ⟨g,b⟩)
   ·simp only[if_neg b];exact Tp (by omega)
  rw[pm f x 6 (TH rfl)];unfold jm;rw[e];exact h.X9
 ·have a:i<f.length:=(TA.1 c).1;rw[pm f x (10+2*i) (by omega)];exact h.syms i s c
 ·have a:i<f.length:=(TA.1 c).1;rw[pm f x (11+2*i) (by omega)];exact h.prfs i s c
 ·rintro k ⟨i,a⟩;by_cases d:i=6∨(10<=i/\i<10+2*f.length)
  ·rw[pm f x i d]at a;refine⟨?_,⟨i,a⟩⟩;rcases d with rfl | ⟨l,m⟩
   ·exact h.X9.lt a
   ·by_cases n:(i-10) % 2=0
    ·have e:i=10+2*((i-10) / 2):=(by omega);rw[e]at a;have b:(i-10) / 2<f.length:=by omega
     exact(h.syms _ _ (Tn b)).lt a
    ·have e:i=11+2*((i-10) / 2):=(by omega);rw[e]at a;have b:(i-10) / 2<f.length:=by omega
     exact(h.prfs _ _ (Tn b)).lt a
  ·have e:wh f x i=⟨none,0⟩:=Tp d;rw[e]at a;simp[Hd.XS]at a
set_option maxRecDepth 100000
theorem t9(l:List St)(j:Nat->Hd)(Q:World)(h:jB Q n H l j w (kl l 0))(ok:jV l)(ac:∀i (hi:i<l.length),rX l[i])(hb:n≠w)(hg:∀x,ik j x->x≠w) :
  Calls prog 82 #[pointer (some ⟨n,H,none⟩)] Q fun e a=>e=returned (tuple #[])/\jB a n H l j w (bP l l.length)/\ae [w] Q a:=by
 have ap:=h.recd.lt;have ax:=aj h.arr;have ag:=ok.len;go_enter func82,ntmps82;go_wp2_with (go_at_call 114;refine(tH n H l j _ (by exact h.recd) ok).mono ?_;rintro e w1 ⟨W,K,rfl,A1,av,Z,k1⟩)
 go_loopg [3] l.length (fun gk iv wr=>∃(k:Nat),k<=l.length/\gk=l.length-k/\iv=int i64 k/\jB wr n H l j w (kl l k)/\iH wr W l l.length K/\ae [w] Q wr)
 ·exact⟨0,by omega,by omega,rfl,h.XE k1,A1,k1.wide⟩
 obtain⟨k,hk,ar,rfl,v,hA,hK⟩:=hrel;have m:Xr _:=x9 l k hk;have c2:=v.at2;rw[m.o]at c2;by_cases c:k<l.length
 ·have f:Xr (lp l k (bP l k)=if(l[k].XU==4)=true then⟨l[k].XV,1,0,ln⟩ else if(l[k].XU==5)=true then dr l k l[k] (kl l k) else qs):=by
   show _=_;unfold lp;rw[Tn c,Ft]
  have d:Xr _:=Ks l k c;go_upto_region 5 with (go_at_call 98;refine(bF n H k l j _ (by exact v.recd) c).mono ?_;rintro e R ⟨rfl,k3⟩;unfold fS)
  obtain⟨X,P⟩:∃X,X=R.alloc (.cells #[int i64 l[k].XU,string l[k].XV,slice (j (10+2*k)).ao l[k].Xz.length (j (10+2*k)).cap,slice (j (11+2*k)).ao l[k].XK.length (j (11+2*k)).cap,string l[k].XY.XZ,int i64 l[k].XY.X0,int i64 l[k].XY.X3,int i64 l[k].til] 158):=⟨_,rfl⟩
  have kX:ae [] wr X:=by rw[P];exact k3.alloc _
  have BX:=f9 P.symm;rw[<-P];clear P;obtain⟨m0,m1,-⟩:=wt BX;have b:=v.XE kX;have N:=hA.XE kX;have V:=hK.trans kX.wide;have aS:wr.heap.size<=R.heap.size:=k3.size;have af:=aj v.arr;have ad:=v.recd.lt;have t:W≠w:=by omega
  have s:∀z x,(K z).XS=some x->x∉[w]:=fun z x hx=>by have:=Z z x hx;simp;omega
  have u:=b.at2;rw[m.o]at u;have y:k<(kl l k).length:=by rw[m.o];exact c
  obtain⟨F,G,I,J,L,M⟩:=b.row k y;have S:=am b.arr;have az:(k:Int)<l.length:=by omega
  have ai:R.heap.size≠w:=by omega
  have al:w≠R.heap.size:=by omega
  have an:w≠n:=fun e=>hb e.symm;clear c2;generalize (kl l k)[k]=g at *;cases O:(l[k].XU==4)
  ·cases Y:(l[k].XU==5)
   ·have D:Xr (kl l (k+1)=kl l k):=by
     show _=_;rw[d.o,f.o,O,Y];simp only[Bool.false_eq_true,if_false];exact Nz l k c
    clear f d;go_wp2;go_roundg (l.length-(k+1))
    ·exact⟨k+1,by omega,rfl,by go_num,by rw[D.o];exact b,N,V⟩
    omega
   ·have D:Xr (kl l (k+1)=(kl l k).set k (dr l k l[k] (kl l k))):=(by show _=_;rw[d.o,f.o,O,Y];rfl);have JA:=fun(a:World) (q:ae [] X a)=>JY n H k w W l j K (kl l k) a (b.XE q) ok c (ac k c) (N.XE q);have E:Xr _:=JA;have T:Xr (∀a,ae [] X a->a.cell? ⟨n,H+2,none⟩=some (slice (some ⟨w,0,none⟩) l.length l.length)):=by
     intro a q;have:=(b.XE q).at2;rw[m.o]at this;exact this
    have U:Xr (∀a,ae [] X a->a.cell? ⟨w,k*6,none⟩=some (string g.XV)/\a.cell? ⟨w,k*6+1,none⟩=some (int i64 g.XF)/\a.cell? ⟨w,k*6+2,none⟩=some (int i64 g.why)/\a.cell? ⟨w,k*6+3,none⟩=some (string g.at_.XZ)/\a.cell? ⟨w,k*6+4,none⟩=some (int i64 g.at_.X0)/\a.cell? ⟨w,k*6+5,none⟩=some (int i64 g.at_.X3)/\∀z,a.frozen? ⟨w,z,none⟩=false):=by
     intro a q;have A:=q.get b.arr (by simp);refine⟨?_,?_,?_,?_,?_,?_,fun z=>am A z⟩
     ·rw[ah A,<-ah b.arr];exact F
     ·rw[ah A,<-ah b.arr];exact G
     ·rw[ah A,<-ah b.arr];exact I
     ·rw[ah A,<-ah b.arr];exact J
     ·rw[ah A,<-ah b.arr];exact L
     ·rw[ah A,<-ah b.arr];exact M
    unfold nU at E;clear f d JA F G I J L M S;generalize dr l k l[k] (kl l k)=r at *;(go_upto_region 8 with fail);go_region_held3 (fun a=>a.cell? ⟨n,H+2,none⟩=some (slice (some ⟨w,0,none⟩) l.length l.length)) (go_keep) (first | (go_at_call 115;refine(E.o _ (by exact(ae.refl [] X).drew)).mono ?_;rintro e w5 ⟨rfl,k5⟩;have x0:=T.o w5 ((ae.refl [] X).drew.trans k5);obtain⟨F,G,I,J,L,M,S⟩:=U.o w5 ((ae.refl [] X).drew.trans k5)))
    all_goals
     have kk:=((ae.refl [] X).drew.trans k5);have p:=(b.XE kk).store hb hg k y r;have o:=tj w5 w k r;have B:=(N.XE kk).XR o (by simpa using t) s;have C:=(V.trans kk.wide).trans o;rw[<-D.o]at p;unfold Eh at p o B C;clear m0 m1 u F G I J L M S x0;go_wp2;go_roundg (l.length-(k+1))
     ·exact⟨k+1,by omega,rfl,by go_num,p,B,C⟩
     omega
  ·have Y:(l[k].XU==5)=false:=(by have:=Wh O;rw[this];rfl);have D:Xr (kl l (k+1)=(kl l k).set k ⟨l[k].XV,1,0,ln⟩):=ci (by rw[d.o,f.o,O];rfl);clear f d;(go_upto_region 6 with fail);go_region
   all_goals
    have p:=b.store hb hg k y ⟨l[k].XV,1,0,ln⟩;have o:=tj X w k ⟨l[k].XV,1,0,ln⟩;have B:=N.XR o (by simpa using t) s;have C:=V.trans o;rw[<-D.o]at p;unfold Eh at p o B C;simp only[ln]at p B C;clear m1 u F G I J L M S o;go_wp2;go_roundg (l.length-(k+1))
    ·exact⟨k+1,by omega,rfl,by go_num,p.XE bR.drew,B.XE bR.drew,C.drew⟩
    omega
 ·have e:k=l.length:=by omega
  subst e;rw[Ny]at v;go_wp2;go_end0;exact⟨rfl,v,hK⟩

theorem J7:madeCells (agg #[string ⟨#[]⟩,int i64 0,int i64 0,string ⟨#[]⟩,int i64 0,int i64 0]).cells (w*6)=(lH (List.replicate w qs)).toArray:=by
  have k:(agg #[string ⟨#[]⟩,int i64 0,int i64 0,string ⟨#[]⟩,int i64 0,int i64 0]).cells=(nU qs).toArray:=by rfl
  rw[k];apply Array.ext
  · rw[U7];simp[Ef]
  · intro i f g
    rw[U7]at f;have n:i / 6<(List.replicate w qs).length:=by simp;omega
    have e:=IR (List.replicate w qs) (i / 6) n (i % 6) (by omega);have d:i / 6*6+i % 6=i:=(by omega);have a:(List.replicate w qs)[i / 6]=qs:=(by simp);rw[d,a]at e;have j:i<(lH (List.replicate w qs)).length:=by simpa using g
    have b:(lH (List.replicate w qs)).toArray[i]=(lH (List.replicate w qs))[i]:=(by simp);rw[b];have c:some (lH (List.replicate w qs))[i]=(nU qs)[i % 6]?:=by rw[<-e,Tn j]
    have l:some (madeCells (nU qs).toArray (w*6))[i]=(nU qs)[i % 6]?:=by
      have m:i % 6=0∨i % 6=1∨i % 6=2∨i % 6=3∨i % 6=4∨i % 6=5:=(by omega);have o:(nU qs).toArray.size=6:=rfl;simp only[madeCells,Array.getElem_map,Array.getElem_range,o];rcases m with h | h | h | h | h | h <;> rw[h] <;> rfl
    exact UQ (l.trans c.symm)
theorem NA:kl b 0=List.replicate b.length qs:=by simp[kl,bP]
theorem qW(h:ae [] S D)(b:S.heap.size<=T)(a:S.heap.size<=y)(c d e f g i j:Value) :
    ae [] S (((((((D.setCell ⟨T,0,none⟩ c).setCell ⟨T,1,none⟩ d).setCell ⟨T,2,none⟩ e).setCell ⟨y,0,none⟩ f).setCell ⟨y,1,none⟩ g).setCell ⟨y,2,none⟩ i).setCell ⟨y,3,none⟩ j) :=
  ((((((h.setCell (TE b) _).setCell (TE b) _).setCell (TE b) _).setCell (TE a) _).setCell (TE a) _).setCell (TE a) _).setCell (TE a) _
theorem uB(a b c:Value) :
    ae [n,H] I (((((((I.setCell ⟨n,0,none⟩ z4).setCell ⟨n,1,none⟩ z5).setCell ⟨n,2,none⟩ z6).setCell ⟨H,0,none⟩ z7).setCell ⟨H,1,none⟩ a).setCell ⟨H,2,none⟩ b).setCell ⟨H,3,none⟩ c) :=
  (((((((ae.refl [n,H] I).setCell (TH (by simp)) _).setCell (TH (by simp)) _).setCell (TH (by simp)) _).setCell (TH (by simp)) _).setCell (TH (by simp)) _).setCell (TH (by simp)) _).setCell (TH (by simp)) _
def ET(fs:Fs)(k0:Nat)(w:World)(e:Ending)(w':World):Prop :=
  (if((bE fs k0).1.1==0)=true then ∃(H:Nat->Hd) (g:Nat) (a7:Xu) (n7 c7:Nat),
      e=returned (tuple #[agg #[slice (H 6).ao (bE fs k0).2.2.XQ.length (H 6).cap,slice a7 n7 c7,slice (some ⟨g,0,none⟩) (bE fs k0).2.2.XQ.length (bE fs k0).2.2.XQ.length],iw cZ]) /\
      iu w' (bE fs k0).2.2.XQ H/\w'.heap[g]?=some (.cells (lH (bP (bE fs k0).2.2.XQ (bE fs k0).2.2.XQ.length)).toArray 38)/\(∀k,ik H k->w.heap.size<=k)/\w.heap.size<=g
   else e=returned (tuple #[agg #[slice none 0 0,slice none 0 0,slice none 0 0],iw (bE fs k0).1]))/\ae [] w w'
theorem Ro(K:List Value)(w:World)(ht:bO w L n a K)(ar:H<a.length)(al:∀j,j<a.length->(ak a j).size<=1024) :
    Calls prog 54 #[pointer (some ⟨L,0,none⟩),int i64 H] w fun e v=>ET a H w e v:=by
  obtain⟨i0,hi,ax,az,aS⟩:=TZ Sd;have Z:Xr _:=uq a al H;obtain⟨W,hW⟩:∃W,W=(w.alloc (.cells #[slice none 0 0,slice none 0 0,slice none 0 0] 78)).alloc (.cells #[int i64 0,string ⟨#[]⟩,int i64 0,int i64 0] 87):=⟨_,rfl⟩
  have hK:ae [] w W:=by rw[hW];exact(bR.alloc _).alloc _
  have hA:W.heap[w.heap.size]?=some (.cells #[slice none 0 0,slice none 0 0,slice none 0 0] 78):=by
    rw[hW];exact(bR.alloc _).get (Tu _ _) (by simp)
  have hF:W.heap[w.heap.size+1]?=some (.cells bK 87):=by
    rw[hW];have e:(w.alloc (.cells #[slice none 0 0,slice none 0 0,slice none 0 0] 78)).heap.size=w.heap.size+1:=by simp
    rw[<-e];exact Tu _ _
  have HW:Xr _:=hW.symm;have RD:=NR L n H a K W (ht.XR hK (by simp)) ar al;have ad:Xr _:=RD;clear RD hW;unfold ET;generalize bE a H=R at *;obtain⟨⟨r,pf,pl,pc⟩,a5,d'⟩:=R;simp only[iw,cZ]at ad Z ⊢;generalize d'.XQ=l at *;generalize d'.rbl=rb at *;go_enter func54,ntmps54;go_wp2_with fail;rw[HW.o];refine Ts ad.o ?_;rintro e c ⟨g,y⟩;have Q:=y.get hA (by simp);have S:=y.get hF (by simp);have hz:=y.size;have a6:=aj hF;cases hr:(r==0)
  · have av:(r != 0)=true:=by simp[bne,hr]
    simp only[hr,Bool.false_eq_true,if_false]at g ⊢;subst g;obtain⟨a0,a1,a2⟩:=wn Q;obtain⟨z0,z1,z2,z3⟩:=cQ S;have ya:=am Q;have yf:=am S;have A:=aj Q;have B:=aj S;go_wp2_with fail;go_region
    all_goals go_wp2
    all_goals exact Tz (v:=tuple #[agg #[slice none 0 0,slice none 0 0,slice none 0 0],agg #[int i64 r,string pf,int i64 pl,int i64 pc]]) (by simp[results,results54,go_sem,a0,a1,a2,z0,z1,z2,z3,A,B]) rfl ⟨rfl,(((qW (hK.trans y) (Tq _) (Wq _) _ _ _ _ _ _ _).alloc _).alloc _).drew⟩
  · have av:(r != 0)=false:=by simp[bne,hr]
    simp only[hr,if_true]at g ⊢;obtain⟨J,rfl,ai,ag⟩:=g;obtain⟨hS,hT⟩:=ai.trim;have af:J 6=wh l J 6:=(pm l J 6 (TH rfl)).symm;rw[af];have hN:∀k,ik (wh l J) k->k<c.heap.size/\w.heap.size+2<=k:=fun k t=>⟨(hT k t).1,by have:=ag k (hT k t).2;omega⟩
    clear ai ag hT af;generalize wh l J=b at *;generalize (J 7).ao=i at *;generalize (J 7).cap=m at *;generalize rb.length=s at *;clear J;have HN:Xr _:=hN;have a3:=Z.o.ok.len;obtain⟨f,C⟩:∃f,f=(c.alloc (.cells #[slice (b 6).ao l.length (b 6).cap,slice i s m] 76)).alloc (.cells #[int i64 0,string ⟨#[]⟩,int i64 0,int i64 0] 87):=⟨_,rfl⟩
    have k3:ae [] c f:=(by rw[C];exact(bR.alloc _).alloc _);have B3:f.heap[c.heap.size]?=some (.cells #[slice (b 6).ao l.length (b 6).cap,slice i s m] 76):=by
      rw[C];exact(bR.alloc _).get (Tu _ _) (by simp)
    have I:f.heap.size=c.heap.size+2:=(by rw[C];simp);have T:=hS.XE k3;have R3:fM f c.heap.size 0 l b:=⟨⟨_,_,B3,rfl⟩,T⟩;obtain⟨r0,r1⟩:=Ba B3;have an:Xr (∀v,ae [] f v->Calls prog 81 #[pointer (some ⟨c.heap.size,0,none⟩)] v fun e aT=>e=returned (int i64 l.length)/\aT=v):=fun v q=>fa c.heap.size 0 l b v (R3.XE q);have a4:Xr (∀v,ae [] f v->v.cell? ⟨c.heap.size,0,none⟩=some (slice (b 6).ao l.length (b 6).cap)/\v.cell? ⟨c.heap.size,1,none⟩=some (slice i s m)):=fun v q=>by
      have q2:=q.get B3 (by simp);exact⟨by rw[ah q2];rfl,by rw[ah q2];rfl⟩
    have m1:=fun w=>dG (P:=prog) w 54 38 i0 _ underlying54 hi ax l.length 6 az (by rw[aS];omega) (by omega);obtain⟨D,U⟩:∃D,D=madeCells (agg #[string ⟨#[]⟩,int i64 0,int i64 0,string ⟨#[]⟩,int i64 0,int i64 0]).cells (l.length*6):=⟨_,rfl⟩
    have ac:Xr (D=(lH (kl l 0)).toArray):=ci (by rw[U,J7,NA]);rw[<-U]at m1;clear U hN hS;have ap:Xr _:=C.symm;clear C;(go_upto_region 4 with fail);rw[ap.o];go_region_held3 (fun v=>v.cell? ⟨c.heap.size,0,none⟩=some (slice (b 6).ao l.length (b 6).cap)/\v.cell? ⟨c.heap.size,1,none⟩=some (slice i s m)) (go_keep) (first | (go_at_call 81;refine(an.o _ (by first | exact(ae.refl [] f).drew | exact((ae.refl [] f).alloc _).drew | exact(ae.refl [] f).drew.alloc _)).mono ?_;rintro e wc ⟨rfl,V⟩;rw[V]))
    · obtain⟨u,d⟩:∃u,u=((f.alloc (.cells D 38)).alloc (.cells #[slice (b 6).ao l.length (b 6).cap,slice i s m,slice (some ⟨c.heap.size+2,0,none⟩) l.length l.length] 78)).drew:=⟨_,rfl⟩
      have k4:ae [] f u:=(by rw[d];exact((bR.alloc _).alloc _).drew);have F:u.heap[c.heap.size+2+1]?=some (.cells #[slice (b 6).ao l.length (b 6).cap,slice i s m,slice (some ⟨c.heap.size+2,0,none⟩) l.length l.length] 78):=by
        rw[d];have e1:(f.alloc (.cells D 38)).heap.size=c.heap.size+2+1:=by simp[I]
        have e:=Tu (f.alloc (.cells D 38)) (.cells #[slice (b 6).ao l.length (b 6).cap,slice i s m,slice (some ⟨c.heap.size+2,0,none⟩) l.length l.length] 78);rw[e1]at e;exact bR.drew.get e (by simp)
      have G4:u.heap[c.heap.size+2]?=some (.cells (lH (kl l 0)).toArray 38):=by
        rw[d,<-ac.o];have e:=((ae.refl [] (f.alloc (.cells D 38))).alloc (.cells #[slice (b 6).ao l.length (b 6).cap,slice i s m,slice (some ⟨c.heap.size+2,0,none⟩) l.length l.length] 78)).drew.get (Tu _ _) (by simp);rw[I]at e;exact e
      rw[<-d];clear d;have RP:jB u (c.heap.size+2+1) 0 l b (c.heap.size+2) (kl l 0):=⟨⟨⟨_,_,F,rfl⟩,T.XE k4⟩,⟨_,_,F,by rw[x9 l 0 (Uc _)];rfl⟩,G4⟩;have HJ:Xr _:=(t9 (c.heap.size+2+1) 0 (c.heap.size+2) l b u RP Z.o.ok Z.o.prf (by omega) (fun x hx=>by have:=HN.o x hx;omega));have X:=(y.trans k3).trans k4;have A4:=X.get hA (by simp);have F4:=X.get hF (by simp);clear RP V;go_wp2_with fail;refine Ts HJ.o ?_;rintro e Y ⟨rfl,O,p⟩;have B5:=p.get F (by simp);have E:=p.get A4 (by simp;omega);have G:=p.get F4 (by simp;omega);obtain⟨b0,b1,b2⟩:=wn B5;obtain⟨a0,a1,a2⟩:=wn E;obtain⟨z0,z1,z2,z3⟩:=cQ G;have ya:=am E;have yf:=am G;have A:=aj E;have B:=aj G;have KW:ae [] w Y:=by
        have q:=(hK.trans X);exact⟨p.os.trans q.os,p.tape.trans q.tape,p.output.trans q.output,TF q.size p.size,fun k t _=>(p.block k (Tw t q.size) (by simp;omega)).trans (q.block k t (by simp))⟩
      have KS:=uB Y w.heap.size (w.heap.size+1);have N:Xr (iu Y l b):=O.recd.XQ;have M:Xr _:=O.arr;have z:Xr _:=KS;clear O KS B5 E G F A4 F4 G4;go_wp2;exact Tz (v:=tuple #[agg #[slice (b 6).ao l.length (b 6).cap,slice i s m,slice (some ⟨c.heap.size+2,0,none⟩) l.length l.length],agg #[int i64 0,string ⟨#[]⟩,int i64 0,int i64 0]]) (by simp[results,results54,go_sem,a0,a1,a2,z0,z1,z2,z3]) rfl
        ⟨⟨b,c.heap.size+2,⟨i,s,m,rfl⟩,N.o.XR (z.o _ _ _ _ _ _ _) (fun k t=>by have:=HN.o k t;simp;omega),(z.o _ _ _ _ _ _ _).get M.o (by simp;omega),fun k t=>by have:=HN.o k t;omega,by omega⟩,qW KW (Tq _) (Wq _) _ _ _ _ _ _ _⟩
    all_goals
      obtain⟨u,d⟩:∃u,u=((f.alloc (.cells #[slice (b 6).ao l.length (b 6).cap,slice i s m,slice (some ⟨c.heap.size+2+1,0,none⟩) l.length l.length] 78)).alloc (.cells D 38)).drew:=⟨_,rfl⟩
      have k4:ae [] f u:=(by rw[d];exact((bR.alloc _).alloc _).drew);have F:u.heap[c.heap.size+2]?=some (.cells #[slice (b 6).ao l.length (b 6).cap,slice i s m,slice (some ⟨c.heap.size+2+1,0,none⟩) l.length l.length] 78):=by
        rw[d];have e:=((ae.refl [] (f.alloc (.cells #[slice (b 6).ao l.length (b 6).cap,slice i s m,slice (some ⟨c.heap.size+2+1,0,none⟩) l.length l.length] 78))).alloc (.cells D 38)).drew.get (Tu _ _) (by simp);rw[I]at e;exact e
      have G4:u.heap[c.heap.size+2+1]?=some (.cells (lH (kl l 0)).toArray 38):=by
        rw[d,<-ac.o];have e1:(f.alloc (.cells #[slice (b 6).ao l.length (b 6).cap,slice i s m,slice (some ⟨c.heap.size+2+1,0,none⟩) l.length l.length] 78)).heap.size=c.heap.size+2+1:=by simp[I]
        have e:=Tu (f.alloc (.cells #[slice (b 6).ao l.length (b 6).cap,slice i s m,slice (some ⟨c.heap.size+2+1,0,none⟩) l.length l.length] 78)) (.cells D 38);rw[e1]at e;exact bR.drew.get e (by simp)
      rw[<-d];clear d;have RP:jB u (c.heap.size+2) 0 l b (c.heap.size+2+1) (kl l 0):=⟨⟨⟨_,_,F,rfl⟩,T.XE k4⟩,⟨_,_,F,by rw[x9 l 0 (Uc _)];rfl⟩,G4⟩;have HJ:Xr _:=(t9 (c.heap.size+2) 0 (c.heap.size+2+1) l b u RP Z.o.ok Z.o.prf (by omega) (fun x hx=>by have:=HN.o x hx;omega));have X:=(y.trans k3).trans k4;have A4:=X.get hA (by simp);have F4:=X.get hF (by simp);clear RP V;go_wp2_with fail;refine Ts HJ.o ?_;rintro e Y ⟨rfl,O,p⟩;have B5:=p.get F (by simp);have E:=p.get A4 (by simp;omega);have G:=p.get F4 (by simp;omega);obtain⟨b0,b1,b2⟩:=wn B5;obtain⟨a0,a1,a2⟩:=wn E;obtain⟨z0,z1,z2,z3⟩:=cQ G;have ya:=am E;have yf:=am G;have A:=aj E;have B:=aj G;have KW:ae [] w Y:=by
        have q:=(hK.trans X);exact⟨p.os.trans q.os,p.tape.trans q.tape,p.output.trans q.output,TF q.size p.size,fun k t _=>(p.block k (Tw t q.size) (by simp;omega)).trans (q.block k t (by simp))⟩
      have KS:=uB Y w.heap.size (w.heap.size+1);have N:Xr (iu Y l b):=O.recd.XQ;have M:Xr _:=O.arr;have z:Xr _:=KS;clear O KS B5 E G F A4 F4 G4;go_wp2;exact Tz (v:=tuple #[agg #[slice (b 6).ao l.length (b 6).cap,slice i s m,slice (some ⟨c.heap.size+2+1,0,none⟩) l.length l.length],agg #[int i64 0,string ⟨#[]⟩,int i64 0,int i64 0]]) (by simp[results,results54,go_sem,a0,a1,a2,z0,z1,z2,z3]) rfl
        ⟨⟨b,c.heap.size+2+1,⟨i,s,m,rfl⟩,N.o.XR (z.o _ _ _ _ _ _ _) (fun k t=>by have:=HN.o k t;simp;omega),(z.o _ _ _ _ _ _ _).get M.o (by simp;omega),fun k t=>by have:=HN.o k t;omega,by omega⟩,qW KW (Tq _) (Wq _) _ _ _ _ _ _ _⟩
structure nF(w:World)(x:Nat)(fs:Fs)(l:List St)(H:Nat->Hd)(g:Nat):Prop where
  ver:∃(a7:Xu) (n7 c7:Nat),jt w x fs true (slice (H 6).ao l.length (H 6).cap) (slice a7 n7 c7) (slice (some ⟨g,0,none⟩) l.length l.length)
  XQ:iu w l H
  arr:w.heap[g]?=some (.cells (lH (bP l l.length)).toArray 38)
  far:x≠g/\∀k,ik H k->k≠x
theorem nF.anyR(h:nF S T g f x y):lP S T g:=by
  obtain⟨a,c,b,h⟩:=h.ver;exact h.anyR
theorem nF.XE(h:nF S T g f x y)(k:ae [] S D):nF D T g f x y:=by
  obtain⟨a,d,b,c⟩:=h.ver;exact⟨⟨a,d,b,bO.XR c k (by simp)⟩,h.XQ.XE k,k.get h.arr (by simp),h.far⟩
theorem nF.tellA(h:nF S T g f x y):QR S T 10 y (bP f f.length):=by
  obtain⟨b,d,c,a⟩:=h.ver;refine⟨⟨_,_,a.1,?_⟩,h.arr⟩;rw[pP];rfl
theorem JS(h:ae N S D)(a:S.heap.size<=T)(b c d e:Value) :
    ae N S ((((D.setCell ⟨T,0,none⟩ b).setCell ⟨T,1,none⟩ c).setCell ⟨T,2,none⟩ d).setCell ⟨T,3,none⟩ e) :=
  (((h.setCell (TE a) _).setCell (TE a) _).setCell (TE a) _).setCell (TE a) _
theorem xI :
    ae [H] I ((((I.setCell ⟨H,0,none⟩ z4).setCell ⟨H,1,none⟩ z5).setCell ⟨H,2,none⟩ z6).setCell ⟨H,3,none⟩ z7) :=
  ((((ae.refl [H] I).sl1 _).sl1 _).sl1 _).sl1 _
theorem sM(h:ae N S D)(a:T∈N∨S.heap.size<=T)(b:y∈N∨S.heap.size<=y)(c d e f g i j k:Value) :
    ae N S ((((((((D.setCell ⟨T,9,none⟩ c).setCell ⟨T,10,none⟩ d).setCell ⟨T,11,none⟩ e).setCell ⟨T,12,none⟩ f).setCell ⟨y,0,none⟩ g).setCell ⟨y,1,none⟩ i).setCell ⟨y,2,none⟩ j).setCell ⟨y,3,none⟩ k) :=
  (((((((h.setCell a _).setCell a _).setCell a _).setCell a _).setCell b _).setCell b _).setCell b _).setCell b _
def Hg(fs:Fs)(k0 x:Nat)(w:World)(e:Ending)(w':World):Prop :=
  (if((bE fs k0).1.1==0)=true then e=returned (tuple #[iw cZ,int i64 0])/\∃H g,nF w' x fs (bE fs k0).2.2.XQ H g/\w.heap.size<=g/\∀k,ik H k->w.heap.size<=k
   else e=returned (tuple #[iw (bE fs k0).1,int i64 6])/\kC w' x fs)/\ae [x] w w'
theorem GM(h:lP i n a)(hf:bU a s=H)(Q:H<a.length)(T:∀j,j<a.length->(ak a j).size<=1024) :
    Calls prog 37 #[pointer (some ⟨n,0,none⟩),string s] i fun e U=>Hg a H n i e U:=by
  have ag:=h.lt;obtain⟨W,C⟩:∃W,W=i.alloc (.cells #[int i64 0,string ⟨#[]⟩,int i64 0,int i64 0] 87):=⟨_,rfl⟩
  have hK:=fI C.symm;have hF:W.heap[i.heap.size]?=some (.cells bK 87):=by rw[C];exact Tu _ _
  have B:=h.XR hK (by simp);have HW:Xr _:=C.symm;have Y:Calls prog 51 #[pointer (some ⟨n,0,none⟩),string s] W fun e U=>e=returned (int i64 H)/\U=W:=by
    obtain⟨an,ap,b,c,hv⟩:=B;rw[<-hf];exact mv n _ a _ s W hv
  have J:Xr _:=Y;have X:=xt n a W B;have I:Xr _:=X;clear Y X C;have L:=fun(V:World) (m:kC V n a)=>Ro n _ H a _ V m Q T;unfold ET at L;have x:Xr _:=L;clear L;unfold Hg;generalize bE a H=R at *;obtain⟨⟨r,pf,pl,pc⟩,af,d'⟩:=R;simp only[iw,cZ]at x ⊢;generalize d'.XQ=l at *;go_enter func37,ntmps37;go_wp2_with fail;rw[HW.o];refine Ts J.o ?_;rintro e w9 ⟨rfl,rfl⟩;go_wp2_with fail;refine Ts I.o ?_;rintro e V ⟨rfl,m,u⟩;have P:=u.get hF (by simp;omega);go_wp2_with fail;refine Ts (x.o _ m) ?_;rintro e A ⟨d,w⟩;have t:=w.get P (by simp);have f:=m.XR w (by simp);have y:ae [n] i A:=((hK.mono (by simp)).trans u).trans (w.mono (by simp));obtain⟨z0,z1,z2,z3⟩:=cQ t;have yf:=am t;have p:=aj t;have ac:n≠i.heap.size:=by omega
  cases D:(r==0)
  · have S:(r != 0)=true:=by simp[bne,D]
    simp only[D,Bool.false_eq_true,if_false]at d ⊢;subst d;have G:Xr _:=f;clear f m B;go_wp2;exact Tz (v:=tuple #[agg #[int i64 r,string pf,int i64 pl,int i64 pc],int i64 6]) (by simp[results,results37,go_sem,z0,z1,z2,z3,p]) rfl
      ⟨⟨rfl,G.o.XR (((xI A i.heap.size _ _ _ _).alloc _).alloc _) (by simp;omega)⟩,((JS y (Tq _) _ _ _ _).alloc _).alloc _⟩
  · have S:(r != 0)=false:=by simp[bne,D]
    simp only[D,if_true]at d ⊢;obtain⟨E,g,a7,n7,c7,rfl,hS,hA,hN,hg⟩:=d;have al:=aj hF;have ai:=u.size;obtain⟨c9,M,N,O⟩:=jt.cells f;have yv:=bO.free f;have Z:Xr _:=jt.turn f true (slice (E 6).ao l.length (E 6).cap) (slice a7 n7 c7) (slice (some ⟨g,0,none⟩) l.length l.length);have K:Xr _:=hS;have F:Xr _:=hA;have q:Xr _:=hN;have ad:n<A.heap.size:=bO.lt f;clear f m B hS hA hN;unfold PH at M N O;unfold Ey at Z;go_wp2;exact Tz (v:=tuple #[agg #[int i64 0,string ⟨#[]⟩,int i64 0,int i64 0],int i64 0]) (by simp[results,results37,go_sem,z0,z1,z2,z3,p]) rfl
      ⟨⟨rfl,E,g,⟨⟨a7,n7,c7,bO.XR Z.o (((xI _ i.heap.size _ _ _ _).alloc _).alloc _) (by simp;omega)⟩,K.o.XR (((sM (ae.refl [n,i.heap.size] A) (TH (by simp)) (TH (by simp)) _ _ _ _ _ _ _ _).alloc _).alloc _) (fun k z=>by have:=q.o k z;simp;omega),(((sM (ae.refl [n,i.heap.size] A) (TH (by simp)) (TH (by simp)) _ _ _ _ _ _ _ _).alloc _).alloc _).get F.o (by simp;omega),⟨by omega,fun k z=>by have:=q.o k z;omega⟩⟩,by omega,fun k z=>by have:=q.o k z;omega⟩,
        ((sM y (TH (by simp)) (TE (Tq _)) _ _ _ _ _ _ _ _).alloc _).alloc _⟩
def oC(l:List St)(lab:Xs)(n:Nat):Bool:=match l[n]? with | some s=>(s.XV.toList==lab.toList)&&oB s.XU | none=>false
def li(l:List St)(lab:Xs):Option Nat:=(List.range l.length).find? (oC l lab)
theorem Ac(h:w<b.length):oC b s w=((b[w].XV.toList==s.toList)&&oB b[w].XU):=by
 unfold oC;rw[Tn h]
set_option maxRecDepth 512
theorem tW(h:fM i L n b m)(N:b.length<=1073741824) :
  Calls prog 135 #[pointer (some ⟨L,n,none⟩),string o] i fun e y=>e=returned (int i64 (oD (li b o)))/\ae [] i y:=by
 go_enter func135,ntmps135;go_wp2
 go_loopg [5] b.length (fun g a wr=>∃k:Nat,k<=b.length/\g=b.length-k/\a=int i64 k/\Xr (∀a,a<k->oC b o a=false)/\ae [] i wr)
 ·exact⟨0,by omega,by omega,rfl,fun a v=>by omega,ae.refl _ _⟩
 obtain⟨k,M,K,rfl,d,r⟩:=hrel;have q:=h.XE r;have c:=q.at
 by_cases l:k<b.length
 ·obtain⟨g,w,I,J,A,B,C,D,E,F,G,H⟩:=q.XQ.stmt k l;rw[w]at c;have p:Xr _:=Ac b o k l;have next:Xr (oC b o k=false->∀a,a<k+1->oC b o a=false):=by
   intro x a v;by_cases e:a=k
   ·subst e;exact x
   ·exact d.o a (by omega)
  generalize b[k]=s at *;cases u:(s.XV.toList==o.toList)
  ·have f:Xr (oC b o k=false):=(by show _=_;rw[p.o,u];simp);clear p q;go_wp2;go_roundg (b.length-(k+1))
   ·exact⟨k+1,by omega,rfl,by go_num,next.o f.o,r⟩
   omega
  ·cases t:oB s.XU
   ·have f:Xr (oC b o k=false):=(by show _=_;rw[p.o,t];simp);clear p q;go_wp2_with (go_at_call 161;refine(dB s.XU _ _ _ _ _ _ _ _).mono ?_;rintro e z ⟨rfl,j⟩;rw[t]);go_roundg (b.length-(k+1))
    ·exact⟨k+1,by omega,rfl,by go_num,next.o f.o,r.trans j⟩
    omega
   ·have f:Xr (li b o=some k):=pb l (by rw[p.o,u,t];rfl) d.o;clear p q;go_wp2_with (go_at_call 161;refine(dB s.XU _ _ _ _ _ _ _ _).mono ?_;rintro e z ⟨rfl,j⟩;rw[t]);go_ret;exact⟨au (by rw[f.o];rfl),r.trans j⟩
 ·have f:Xr (li b o=none):=nQ (fun a v=>d.o a (by omega));clear q;go_wp2;go_ret;exact⟨au (by rw[f.o];rfl),r⟩
structure SS(s:St):Prop where
 XV:s.XV.size<=100000
 syms:∀x∈s.Xz,x.size<=100000
def Ch(l:List St)(n:Nat):Option Xs:=match l[n]? with
 | some s=>if(s.XU==2)=true then some (aN s) else none
 | none=>none
def uJ(l:List St)(hs:Xv):Xt:=hs.filterMap (Ch l)
theorem En(L:Xt)(k:Nat)(x:Xs):dL (L.set k x)=(dL L).set k (string x):=by simp[dL,List.map_set]
theorem nF.recd(h:nF S T g f x y):fM S T 10 f x:=by
 obtain⟨b,d,c,a⟩:=h.ver;exact⟨⟨_,_,a.1,rfl⟩,h.XQ⟩
theorem KY(h:fM i L n b m)(c:b.length<=1073741824) :
  Calls prog 91 #[pointer (some ⟨L,n,none⟩),string o] i fun e f=>e=returned (int i64 (oD (li b o)))/\ae [] i f:=by
 have a:Xr _:=tW L n o b m i h c;go_enter func91,ntmps91;go_wp2_with fail;refine Ts a.o ?_;rintro e g ⟨rfl,d⟩;go_wp2;go_ret;exact⟨rfl,d⟩
theorem LE(l:List St)(f:Nat->Hd)(g:Nat)(c:Xs)(w:World)(h:nF w H a l f g)(p:l.length<=1073741824) :
  Calls prog 60 #[pointer (some ⟨H,0,none⟩),string c] w fun e r=>e=returned (match li l c with | some n=>.tuple #[int i64 n,int i64 0] | none=>.tuple #[int i64 0,int i64 8])/\ae [] w r:=by
 have b:Xr _:=KY H 10 c l f w h.recd p;obtain⟨t,x,u,q⟩:=h.ver;obtain⟨v,j,k,m⟩:=jt.cells q;cases i:li l c with
 | none =>
  rw[i]at b;simp only[oD]at b;go_enter func60,ntmps60;go_wp2_with fail;refine Ts b.o ?_;rintro e s ⟨rfl,d⟩;go_wp2;go_ret2;exact⟨rfl,d⟩
 | some n =>
  rw[i]at b;simp only[oD]at b;go_enter func60,ntmps60;go_wp2_with fail;refine Ts b.o ?_;rintro e s ⟨rfl,d⟩;go_wp2;go_ret2;exact⟨rfl,d⟩
theorem C1{a:Xs}(h:li f a=some T):∃h:T<f.length,oB f[T].XU=true/\f[T].XV.toList=a.toList:=by
 unfold li at h;have c:=TG.1 (Us h);have b:=Vh h;rw[Ac f a T c]at b;simp only[Bool.and_eq_true]at b;exact⟨c,b.2,by simpa using b.1⟩
def qi(l:List St)(n:Nat):Xs:=(l.getD n zu).XV
structure Tj where
 W:Xt
 sp:List (Nat×Nat)
 th:Xv
end Go.Proofs.YtnbhnocdhbcbcaaGreat
