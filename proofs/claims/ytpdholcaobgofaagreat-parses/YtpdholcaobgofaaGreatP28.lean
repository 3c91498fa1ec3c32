import Derived.Test.YtpdholcaobgofaaGreatP24
import Derived.Test.YtpdholcaobgofaaGreatP27
namespace Go.Proofs.YtpdholcaobgofaaGreat
open Go.RowKit Tryz
open Value IntKind Ending
set_option maxHeartbeats 0
variable{z:List St}{y p:Nat}{q:Xr}{A:dZ}{z0:Nat->Nat->Nat->Nat}{r z1:World}{z2:Hd}{B:Xs}(i v:Nat)(D:Hd)(f l:Xs)(x:List dZ)(I:List oy)(t u:Hd)(N M:Nat)(s:Nat->Nat->Nat->Nat)(H:Nat)(o:World)(m:Nat->Nat->Nat)
def st0:St:=⟨0,⟨#[]⟩,[],[],⟨⟨#[]⟩,0,0⟩,0⟩
def di(l:List St)(n:Nat):St:=(l[n]?).getD st0
theorem gW(h:y<z.length):di z y=z[y]:=by unfold di;rw[Xv h];rfl
def kM(L:Xs)(x:Xr):Nat:=L.countP (fun y=>y.toList==x.toList)
def VG(s:St):dZ:=⟨s.Zbz,aZ s,[aB s],[],[]⟩
def Dn(l:List St)(n:Nat):dZ:=⟨(di l n).Zbz,aZ (di l n),(di l n).Zbe.drop 1,(aM l n).map (fun h=>aB (di l h)),(aM l n).map (fun h=>aZ (di l h))⟩
def sA(l:List St)(n:Nat):Bool:=(ph l n).isEmpty&&(aM l n).all (fun h=>((di l h).Zby==2)&&(kM ((di l n).Zbe.drop 1) (aB (di l h))==1))
def nR(l:List St)(a:Nat):List dZ:=((aM l a).filter (fun h=>(di l h).Zby==2)).map (fun h=>VG (di l h))++((List.range a).filter (fun n=>((di l n).Zby==4)&&sA l n)).map (Dn l)
def Uy(T:List Tk)(S:List Sm)(h:Nat):dZ:=⟨bP T (ay S h),(bC T (ay S h).h).getD 0 ⟨#[]⟩,(bC T (ay S h).h).drop 1,[],[]⟩
def UA(T:List Tk)(S:List Sm)(b:Nat):dZ:=⟨bP T (ay S b),(bC T (ay S b).h).getD 0 ⟨#[]⟩,(bC T (ay S b).h).drop 1,(bW T S b).map (fun j=>(bC T (ay S j).h).getD 1 ⟨#[]⟩),(bW T S b).map (fun j=>(bC T (ay S j).h).getD 0 ⟨#[]⟩)⟩
def rY(T:List Tk)(S:List Sm)(b:Nat):Bool:=(jX T S b).isEmpty&&(bW T S b).all (fun j=>!((ay S j).k.toList == [36,101])&&(kM (bC T (ay S b).h) ((bC T (ay S j).h).getD 1 ⟨#[]⟩)==1))
def tw(T:List Tk)(S:List Sm)(a:Nat):List dZ:=((bW T S a).filter (fun j=>(ay S j).k.toList == [36,102])).map (Uy T S)++((List.range a).filter (fun b=>((ay S b).k.toList == [36,97])&&rY T S b)).map (UA T S)
theorem zaw{α β:Type}{f:α->Option β}{g:α->β}{l:List α}(h:∀x∈l,f x=some (g x)):l.filterMap f=l.map g:=by
 induction l with
 | nil=>rfl
 | cons x r b=>rw[List.filterMap_cons,h x (by simp),Zu,b (fun y a=>h y (by simp[a]))]
theorem NR{α:Type}(L:List α)(p:α->Bool)(a b:Nat)(c:a<L.length)(g:b<L.length)(i:a≠b)(e:p L[a]=true)(f:p L[b]=true):2<=L.countP p:=by
 have d:∀(L:List α) (a:Nat) (c:a<L.length),p L[a]=true->1<=L.countP p:=fun L a c h=>List.countP_pos_iff.2 ⟨_,XM c,h⟩
 induction L generalizing a b with
 | nil=>simp at c
 | cons y r j =>
  cases a with
  | zero =>
   cases b with
   | zero=>exact absurd rfl i
   | succ b =>
    rw[Za0 (show p y=true from e)];have:=d r b (by simpa using g) f;omega
  | succ a =>
   cases b with
   | zero =>
    rw[Za0 (show p y=true from f)];have:=d r a (by simpa using c) e;omega
   | succ b =>
    have:=j a b (by simpa using c) (by simpa using g) (by omega) e f;rw[ZaY];omega
section
variable {T:List Tk} {d:Db}
theorem qE(h:p∈aM z y):p<z.length/\((di z p).Zby=2∨(di z p).Zby=3):=by
 unfold aM eF at h;obtain⟨b,a⟩:=Yt.1 h;have b:=XI.1 b;refine⟨b,?_⟩;rw[gW b];rw[Da _ _ _ _ b,XU]at a;have a:=a.2;unfold rZ at a;split at a
 ·next c=>exact XQ (by simpa using c)
 ·exact XK (by simpa using a)
theorem jT.one(R:jT T d)(a:y<d.Zbv.length):fC (ay (aj T) (bF (aj T) y)).k.toList (di d.Zbv y).Zby/\(di d.Zbv y).Zbz=bP T (ay (aj T) (bF (aj T) y))/\(di d.Zbv y).Zbe=bC T (ay (aj T) (bF (aj T) y)).h:=by
 obtain⟨s,b,h⟩:=R.get a;have e:di d.Zbv y=s:=by unfold di;rw[b];rfl
 rw[e];exact h
theorem jT.leaf(R:jT T d)(F:uD d)(e:y<d.Zbv.length)(c:(di d.Zbv y).Zby=2):VG (di d.Zbv y)=Uy T (aj T) (bF (aj T) y):=by
 obtain⟨-,i,j⟩:=R.one e;have f:(di d.Zbv y).Zbe.length=2:=by rw[gW e]at c ⊢;exact F.fl y _ (Xv e) c
 unfold VG Uy;rw[<-i,<-j];have g:[aB (di d.Zbv y)]=(di d.Zbv y).Zbe.drop 1:=by
  unfold aB;rw[XA ⟨by rw[c];rfl,by omega⟩];generalize (di d.Zbv y).Zbe=L at f
  match L,f with
  | [a,b],_=>rfl
 rw[g];rfl
theorem Sv{L:Xs}(h:∀y,L[0]?=some y->y≠q):kM L q=kM (L.drop 1) q:=by
 cases L with
 | nil=>rfl
 | cons y r =>
  have:=h y rfl;unfold kM;rw[List.countP_cons_of_neg (by simpa using PT this)];rfl
theorem jT.isRule(R:jT T d)(F:uD d)(C:yR d)(i:y<d.Zbv.length)(o:(di d.Zbv y).Zby=4):sA d.Zbv y=rY T (aj T) (bF (aj T) y):=by
 unfold sA rY;rw[R.pairs (R.flo F) i F.vsd,<-R.hyps (R.flo F) i,List.all_map];congr 1;rw[Ze,YP,YP];have a:∀h∈aM d.Zbv y,(((di d.Zbv h).Zby==2)&&(kM ((di d.Zbv y).Zbe.drop 1) (aB (di d.Zbv h))==1))=((fun j=>!((ay (aj T) j).k.toList == [36,101])&&(kM (bC T (ay (aj T) (bF (aj T) y)).h) ((bC T (ay (aj T) j).h).getD 1 ⟨#[]⟩)==1)) ∘ bF (aj T)) h:=fun h b=>by
  obtain⟨f,l⟩:=qE b;obtain⟨s,-,t⟩:=R.one f;obtain⟨-,-,u⟩:=R.one i;obtain⟨v,-,-,-⟩:=fQ s;simp only[Function.comp];rw[<-v];rcases l with e | e
  ·rw[e];have p:(di d.Zbv h).Zbe.length=2:=(by rw[gW f]at e ⊢;exact F.fl h _ (Xv f) e);have n:aB (di d.Zbv h)=(bC T (ay (aj T) (bF (aj T) h)).h).getD 1 ⟨#[]⟩:=by
    unfold aB;rw[XA ⟨by rw[e];rfl,by omega⟩,t]
   rw[<-n,<-u];have q:aB (di d.Zbv h)∈d.Zbh:=by
    have m:di d.Zbv h∈d.Zbv:=(by rw[gW f];exact XM f);refine(C.st _ m (by rw[e];omega)).2 e _ ?_;unfold aB;rw[XA ⟨by rw[e];rfl,by omega⟩,Xw,Xv (by omega)];rfl
   rw[Sv (L:=(di d.Zbv y).Zbe) (fun w r c=>?_)]
   ·rfl
   ·have m:di d.Zbv y∈d.Zbv:=(by rw[gW i];exact XM i);have:=(C.st _ m (by rw[o];omega)).1 w r;rw[c]at this;exact C.cv _ this q
  ·rw[e];rfl
 exact⟨fun g h b=>by rw[<-a h b];exact g h b,fun g h b=>by rw[a h b];exact g h b⟩
theorem jT.ZbG(R:jT T d)(F:uD d)(f:y<d.Zbv.length)(e:sA d.Zbv y=true):Dn d.Zbv y=UA T (aj T) (bF (aj T) y):=by
 obtain⟨-,k,l⟩:=R.one f;unfold Dn UA;rw[<-R.hyps (R.flo F) f,Zat,Zat,<-k,<-l];unfold sA at e;rw[XU,YP]at e
 have g:(aM d.Zbv y).map (fun h=>aB (di d.Zbv h))=(aM d.Zbv y).map ((fun j=>(bC T (ay (aj T) j).h).getD 1 ⟨#[]⟩) ∘ bF (aj T)):=YU (fun h b=>by
  have c:=(qE b).1;have a:=e.2 h b;rw[XU]at a;have a:(di d.Zbv h).Zby=2:=by simpa using a.1
  have m:(di d.Zbv h).Zbe.length=2:=by rw[gW c]at a ⊢;exact F.fl h _ (Xv c) a
  simp only[Function.comp];rw[<-(R.one c).2.2]
  unfold aB;rw[XA ⟨by rw[a];rfl,by omega⟩])
 have i:(aM d.Zbv y).map (fun h=>aZ (di d.Zbv h))=(aM d.Zbv y).map ((fun j=>(bC T (ay (aj T) j).h).getD 0 ⟨#[]⟩) ∘ bF (aj T)):=YU (fun h b=>by
  simp only[Function.comp];rw[<-(R.one (qE b).1).2.2];rfl)
 rw[g,i];rfl
theorem jT.prds(R:jT T d)(F:uD d)(C:yR d)(c:y<d.Zbv.length):nR d.Zbv y=tw T (aj T) (bF (aj T) y):=by
 unfold nR tw;congr 1
 ·rw[<-R.hyps (R.flo F) c,List.filter_map,Zat]
  have e:(aM d.Zbv y).filter (fun h=>(di d.Zbv h).Zby==2)=(aM d.Zbv y).filter ((fun j=>(ay (aj T) j).k.toList == [36,102]) ∘ bF (aj T)):=Z9 (fun h g=>by
   simp only[Function.comp];rw[(fQ (R.one (qE g).1).1).2.1])
  rw[e];refine YU (fun h g=>?_);rw[<-e]at g;obtain⟨i,f⟩:=Yt.1 g;exact R.leaf F (qE i).1 (by simpa using f)
 ·have l:=R.hel.len;have p:=R.hel.at_ c;have e:((List.range y).filter (fun n=>((di d.Zbv n).Zby==4)&&sA d.Zbv n)).map (bF (aj T))=(List.range (bF (aj T) y)).filter (fun b=>((ay (aj T) b).k.toList == [36,97])&&rY T (aj T) b):=by
   rw[<-oB (Ys c),<-oB (Ys p)];refine ud l (fun j t h=>?_) (fun n a=>?_)
   ·simp only[Bool.and_eq_true]at h;unfold pa;rw[h.2.1];simp
   ·have s:=R.hel.at_ a;have o:decide (n<y)=decide (bF (aj T) n<bF (aj T) y):=by
     by_cases h:n<y
     ·rw[YX h,YX (m9 h (by rw[<-l];exact c))]
     ·rw[YB h,YB];by_cases e:n=y
      ·rw[e];omega
      ·have:=m9 (S:=aj T) (show y<n by omega) (by rw[<-l];exact a);omega
    rw[o];congr 1;have m:=(R.one a).1;have r:((di d.Zbv n).Zby==4)=((ay (aj T) (bF (aj T) n)).k.toList == [36,97]):=by
     generalize (di d.Zbv n).Zby=k at m;generalize (ay (aj T) (bF (aj T) n)).k.toList=L at m
     (rcases m with ⟨rfl,rfl⟩ | ⟨rfl,rfl⟩ | ⟨rfl,rfl⟩ | ⟨rfl,rfl⟩ | ⟨rfl,rfl⟩ | ⟨rfl,rfl⟩ | ⟨rfl,rfl⟩) <;> rfl
    rw[<-r];cases q:((di d.Zbv n).Zby==4)
    ·rfl
    ·rw[R.isRule F C a (by simpa using q)]
  rw[<-e,Zat];refine YU (fun n a=>?_);obtain⟨i,f⟩:=Yt.1 a;rw[XU]at f;exact R.ZbG F (Nat.lt_trans (XI.1 i) c) f.2
theorem E1(F:uD d)(P:dZ)(x:P∈nR d.Zbv y):ki P:=by
 rcases X9.1 x with h | h
 ·obtain⟨n,-,rfl⟩:=YN.1 h;exact⟨rfl,(fun v a=>by exact absurd a (Zh _)),fun v y b _ _ f=>by cases f⟩
 ·obtain⟨n,p,rfl⟩:=YN.1 h;have g:=(Yt.1 p).2;rw[XU]at g;have g:=g.2;unfold sA at g;rw[XU,YP]at g;have u:(aM d.Zbv n).map (fun h=>aB (di d.Zbv h))=fX d.Zbv (aM d.Zbv n):=by
   unfold fX;refine(zaw (fun h t=>?_)).symm;have o:=(qE t).1;have c:=g.2 h t;rw[XU]at c;unfold pu;rw[Xv o,gW o];rw[gW o]at c;simp[c.1]
  have i:vK (Dn d.Zbv n).vars:=by show vK ((aM d.Zbv n).map _);rw[u];exact F.vsd
  have l:∀v,v<(Dn d.Zbv n).vars.length->kM (Dn d.Zbv n).body ((Dn d.Zbv n).vars.getD v ⟨#[]⟩)=1:=fun v a=>by
   have j:v<(aM d.Zbv n).length:=(by have:v<((aM d.Zbv n).map (fun h=>aB (di d.Zbv h))).length:=a;simpa using this);have c:=g.2 _ (XM j);rw[XU]at c;have e:(Dn d.Zbv n).vars.getD v ⟨#[]⟩=aB (di d.Zbv (aM d.Zbv n)[v]):=by
    show((aM d.Zbv n).map (fun h=>aB (di d.Zbv h))).getD v ⟨#[]⟩=_
    rw[Xw,Yi,Xv j];rfl
   rw[e];exact ZR c.2
  refine⟨by show((aM d.Zbv n).map _).length=((aM d.Zbv n).map _).length;simp,fun v a=>?_,fun v y b r s f q=>?_⟩
  ·have f:=l v a;unfold kM at f;have:0<(Dn d.Zbv n).body.countP (fun m=>m.toList==((Dn d.Zbv n).vars.getD v ⟨#[]⟩).toList):=by omega
   obtain⟨m,A,z⟩:=List.countP_pos_iff.1 this;obtain⟨k,c,rfl⟩:=Yr A;refine⟨k,c,?_⟩;rw[kK _ _ c,rG i a];exact tK (ly z).symm
  ·have a:v<(Dn d.Zbv n).vars.length:=XI.1 (XS f);rw[kK _ _ r,rG i a]at f;rw[kK _ _ s,rG i a]at q;refine ZI (fun p=>?_);have w:=l v a;unfold kM at w;have:=NR (Dn d.Zbv n).body (fun m=>m.toList==((Dn d.Zbv n).vars.getD v ⟨#[]⟩).toList) y b r s p (tK (ly f).symm) (tK (ly q).symm);omega
end
def qZ(tx:Xs)(Ps:List dZ)(C:pB)(codes:Xs)(b n:Nat):Nat->Nat->Nat:=fun k e=>cp (ze (xc tx C (codes.getD k ⟨#[]⟩) b e) (Ps.take n))
def A9(tx:Xs)(Ps:List dZ)(C:pB)(codes:Xs)(b n kc E:Nat):Nat->Nat->Nat:=fun k e=>if k=kc/\¬e<E then qZ tx Ps C codes b n k e else qZ tx Ps C codes b (n+1) k e
section
variable {tx:Xs} {Ps:List dZ} {C:pB} {codes:Xs} {b n kc E k e:Nat}
theorem vB:qZ tx Ps C codes b n k e<=2:=oY _
theorem Wi:A9 tx Ps C codes b n kc E k e<=2:=by unfold A9;split <;> exact vB
theorem Fb(a:n<Ps.length):qZ tx Ps C codes b (n+1) k e=cp (qZ tx Ps C codes b n k e+xc tx C (codes.getD k ⟨#[]⟩) b e Ps[n]):=by
 unfold qZ;rw[Yc a,M8,zn];rfl
theorem zbt(g:vK codes)(f:bZ codes A.code=some kc)(j:k<codes.length)(c:k≠kc):xc tx C (codes.getD k ⟨#[]⟩) b e A=0:=by
 have a:kc<codes.length:=XI.1 (XS f);have i:=(rG g a A.code).1 f;have d:=g.ne a j (fun q=>c q.symm);unfold xc;rw[Xz];intro q;rw[ly i,ly q]at d;simp at d
theorem Nn(f:vK codes)(c:bZ codes A.code=some kc):xc tx C (codes.getD kc ⟨#[]⟩) b e A=mI tx C A b e:=by
 have a:kc<codes.length:=XI.1 (XS c);have d:=(rG f a A.code).1 c;unfold xc;rw[XA (tK (ly d).symm)]
theorem Wj(g:n<Ps.length)(d:vK codes)(c:bZ codes Ps[n].code=some kc)(f:k<codes.length)(a:k≠kc):qZ tx Ps C codes b (n+1) k e=qZ tx Ps C codes b n k e:=by
 rw[Fb g,zbt d c f a,YM,pL vB]
theorem Tj(t:l4 C)(f:n<Ps.length)(d:vK codes)(c:bZ codes Ps[n].code=some kc)(i:k<codes.length):A9 tx Ps C codes b n kc b k e=qZ tx Ps C codes b n k e:=by
 unfold A9;split
 ·rfl
 ·next h =>
  by_cases a:k=kc
  ·have g:e<b:=by
    by_cases q:e<b
    ·exact q
    ·exact absurd ⟨a,q⟩ h
   rw[Fb f,a,Nn d c,No _ t b e g,YM,pL vB]
  ·exact Wj f d c i a
theorem za9(a:e<E):A9 tx Ps C codes b n kc E k e=qZ tx Ps C codes b (n+1) k e:=by
 unfold A9;rw[Xz (fun q=>q.2 a)]
theorem Ti(j:n<Ps.length)(i:vK codes)(g:bZ codes Ps[n].code=some kc)(z:Nat)(l:z=cp (mI tx C Ps[n] b E)):nY (A9 tx Ps C codes b n kc E) kc E (yI (A9 tx Ps C codes b n kc E kc E) z) k e=A9 tx Ps C codes b n kc (E+1) k e:=by
 have d:A9 tx Ps C codes b n kc E kc E=qZ tx Ps C codes b n kc E:=by unfold A9;rw[XA ⟨rfl,by omega⟩]
 have f:yI (qZ tx Ps C codes b n kc E) z=qZ tx Ps C codes b (n+1) kc E:=by
  rw[Fb j,Nn i g,Eg,<-l];unfold yI;split
  ·rw[YO]
  ·next h=>rw[show z=0 by omega,YM,pL vB]
 rw[d,f];unfold nY;by_cases h:k=kc/\e=E
 ·rw[XA h];unfold A9;rw[Xz (fun q=>q.2 (by omega)),h.1,h.2]
 ·rw[Xz h];unfold A9;by_cases a:k=kc
  ·have m:e≠E:=fun q=>h ⟨a,q⟩;by_cases c:e<E
   ·rw[Xz (fun q=>q.2 c),Xz (fun q=>q.2 (by omega))]
   ·rw[XA ⟨a,c⟩,XA ⟨a,by omega⟩]
  ·rw[Xz (fun q=>a q.1),Xz (fun q=>a q.1)]
end
set_option maxRecDepth 100000
theorem KN(hg:xd o v l x I t u)(h:go o i v D f N M l.length s)(hv:dB o D f)(hn:l.length*(f.length+1)<=1000000)(ht:f.length<=100)(O:∀P∈x,P.body.length<=100000)(cb:x.length<=100000)(hd:vK l)(hb:H<f.length+1)(Y:∀k bo j,s k bo j<=2)(a4:l4 (CG l s)) :
  Calls prog 220 #[pointer (some ⟨i,0,none⟩),int i64 H] o fun e c=>∃g a,e=returned (pointer (some ⟨g,0,none⟩))/\cI c g a l.length (f.length+1) (qZ f x (CG l s) l H x.length)/\o.heap.size<=g/\o.heap.size<=a/\aa [] o c:=by
 have aS:Xq (∀(n:Nat) (w:n<I.length) (y:n<x.length) (b:World),aa [] o b->Calls prog 199 #[pointer (some ⟨i,0,none⟩),zb I[n],int i64 H] b fun e c=>∃g a,e=returned (pointer (some ⟨g,0,none⟩))/\cI c g a (x[n].body.length+1) (f.length+1) (Fq f (CG l s) x[n] H)/\b.heap.size<=g/\b.heap.size<=a/\aa [] b c):=fun n w y b q =>
  Jg i v D f l N M s I[n] x[n] H b (h.Zbj q) ((hg.each n _ _ (Xv w) (Xv y)).Zbj q) (hv.Zbj q) hn ht (O _ (XM y)) hb Y a4
 have b1:Xq (∀(n:Nat) (w:n<I.length) (b:World),aa [] o b->Calls prog 198 #[pointer (some ⟨v,0,none⟩),int i64 n] b fun e c=>e=returned (zb I[n])/\aa [] b c):=fun n w b q=>tA v l x I t u n w b (hg.Zbj q);have al:Xq (∀b,aa [] o b->Calls prog 194 #[pointer (some ⟨v,0,none⟩)] b fun e c=>e=returned (int i64 l.length)/\c=b):=fun b q=>xm v l x I t u b (hg.Zbj q);have bp:Xq (∀b,aa [] o b->Calls prog 197 #[pointer (some ⟨v,0,none⟩)] b fun e c=>e=returned (int i64 I.length)/\c=b):=fun b q=>Ge v l x I t u b (hg.Zbj q);have K:Xq (∀b,aa [] o b->b.cell? ⟨i,0,none⟩=some (pointer (some ⟨v,0,none⟩))/\b.cell? ⟨i,2,none⟩=some (int i64 (f.length+1:Nat))/\i<b.heap.size):=fun b q=>⟨(h.Zbj q).cells.1,(h.Zbj q).cells.2.2.1,(h.Zbj q).lt⟩
 have b0:Xq (∀(n:Nat) (w:n<I.length) (y:n<x.length),I[n].np=x[n].body.length/\bZ l x[n].code=some I[n].code/\x[n].body.length<=100000):=fun n w y=>by
  have q:=hg.each n _ _ (Xv w) (Xv y);exact⟨q.np,q.cod,O _ (XM y)⟩
 have HT:Xq _:=a4;have HD:Xq _:=hd;have av:Xq _:=hg.len;have b6:l.length<=1000000:=XF (ZC _ (ZD _)) hn;have V:Xq _:=tj l.length (f.length+1);obtain⟨A,ax⟩:=aP (l.length);rw[ax.o]at b6 al V ⊢;obtain⟨S,HS⟩:=aP (f.length+1);rw[HS.o]at hb aS K V ⊢;have hS:S<=101:=by rw[<-HS.o];omega
 have ct:I.length<=100000:=by rw[av.o];exact cb
 obtain⟨C,HC⟩:=aP (CG l s);rw[HC.o]at aS HT ⊢;clear h hg hv Y a4 hn ht O hd;obtain⟨c0,c2,Z⟩:=K.o o (aa.refl _ _);go_enter func220,ntmps220;go_upto_region 1 with fail
 go_region_held3 (fun c=>c.cell? ⟨i,0,none⟩=some (pointer (some ⟨v,0,none⟩))/\c.cell? ⟨i,2,none⟩=some (int i64 S)) (go_keep) (first | (go_at_call 194;refine Xx (al.o _ (by exact(aa.refl [] o).drew)) ?_;rintro e1 w1 ⟨rfl,bl⟩;rw[bl];clear bl) | (go_at_call 193;refine Xx (V.o _ (by omega) (by omega)) ?_;rintro e1 w1 ⟨g,a,rfl,bg,lg,la,k1⟩;obtain⟨x0,x1,x2⟩:=K.o w1 ((aa.refl [] o).drew.trans k1)));have be:aa [] o w1:=(aa.refl [] o).drew.trans k1;have ar:Xq (o.heap.size<=g/\o.heap.size<=a):=⟨lg,la⟩
 have b4:Xq (∀(a5:Nat->Nat->Nat) (a3 e:Nat) (m:Int) (b:World),cI b g a A S a5->aa [] o b->a3<A->e<S->a5 a3 e<=2->-2<=m/\m<=4->Calls prog 221 #[pointer (some ⟨g,0,none⟩),int i64 a3,int i64 e,int i64 m] b fun e' c=>(∃r,e'=returned (bool r))/\cI c g a A S (nY a5 a3 e (yI (a5 a3 e) m))/\aa [] o c/\aa [a] b c):=fun a5 a3 e m b h1 Y h3 h4 h5 h6=>by
  refine(xO g a A S a5 a3 e m b h1 (by omega) (by omega) h3 h4 h5 h6).mono ?_;rintro e' c ⟨he,hg,hk⟩;have:=ar.o.2;exact⟨⟨_,he⟩,hg,⟨hk.os.trans Y.os,hk.tape.trans Y.tape,hk.output.trans Y.output,XF Y.size hk.size,fun bo hi _=>(hk.block bo (XB hi Y.size) (by simp;omega)).trans (Y.block bo hi (by simp))⟩,hk⟩
 have bq:Xq (cI w1 g a A S (qZ f x C l H 0)):=bg.ext (fun r e _ _=>rfl);have bs:Xq _:=be;clear bg lg la k1 be c0 c2 Z x0 x1 x2 al V;go_wp2
 go_loopg [6] I.length (fun gk nv wr=>∃n:Nat,n<=I.length/\gk=I.length-n/\nv=int i64 n/\Xq (cI wr g a A S (qZ f x C l H n))/\Xq (aa [] o wr))
 ·exact⟨0,by omega,by omega,rfl,bq,bs⟩
 obtain⟨n,cu,cs,rfl,T,F⟩:=hrel;obtain⟨c0,c2,Z⟩:=K.o _ F.o;have ai:Xq _:=bp.o _ F.o;rcases kn n I.length with ⟨Q,cv⟩ | ⟨Q,cx⟩
 ·have ac:n<x.length:=by rw[<-av.o];exact Q
  have J:Xq _:=b1.o n Q _ F.o;have L:Xq _:=aS.o n Q ac;obtain⟨af,d,O⟩:=b0.o n Q ac;have b8:I[n].code<A:=by rw[<-ax.o];exact XI.1 (XS d)
  have ad:Xq (∀r e,r<A->e<S->A9 f x C l H n I[n].code H r e=qZ f x C l H n r e):=fun r e hr _=>Tj HT.o ac HD.o d (by rw[ax.o];exact hr);have b3:Xq (∀E r e,nY (A9 f x C l H n I[n].code E) I[n].code E (yI (A9 f x C l H n I[n].code E I[n].code E) (cp (mI f C x[n] H E):Nat)) r e=A9 f x C l H n I[n].code (E+1) r e):=fun E r e=>Ti ac HD.o d _ rfl;have bc:Xq (∀E,Fq f C x[n] H x[n].body.length E=cp (mI f C x[n] H E)):=fun E=>by unfold Fq mI;rw[Yl]
  unfold zb at J L;generalize I[n]=p at *;generalize x[n]=P at *;rw[af]at J L;obtain⟨G,bx⟩:=aP (P.body.length);rw[bx.o]at J L bc O;clear d af;go_upto_region 6 with (first | (go_at_call 197;refine Xx ai.o ?_;rintro e2 w2 ⟨rfl,R⟩;rw[R];clear R) | (go_at_call 198;refine Xx J.o ?_;rintro e3 w3 ⟨rfl,k3⟩))
  obtain⟨W4,X⟩:∃W,Xq (w3.alloc (.cells #[string p.Zbz,int i64 p.code,slice (some ⟨p.ap,0,none⟩) G G,slice p.ag p.gs.length p.gs.length] 289)=W):=⟨_,rfl⟩
  have B4:=dC X.o;have a1:=dx X.o;have aT:aa [] o W4:=(F.o.trans k3).trans a1;have bf:a≠w3.heap.size/\g≠w3.heap.size:=by
   have:=(T.o.Zbj k3).lt;omega
  have an:Xq (cI W4 g a A S (A9 f x C l H n p.code H)):=(T.o.Zbj (k3.trans a1)).ext (fun r e hr he=>(ad.o r e hr he).symm);obtain⟨pk,az⟩:=aP (w3.heap.size);rw[az.o]at B4 bf;obtain⟨p0,p1,p2,p3⟩:=zU B4;have bk:=ah B4;have ba:Xq _:=L.o W4 aT;have a6:Xq _:=B4;have bv:Xq _:=aT;rw[X.o,az.o];clear B4 a1 aT k3 L J T F ai ad c0 c2 Z;go_upto_region 7 with (go_at_call 199;refine Xx ba.o ?_;rintro e5 w5 ⟨g2,a2,rfl,bj,ch,cf,k5⟩)
  have bw:Xq (aa [] o w5):=bv.o.trans k5;have br:Xq (cI w5 g a A S (A9 f x C l H n p.code H)):=an.o.Zbj k5;have bd:Xq _:=bj;have a0:g2≠a/\a2≠a/\pk≠a:=by have:=an.o.lt;have:=bf.1;omega
  have a7:Xq (∀b,aa [a] w5 b->b.cell? ⟨pk,1,none⟩=some (int i64 p.code)/\b.cell? ⟨pk,2,none⟩=some (slice (some ⟨p.ap,0,none⟩) G G)/\pk<b.heap.size):=fun b q=>by
   have B:=q.get (k5.get a6.o (by simp)) (by simpa using a0.2.2);exact⟨by rw[ab B];rfl,by rw[ab B];rfl,ah B⟩
  have b5:Xq (∀b,aa [a] w5 b->cI b g2 a2 (G+1) S (Fq f C P H)):=fun b q=>bd.o.Zbw q (by simpa using a0.1) (by simpa using a0.2.1);clear bj ch cf k5 an ba bd a6 p0 p1 p2 p3 bk X az;go_wp2
  go_loopg [9] (S-H) (fun g3 ev b=>∃E:Nat,H<=E/\E<=S/\g3=S-E/\ev=int i64 E/\Xq (cI b g a A S (A9 f x C l H n p.code E))/\Xq (aa [] o b)/\Xq (aa [a] w5 b))
  ·exact⟨H,by omega,by omega,rfl,rfl,br,bw,aa.refl _ _⟩
  obtain⟨E,co,cj,cq,rfl,ao,aq,U⟩:=hrel;obtain⟨-,c2,Z⟩:=K.o _ aq.o;rcases kn E S with ⟨hE,ck⟩ | ⟨hE,cl⟩
  ·obtain⟨p1,p2,bk⟩:=a7.o _ U.o;have HA:Xq (∀wy,aa [] wr wy->Calls prog 196 #[pointer (some ⟨g2,0,none⟩),int i64 G,int i64 E] wy fun e' c=>e'=returned (int i64 (cp (mI f C P H E)))/\c=wy):=fun wy q=>by
    have:=CH g2 a2 (G+1) S (Fq f C P H) G E wy ((b5.o _ U.o).Zbj q) (by omega) (by omega) (by omega) hE;rw[bc.o]at this;exact this
   have hz:=oY (mI f C P H E);have bz:Xq (∀wy,cI wy g a A S (nY (A9 f x C l H n p.code E) p.code E (yI (A9 f x C l H n p.code E p.code E) (cp (mI f C P H E):Nat)))->cI wy g a A S (A9 f x C l H n p.code (E+1))):=fun wy q=>q.ext (fun r e _ _=>b3.o E r e);generalize cp (mI f C P H E)=z at *;have HR:=fun wy (q:aa [] wr wy)=>b4.o _ p.code E (z:Int) wy (ao.o.Zbj q) (aq.o.trans q) b8 hE Wi (by omega);have b2:Xq _:=HR;clear HR;have bT:Xq (∀wy wz,aa [] wr wy->aa [a] wy wz->(wz.cell? ⟨pk,1,none⟩=some (int i64 p.code)/\wz.cell? ⟨pk,2,none⟩=some (slice (some ⟨p.ap,0,none⟩) G G)/\pk<wz.heap.size)/\aa [a] w5 wz):=fun wy wz q1 q2=>⟨a7.o wz ((U.o.trans (q1.mono (by simp))).trans q2),(U.o.trans (q1.mono (by simp))).trans q2⟩
   clear ao;(go_upto_region 10 with fail);go_region_held3 (fun c=>c.cell? ⟨pk,1,none⟩=some (int i64 p.code)/\c.cell? ⟨pk,2,none⟩=some (slice (some ⟨p.ap,0,none⟩) G G)) (go_keep) (first | (go_at_call 196;refine Xx (HA.o _ (by exact bH.drew)) ?_;rintro e6 w6 ⟨rfl,bm⟩;rw[bm];clear bm) | (go_at_call 221;refine Xx (b2.o _ (by exact bH.drew)) ?_;rintro e7 w7 ⟨⟨r7,rfl⟩,b7,k7,cc⟩;obtain⟨⟨y0,y1,y2⟩,cd⟩:=bT.o _ w7 (by exact bH.drew) cc));go_wp2;go_roundg (S-(E+1))
   ·exact⟨E+1,by omega,by omega,rfl,by go_num,bz.o _ b7,k7,cd⟩
   omega
  ·have am:Xq (cI wr g a A S (qZ f x C l H (n+1))):=ao.o.ext (fun r e _ he=>za9 (by omega));go_wp2;go_roundg (I.length-(n+1))
   ·exact⟨n+1,by omega,rfl,by go_num,am,aq⟩
   omega
 ·have am:Xq (cI wr g a A S (qZ f x C l H x.length)):=by rw[show x.length=n by have:=av.o;omega];exact T.o
  go_wp2_with (go_at_call 197;refine Xx ai.o ?_;rintro e2 w2 ⟨rfl,R⟩;rw[R];clear R);go_ret;exact⟨g,a,rfl,am.o,ar.o.1,ar.o.2,F.o⟩
theorem IL{f g:Nat->Nat}{n k:Nat}(h:∀i,i<n->f i<=g i)(d:k<n)(j:f k<g k):sm f n<sm g n:=by
 induction n with
 | zero=>omega
 | succ n b =>
  show sm f n+f n<sm g n+g n;have c:=h n (by omega);by_cases e:k=n
  ·subst e;have:=Dy (f:=f) (g:=g) (n:=k) (fun i a=>h i (by omega));omega
  ·have:=b (fun i a=>h i (by omega)) (by omega);omega
structure Cb(G:Nat->Nat->Nat->Nat):Prop where
 two:∀k i j,G k i j<=2
 tri:∀k i j,j<i->G k i j=0
theorem Cb.cg(h:Cb z0)(a:Xs):l4 (CG a z0):=fun c i j b=>by
 unfold CG;split
 ·exact h.tri _ _ _ b
 ·rfl
def uF(S:Nat)(G:Nat->Nat->Nat->Nat)(Fr:Nat->Nat->Nat)(b k E:Nat):Nat->Nat->Nat->Nat:=fun k' i e=>if(i=b/\e<S)/\(k'<k∨(k'=k/\e<E)) then Fr k' e else G k' i e
def msG(S nc b:Nat)(G:Nat->Nat->Nat->Nat):Nat:=sm (fun k=>sm (fun e=>2-G k b e) S) nc
def msF(S nc b:Nat)(r:Bool)(G:Nat->Nat->Nat->Nat):Nat:=if r=true then 1+msG S nc b G else 0
section
variable {tx codes:Xs} {Ps:List dZ} {C:pB} {G:Nat->Nat->Nat->Nat} {b k e E S nc:Nat}
theorem Mu:qZ tx Ps C codes b Ps.length k e=FC tx Ps C (codes.getD k ⟨#[]⟩) b e:=by unfold qZ;rw[Yl];rfl
theorem Rt(t:l4 C)(h:e<b):qZ tx Ps C codes b Ps.length k e=0:=by rw[Mu];exact DN t _ b e h
theorem Js(a:∀P∈Ps,∃k,bZ codes P.code=some k)(h:bZ codes q=none)(i j:Nat):FC tx Ps C q i j=0:=by
 unfold FC;rw[M9 (fun P c=>?_)]
 ·rfl
 ·unfold xc;split
  ·next d =>
   obtain⟨k,b⟩:=a P c;rw[ly d,h]at b;cases b
  ·rfl
theorem qM{k:Nat}(h:bZ codes q=some k):codes.getD k ⟨#[]⟩=q:=ly (by simpa using Zd h)
theorem Xa(R:Nt tx Ps (CG codes G) b)(c:vK codes)(f:k<codes.length)(d:e<tx.length+1):G k b e<=qZ tx Ps (CG codes G) codes b Ps.length k e:=by
 have a:bZ codes (codes.getD k ⟨#[]⟩)=some k:=(rG c f _).2 (by simp);have:=R.up (codes.getD k ⟨#[]⟩) e d;rw[uC a]at this;rw[Mu];exact this
theorem zbX(a:Cb G)(t:l4 C):Cb (uF S G (qZ tx Ps C codes b Ps.length) b k E):=by
 refine⟨fun d i e=>?_,fun d i e c=>?_⟩
 ·unfold uF;split
  ·exact vB
  ·exact a.two _ _ _
 ·unfold uF;split
  ·next h=>exact Rt t (by omega)
  ·exact a.tri _ _ _ c
theorem zav(f:∀e,e<b->m (k+1) e=G (k+1) b e):uF S G m b (k+1) b=uF S G m b k S:=by
 funext k' i e
 unfold uF;by_cases a:(i=b/\e<S)/\(k'<k∨(k'=k/\e<S))
 ·rw[XA a,XA ⟨a.1,XQ (by omega)⟩]
 ·rw[Xz a];split
  ·next c =>
   have d:k'=k+1/\e<b:=by
    rcases c.2 with q | q
    ·exact absurd ⟨c.1,by omega⟩ a
    ·exact q
   rw[d.1,c.1.1];exact f e d.2
  ·rfl
theorem Vh(c:∀e,e<b->m 0 e=G 0 b e):uF S G m b 0 b=G:=by
 funext k' i e
 unfold uF;split
 ·next h =>
  have a:k'=0/\e<b:=by omega
  rw[a.1,h.1.1];exact c e a.2
 ·rfl
theorem Mt:uF S G m b k E k b E=G k b E:=by unfold uF;rw[Xz (by omega)]
theorem Ve(g:E<S)(a i e:Nat):uF S G m b k (E+1) a i e=if a=k/\i=b/\e=E then m k E else uF S G m b k E a i e:=by
 unfold uF;by_cases h:a=k/\i=b/\e=E
 ·rw[XA h,XA ⟨⟨h.2.1,by omega⟩,XK ⟨h.1,by omega⟩⟩,h.1,h.2.2]
 ·rw[Xz h];by_cases c:(i=b/\e<S)/\(a<k∨(a=k/\e<E))
  ·rw[XA c,XA ⟨c.1,by omega⟩]
  ·rw[Xz c,Xz];rintro ⟨d,f⟩;rcases f with q | q
   ·exact c ⟨d,XQ q⟩
   ·have:e≠E:=fun z=>h ⟨q.1,d.1,z⟩;exact c ⟨d,XK ⟨q.1,by omega⟩⟩
theorem Vg(R:Nt tx Ps (CG codes G) b)(e:b<tx.length+1)(a:∀P∈Ps,∃k,bZ codes P.code=some k):Nt tx Ps (CG codes (uF (tx.length+1) G (qZ tx Ps (CG codes G) codes b Ps.length) b codes.length b)) b:=by
 refine R.step e (fun c j f=>?_) (fun c i j h=>?_)
 ·cases d:bZ codes c with
  | none=>rw[Js a d];unfold CG;rw[d]
  | some k =>
   have g:k<codes.length:=XI.1 (XS d);rw[uC d];unfold uF;rw[XA ⟨⟨rfl,f⟩,XQ g⟩,Mu,qM d]
 ·unfold CG;split
  ·unfold uF;rw[Xz (by omega)]
  ·rfl
theorem Vf(R:Nt tx Ps (CG codes G) b)(a:∀P∈Ps,∃k,bZ codes P.code=some k)(i:∀k e,e<tx.length+1->k<codes.length->qZ tx Ps (CG codes G) codes b Ps.length k e=G k b e):rg tx Ps (CG codes G) b:=by
 refine R.done (fun c j f=>?_);cases d:bZ codes c with
 | none=>rw[Js a d];exact XX _
 | some k =>
  have g:k<codes.length:=XI.1 (XS d);have:=i k j f g;rw[Mu,qM d]at this;rw[this,uC d];exact Xy _
theorem zbW(a:∀k e,e<S->k<nc->m k e=G k b e)(c:∀e,e<b->m nc e=G nc b e):uF S G m b nc b=G:=by
 funext k' i e
 unfold uF;split
 ·next h =>
  rw[h.1.1];rcases h.2 with q | q
  ·exact a k' e h.1.2 q
  ·rw[q.1];exact c e q.2
 ·rfl
theorem VP(g:∀k e,m k e<=2)(f:∀k e,e<S->k<nc->G k b e<=m k e)(c:y<nc)(a:p<S)(i:G y b p<m y p):msG S nc b (uF S G m b nc b)<msG S nc b G:=by
 unfold msG;have d:∀k e,k<nc->e<S->uF S G m b nc b k b e=m k e:=fun k e c a=>by unfold uF;rw[XA ⟨⟨rfl,a⟩,XQ c⟩]
 refine IL (fun k c=>Dy (fun e a=>?_)) c (IL (fun e a=>?_) a ?_)
 ·rw[d k e c a];have:=f k e a c;omega
 ·rw[d y e c a];have:=f y e a c;omega
 ·rw[d y p c a];have:=g y p;omega
end
theorem go.ne{c a b:Nat}(h:go r y p z2 B c a b z0):y≠a:=by
 rintro rfl;have:=h.Zbx;rw[show r.heap[y]?=some (.cells (eR (iH (b*(B.length+1)) (B.length+1) (yx (B.length+1) z0))).toArray 3) from h.cnt.arr]at this;simp only[Option.some.injEq,Obj.cells.injEq]at this;exact absurd this.2.1 (by decide)
theorem FX(G n:Nat->Nat->Nat->Nat)(k b e:Nat)(m:Int)(w:World)(h:go w i v D l N M H G)(I:H*(l.length+1)<=1000000)(P:l.length<=100)(C:k<H)(c:b<l.length+1)(A:e<l.length+1)(J:G k b e<=2)(F:-2<=m/\m<=4)(y:∀g f j,g<H->f<l.length+1->j<l.length+1->n g f j=if g=k/\f=b/\j=e then yI (G k b e) m else G g f j) :
  Calls prog 221 #[pointer (some ⟨N,0,none⟩),int i64 (k*(l.length+1)+b:Nat),int i64 e,int i64 m] w fun p o=>p=returned (bool (decide (0<m) && !(G k b e==2)))/\go o i v D l N M H n/\aa [M] w o:=by
 have r:yx (l.length+1) G (k*(l.length+1)+b) e=G k b e:=by unfold yx;rw[sQ c,sR c]
 refine(xO N M (H*(l.length+1)) (l.length+1) (yx (l.length+1) G) (k*(l.length+1)+b) e m w h.cnt I (by omega) (pO C c) A (by rw[r];exact J) F).mono ?_;rintro p o ⟨d,t,s⟩;rw[r]at d t;refine⟨d,⟨s.get h.Zbx (by simpa using h.ne),t.ext (fun a j E B=>?_)⟩,s⟩;have z:0<l.length+1:=by omega
 have u:a / (l.length+1)<H:=Nat.div_lt_of_lt_mul (by rw[ZF];exact E);have x:a % (l.length+1)<l.length+1:=Nat.mod_lt _ z;show _=n (a / (l.length+1)) (a % (l.length+1)) j;rw[y _ _ _ u x B];unfold nY;by_cases q:a=k*(l.length+1)+b/\j=e
 ·rw[XA q,q.1,sQ c,sR c,XA ⟨rfl,rfl,q.2⟩]
 ·rw[Xz q,Xz]
  ·rfl
  ·rintro ⟨K,L,O⟩;have:=Nat.div_add_mod a (l.length+1);rw[K,L,ZF]at this;exact q ⟨this.symm,O⟩
structure Fz(w:World)(gm:Nat)(hs:Hd)(tx codes:Xs)(Ps:List dZ)(L:List oy)(hc hp:Hd):Prop where
 gm:xd w gm codes Ps L hc hp
 vw:dB w hs tx
 hn:codes.length*(tx.length+1)<=1000000
 ht:tx.length<=100
 bl:∀P∈Ps,P.body.length<=100000
 pl:Ps.length<=100000
 dist:vK codes
 cov:∀P∈Ps,∃k,bZ codes P.code=some k
theorem Fz.Zbj{a:Xs}{b:List dZ}{L:List oy}{c d:Hd}(h:Fz r y z2 B a b L c d)(k:aa [] r z1):Fz z1 y z2 B a b L c d:=⟨h.gm.Zbj k,h.vw.Zbj k,h.hn,h.ht,h.bl,h.pl,h.dist,h.cov⟩
theorem mW{b:World}(k:aa [] r z1)(q:aa [y] z1 b)(c:r.heap.size<=y):aa [] r b :=
 ⟨q.os.trans k.os,q.tape.trans k.tape,q.output.trans k.output,XF k.size q.size,fun i a _=>(q.block i (XB a k.size) (by simp;omega)).trans (k.block i a (by simp))⟩
structure zC(w wx:World)(c gm:Nat)(hs:Hd)(tx:Xs)(cg ca g a nc:Nat)(G:Nat->Nat->Nat->Nat)(Fr:Nat->Nat->Nat)(b k E:Nat)(rs:Bool):Prop where
 ch:go wx c gm hs tx cg ca nc (uF (tx.length+1) G Fr b k E)
 yes:rs=true->∃k' e,k'<nc/\e<tx.length+1/\G k' b e<Fr k' e
 no:rs=false->∀k' e,e<tx.length+1->(k'<k∨(k'=k/\e<E))->Fr k' e=G k' b e
 kp:aa [ca] w wx
 fr:cI wx g a nc (tx.length+1) Fr
section
variable {w wr wx w':World} {c gm cg ca g a nc b k E:Nat} {hs:Hd} {tx:Xs} {G:Nat->Nat->Nat->Nat} {Fr:Nat->Nat->Nat} {rs:Bool}
theorem zC.next(H:zC w wr c gm hs tx cg ca g a nc G Fr b k E rs)(j:aa [] wr wx)(l:aa [ca] wx w')(n:go w' c gm hs tx cg ca nc (uF (tx.length+1) G Fr b k (E+1)))(d:g≠ca/\a≠ca)(p:k<nc)(m:E<tx.length+1)(s:G k b E<=Fr k E):zC w w' c gm hs tx cg ca g a nc G Fr b k (E+1) (rs||decide (G k b E<Fr k E)):=by
 refine⟨n,fun q=>?_,fun q i e o r=>?_,(H.kp.trans (j.mono (by simp))).trans l,(H.fr.Zbj j).Zbw l (by simpa using d.1) (by simpa using d.2)⟩
 ·rcases Bool.or_eq_true_iff.1 q with q | q
  ·exact H.yes q
  ·exact⟨k,E,p,m,by simpa using q⟩
 ·rw[Yw]at q;have t:¬G k b E<Fr k E:=by simpa using q.2
  by_cases f:i=k/\e=E
  ·rw[f.1,f.2];omega
  ·exact H.no q.1 i e o (by omega)
theorem zC.row(H:zC w wr c gm hs tx cg ca g a nc G Fr b k (tx.length+1) rs)(d:∀e,e<b->Fr (k+1) e=G (k+1) b e):zC w wr c gm hs tx cg ca g a nc G Fr b (k+1) b rs:=by
 refine⟨by rw[zav Fr d];exact H.ch,H.yes,fun q f e j l=>?_,H.kp,H.fr⟩;by_cases i:f=k+1
 ·rw[i];exact d e (by omega)
 ·exact H.no q f e j (by omega)
end
theorem Rn(w:World)(r:Fz o v D f l x I t u)(K0:aa [] o w)(ar:o.heap.size<=M)(h:go w i v D f N M l.length s)(ap:Cb s)(aT:rg f x (CG l s) (H+1))(hb:H<f.length+1) :
  Calls prog 195 #[pointer (some ⟨i,0,none⟩),int i64 H] w fun e n=>e=returned (tuple #[])/\∃G',go n i v D f N M l.length G'/\Cb G'/\rg f x (CG l G') H/\aa [M] w n:=by
 have bc:Xq (∀(G:Nat->Nat->Nat->Nat) (b:World),go b i v D f N M l.length G->Cb G->aa [M] w b->Calls prog 220 #[pointer (some ⟨i,0,none⟩),int i64 H] b fun e n=>∃g a,e=returned (pointer (some ⟨g,0,none⟩))/\cI n g a l.length (f.length+1) (qZ f x (CG l G) l H x.length)/\b.heap.size<=g/\b.heap.size<=a/\aa [] b n):=fun G b h1 h2 q=>by
  have k:=mW K0 q ar;exact KN i v D f l x I t u N M G H b (r.gm.Zbj k) h1 (r.vw.Zbj k) r.hn r.ht r.bl r.pl r.dist hb h2.two (h2.cg l)
 have a2:Xq (∀b,aa [M] w b->Calls prog 194 #[pointer (some ⟨v,0,none⟩)] b fun e n=>e=returned (int i64 l.length)/\n=b):=fun b q=>xm v l x I t u b (r.gm.Zbj (mW K0 q ar));have bg:=h.ne;have y:Xq (∀b,aa [M] w b->b.cell? ⟨i,0,none⟩=some (pointer (some ⟨v,0,none⟩))/\b.cell? ⟨i,2,none⟩=some (int i64 (f.length+1:Nat))/\b.cell? ⟨i,3,none⟩=some (pointer (some ⟨N,0,none⟩))/\i<b.heap.size):=fun b q=>by
  have B:=q.get h.Zbx (by simpa using bg);refine⟨?_,?_,?_,ah B⟩ <;> (rw[ab B];rfl)
 have b1:=h.cnt.lt.2;have ao:Xq (∀(G:Nat->Nat->Nat->Nat) (k E:Nat) (b:World),Cb G->Nt f x (CG l G) H->go b i v D f N M l.length (uF (f.length+1) G (qZ f x (CG l G) l H x.length) H k E)->k<l.length->E<f.length+1->Calls prog 221 #[pointer (some ⟨N,0,none⟩),int i64 (k*(f.length+1)+H:Nat),int i64 E,int i64 ((qZ f x (CG l G) l H x.length k E:Int)-G k H E)] b fun e' n=>e'=returned (bool (decide (G k H E<qZ f x (CG l G) l H x.length k E)))/\go n i v D f N M l.length (uF (f.length+1) G (qZ f x (CG l G) l H x.length) H k (E+1))/\aa [M] b n):=fun G k E b g1 g2 g3 hk hE=>by
  have cd:=Xa g2 r.dist hk hE;have t2:qZ f x (CG l G) l H x.length k E<=2:=vB;have gt:=g1.two k H E;generalize hFr:qZ f x (CG l G) l H x.length=c at *;have bd:yI (G k H E) ((c k E:Int)-G k H E)=c k E:=by
   unfold yI;split
   ·rw[show((c k E:Int)-(G k H E:Int)).toNat=c k E-G k H E by omega,show G k H E+(c k E-G k H E)=c k E by omega,pL t2]
   ·omega
  refine(FX i v D f N M l.length (uF (f.length+1) G c H k E) (uF (f.length+1) G c H k (E+1)) k H E _ b g3 r.hn r.ht hk hb hE (by rw[Mt];exact gt) (by omega) (fun k' cc j _ _ _=>?_)).mono ?_
  ·rw[Mt,bd];exact Ve c hE k' cc j
  ·rintro e' n ⟨m,ad,hK⟩;rw[Mt]at m;refine⟨?_,ad,hK⟩;rw[m];have e1:(decide (0<(c k E:Int)-(G k H E:Int)) && !(G k H E==2))=decide (G k H E<c k E):=by
    by_cases q:G k H E<c k E
    ·have q1:(0:Int)<(c k E:Int)-(G k H E:Int):=(by omega);have q2:(G k H E==2)=false:=X6.2 (by omega);rw[YX q,YX q1,q2];rfl
    ·have q1:¬(0:Int)<(c k E:Int)-(G k H E:Int):=(by omega);rw[YB q,YB q1];rfl
   rw[e1]
 have a1:Xq (∀(G:Nat->Nat->Nat->Nat) (k E:Nat) (b:World),go b i v D f N M l.length G->k<l.length->E<f.length+1->Calls prog 146 #[pointer (some ⟨i,0,none⟩),int i64 k,agg #[int i64 H,int i64 E]] b fun e' n=>e'=returned (int i64 (G k H E))/\aa [] b n):=fun G k E b g1 hk hE=>sM i v D f N M l.length G k H E b g1 r.hn r.ht hk hb hE;have P:Xq _:=r;have ba:Xq _:=aT.row;have a4:Xq _:=ap;have a0:Xq _:=h;have bj:l.length<=1000000:=XF (ZC _ (ZD _)) r.hn;have b7:=r.ht;obtain⟨S,HS⟩:=aP (f.length+1);have b0:H<S:=by rw[<-HS.o];exact hb
 rw[HS.o]at y;clear r K0 h ap aT;go_enter func195,ntmps195;go_wp2
 go_loopg [4] (msF (f.length+1) l.length H true s) (fun gk rv wr=>∃(L:Bool) (G:Nat->Nat->Nat->Nat),rv=bool L/\gk=msF (f.length+1) l.length H L G/\Xq (go wr i v D f N M l.length G)/\Xq (Cb G)/\Xq (Nt f x (CG l G) H)/\Xq (L=false->rg f x (CG l G) H)/\Xq (aa [M] w wr))
 ·exact⟨true,s,rfl,rfl,a0,a4,ba,(fun q=>by cases q),aa.refl _ _⟩
 obtain⟨L,G,rfl,aS,HC,R,HR,HP,HK⟩:=hrel;cases L
 ·go_wp2;go_end0;exact⟨rfl,G,HC.o,R.o,by first | exact HP.o rfl | exact HP.o trivial,HK.o⟩
 ·have ac:Xq _:=bc.o G _ HC.o R.o HK.o;have C:Xq (∀k e,e<H->qZ f x (CG l G) l H x.length k e=G k H e):=fun k e m=>by rw[Rt (R.o.cg l) m,R.o.tri k H e m]
  have an:Xq _:=ao.o G;have V:Xq (∀k e,qZ f x (CG l G) l H x.length k e<=2):=fun k e=>vB;have W:Xq (∀k e,e<f.length+1->k<l.length->G k H e<=qZ f x (CG l G) l H x.length k e):=fun k e m hk=>Xa HR.o P.o.dist hk m;have ai:Xq (∀k E,Cb (uF (f.length+1) G (qZ f x (CG l G) l H x.length) H k E)):=fun k E=>zbX R.o (R.o.cg l);have al:Xq (Nt f x (CG l (uF (f.length+1) G (qZ f x (CG l G) l H x.length) H l.length H)) H):=Vg HR.o hb P.o.cov;have ag:Xq ((∀k e,e<f.length+1->k<l.length->qZ f x (CG l G) l H x.length k e=G k H e)->rg f x (CG l G) H):=fun q=>Vf HR.o P.o.cov q;obtain⟨c,am⟩:=aP (qZ f x (CG l G) l H x.length);rw[am.o]at ac C an V W ai al ag;go_upto_region 4 with (go_at_call 220;refine Xx ac.o ?_;rintro e1 w1 ⟨g,a,rfl,az,lg,la,k1⟩)
  have av:=HC.o.cnt.lt.2;have bk:g≠M/\a≠M:=by omega
  have a3:Xq (zC w w1 i v D f N M g a l.length G c H 0 H false):=⟨by rw[Vh c (fun e m=>C.o 0 e m)];exact HC.o.Zbj k1,(fun q=>by cases q),fun _ k' e m q=>by
   rcases q with q | q
   ·omega
   ·rw[q.1];exact C.o 0 e q.2,HK.o.trans (k1.mono (by simp)),az⟩
  clear az lg la k1 av ac am;go_wp2
  go_loopg [4,6] l.length (fun be bm kv bp=>∃(k:Nat) (L:Bool),k<=l.length/\be=l.length-k/\bm=bool L/\kv=int i64 k/\Xq (zC w bp i v D f N M g a l.length G c H k H L))
  ·exact⟨0,false,by omega,rfl,rfl,rfl,a3⟩
  obtain⟨k,L,hk,bv,rfl,rfl,O⟩:=hrel;have T:Xq _:=a2.o _ O.o.kp;obtain⟨c0,-,-,br⟩:=y.o _ O.o.kp;rcases kn k l.length with ⟨z,b3⟩ | ⟨z,b4⟩
  ·(go_upto_region 7 with (go_at_call 194;refine Xx T.o ?_;rintro e2 w2 ⟨rfl,p⟩;rw[p];clear p));go_wp2
   go_loopg [4,7] (S-H) (fun g3 bo ev bq=>∃(E:Nat) (A:Bool),H<=E/\E<=S/\g3=S-E/\bo=bool A/\ev=int i64 E/\Xq (zC w bq i v D f N M g a l.length G c H k E A))
   ·exact⟨H,L,by omega,by omega,rfl,rfl,rfl,O⟩
   obtain⟨E,A,bT,bw,b2,rfl,rfl,Q⟩:=hrel;obtain⟨-,c2,c3,bs⟩:=y.o _ Q.o.kp;rcases kn E S with ⟨aq,bx⟩ | ⟨aq,bz⟩
   ·have F:E<f.length+1:=(by rw[HS.o];exact aq);have HA:Xq _:=(CH g a l.length (f.length+1) c k E _ Q.o.fr bj (by omega) z F);have U:Xq _:=a1.o _ k E _ Q.o.ch z F;rw[Mt]at U;have hu:=W.o k E F z;have b8:=V.o k E;have d:Xq (∀b,aa [] wr b->Calls prog 221 #[pointer (some ⟨N,0,none⟩),int i64 (k*(f.length+1)+H:Nat),int i64 E,int i64 ((c k E:Int)-G k H E)] b fun e' n=>e'=returned (bool (decide (G k H E<c k E)))/\zC w n i v D f N M g a l.length G c H k (E+1) (A||decide (G k H E<c k E))):=fun b q=>by
     refine(an.o k E b R.o HR.o (Q.o.ch.Zbj q) z F).mono ?_;rintro e' n ⟨m,ad,bf⟩;exact⟨m,Q.o.next q bf ad bk z F hu⟩
    generalize c k E=v1 at *;generalize G k H E=v2 at *;rw[HS.o]at d;obtain⟨q,hq⟩:∃q,k*S=q:=⟨_,rfl⟩
    have b5:(k:Int)*(S:Int)=(q:Int):=(by rw[<-hq];simp);have b6:q<=1000000:=(by rw[<-hq,<-HS.o];exact XF (ZM _ (Ys z)) P.o.hn);rw[hq]at d;simp only[Int.natCast_add]at d;have cb:IntKind.i64.wrap (q:Int)=(q:Int):=by rw[YS];omega
    have p:IntKind.i64.wrap ((q:Int)+(H:Int))=(q:Int)+(H:Int):=(by rw[YS];omega);have af:Xq _:=Q.o.kp;clear hq Q;cases hl:decide (v2<v1)
    ·rw[hl,Y8]at d;(go_upto_region 11 with (first | (go_at_call 196;refine Xx HA.o ?_;rintro e3 w3 ⟨rfl,K⟩;rw[K];clear K) | (go_at_call 146;refine Xx U.o ?_;rintro e4 w4 ⟨rfl,k4⟩)));obtain⟨-,d2,d3,ax⟩:=y.o _ (af.o.trans (k4.mono (by simp)));have Y:Xq _:=k4;clear k4;go_region_held3 (fun n=>n.cell? ⟨i,2,none⟩=some (int i64 S)/\n.cell? ⟨i,3,none⟩=some (pointer (some ⟨N,0,none⟩))) (go_keep) ((go_at_call 221;refine Xx (d.o _ (by exact Y.o.drew)) ?_;rintro e5 w5 ⟨rfl,h5⟩;obtain⟨-,y2,y3,y4⟩:=y.o w5 h5.kp));go_wp2;go_roundg (S-(E+1))
     ·exact⟨E+1,A,by omega,by omega,rfl,rfl,by go_num,h5⟩
     omega
    ·rw[hl,Za2]at d;(go_upto_region 11 with (first | (go_at_call 196;refine Xx HA.o ?_;rintro e3 w3 ⟨rfl,K⟩;rw[K];clear K) | (go_at_call 146;refine Xx U.o ?_;rintro e4 w4 ⟨rfl,k4⟩)));obtain⟨-,d2,d3,ax⟩:=y.o _ (af.o.trans (k4.mono (by simp)));have Y:Xq _:=k4;clear k4;go_region_held3 (fun n=>n.cell? ⟨i,2,none⟩=some (int i64 S)/\n.cell? ⟨i,3,none⟩=some (pointer (some ⟨N,0,none⟩))) (go_keep) ((go_at_call 221;refine Xx (d.o _ (by exact Y.o.drew)) ?_;rintro e5 w5 ⟨rfl,h5⟩;obtain⟨-,y2,y3,y4⟩:=y.o w5 h5.kp));go_wp2;go_roundg (S-(E+1))
     ·exact⟨E+1,true,by omega,by omega,rfl,rfl,by go_num,h5⟩
     omega
   ·have a6:Xq (zC w wr i v D f N M g a l.length G c H (k+1) H A):=by
     have:=Q.o;rw[show E=f.length+1 by have:=HS.o;omega]at this;exact this.row (fun e m=>C.o (k+1) e m)
    go_wp2;go_roundg (l.length-(k+1))
    ·exact⟨k+1,A,by omega,rfl,rfl,by go_num,a6⟩
    omega
  ·obtain rfl:k=l.length:=(by omega);cases L
   ·have X:Xq (go wr i v D f N M l.length G):=by
     have:=O.o.ch;rw[zbW c (fun k' e m J=>O.o.no rfl k' e m (XQ J)) (fun e m=>C.o _ e m)]at this;exact this
    have a7:Xq (rg f x (CG l G) H):=ag.o (fun k' e m J=>O.o.no rfl k' e m (XQ J));have Z:Xq _:=O.o.kp;go_wp2_with (go_at_call 194;refine Xx T.o ?_;rintro e2 w2 ⟨rfl,p⟩;rw[p];clear p);go_roundg 0
    case measure=>rw[aS];unfold msF;rw[XA rfl];omega
    case rel=>exact⟨false,G,rfl,rfl,X,R,HR,fun _=>a7.o,Z⟩
   ·have X:Xq (go wr i v D f N M l.length (uF (f.length+1) G c H l.length H)):=O.o.ch;have a5:Xq (msG (f.length+1) l.length H (uF (f.length+1) G c H l.length H)<msG (f.length+1) l.length H G):=by
     obtain⟨k',e,J,m,hl⟩:=O.o.yes rfl;exact VP c V.o W.o J m hl
    have Z:Xq _:=O.o.kp;go_wp2_with (go_at_call 194;refine Xx T.o ?_;rintro e2 w2 ⟨rfl,p⟩;rw[p];clear p);go_roundg (msF (f.length+1) l.length H true (uF (f.length+1) G c H l.length H))
    case measure=>rw[aS];unfold msF;rw[XA rfl,XA rfl];have:=a5.o;omega
    case rel=>exact⟨true,_,rfl,rfl,X,ai.o _ _,al,(fun q=>by cases q),Z⟩
theorem EO(r:Fz o v D f l x I t u) :
  Calls prog 144 #[pointer (some ⟨v,0,none⟩),slice D.ao f.length D.cap] o fun e s=>∃c d g G,e=returned (pointer (some ⟨c,0,none⟩))/\go s c v D f d g l.length G/\Cb G/\yT f x (CG l G)/\aa [] o s:=by
 have z:Xq _:=xm v l x I t u o r.gm;have hn:=r.hn;have ht:=r.ht;have a:Xq _:=(tj (l.length*(f.length+1)) (f.length+1) o r.hn (by omega));have O:Xq _:=r;clear r;obtain⟨S,C⟩:=aP (f.length+1);rw[C.o]at hn a;obtain⟨q,J⟩:∃q,l.length*S=q:=⟨_,rfl⟩
 have ag:(l.length:Int)*(S:Int)=(q:Int):=by rw[<-J];simp
 rw[J]at hn a;have P:(f.length:Int)+1=(S:Int):=by rw[<-C.o];simp
 have HQ:Xq _:=J;clear J;go_enter func144,ntmps144;go_upto_region 3 with (first | (go_at_call 194;refine Xx z.o ?_;rintro e1 w1 ⟨rfl,F⟩;rw[F];clear F) | (go_at_call 193;refine Xx a.o ?_;rintro e2 w2 ⟨d,g,rfl,E,lg,la,k2⟩))
 obtain⟨W3,k⟩:∃W,Xq (w2.alloc (.cells #[pointer (some ⟨v,0,none⟩),slice D.ao f.length D.cap,int i64 S,pointer (some ⟨d,0,none⟩)] 295)=W):=⟨_,rfl⟩
 have K:=dC k.o;have p:=dx k.o;obtain⟨c,y⟩:=aP (w2.heap.size);rw[y.o]at K;have L:Xq (go W3 c v D f d g l.length (fun _ _ _=>0)):=⟨by rw[C.o];exact K,by rw[C.o,HQ.o];exact E.Zbj p⟩;have N:Xq (aa [] o W3):=k2.trans p;have A:Xq _:=la;have B:Xq (rg f x (CG l (fun _ _ _=>0)) (f.length+1)):=by
  have e:CG l (fun _ _ _=>0)=fun _ _ _=>0:=by funext c i j;unfold CG;split <;> rfl
  show rg f x (CG l (fun _ _ _=>0)) (f.length+1);rw[e];exact rg.first
 have X:Xq (∀(G:Nat->Nat->Nat->Nat) (b:Nat) (H:World),go H c v D f d g l.length G->Cb G->rg f x (CG l G) (b+1)->b<f.length+1->aa [] o H->Calls prog 195 #[pointer (some ⟨c,0,none⟩),int i64 b] H fun e s=>e=returned (tuple #[])/\∃w,go s c v D f d g l.length w/\Cb w/\rg f x (CG l w) b/\aa [] o s):=fun G b H g1 g2 g3 hb q=>by
  refine(Rn c v D f l x I t u d g G b o H O.o q A.o g1 g2 g3 hb).mono ?_;rintro e s ⟨he,w,Q,R,T,U⟩;exact⟨he,w,Q,R,T,mW q U A.o⟩
 rw[k.o,y.o];rw[C.o]at B X;clear E lg la k2 p K z a;go_wp2
 go_loopg [7] S (fun gk bv wr=>∃(n:Nat) (G:Nat->Nat->Nat->Nat),n<=S/\gk=n/\bv=int i64 ((n:Int)-1)/\Xq (go wr c v D f d g l.length G)/\Xq (Cb G)/\Xq (rg f x (CG l G) n)/\Xq (aa [] o wr))
 ·exact⟨S,_,Xy _,rfl,by rw[<-P];simp,L,⟨fun _ _ _=>XX _,fun _ _ _ _=>rfl⟩,B,N⟩
 obtain⟨n,G,af,ac,rfl,V,Y,HP,Z⟩:=hrel;cases n with
 | zero =>
  go_wp2;go_ret;exact⟨c,d,g,G,rfl,V.o,Y.o,HP.o.done,Z.o⟩
 | succ m =>
  have hm:((m+1:Nat):Int)-1=(m:Int):=by omega
  rw[hm];have ad:(m:Int) ≥ 0:=by omega
  have M:Xq _:=(X.o G m _ V.o Y.o HP.o (by omega) Z.o);go_wp2_with (go_at_call 195;refine Xx M.o ?_;rintro e4 w4 ⟨rfl,G4,Q,R,T,U⟩);go_roundg m
  ·exact⟨m,G4,by omega,rfl,by go_num,Q,R,T,U⟩
  omega
end Go.Proofs.YtpdholcaobgofaaGreat
