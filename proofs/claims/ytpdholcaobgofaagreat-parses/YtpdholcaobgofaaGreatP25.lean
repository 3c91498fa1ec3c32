import Derived.Test.YtpdholcaobgofaaGreatP21
namespace Go.Proofs.YtpdholcaobgofaaGreat
open Go.RowKit Tryz
open Value IntKind Ending
set_option linter.all false
set_option maxHeartbeats 0
variable{x:Fs}{v:Nat}{y:Mo}{S:List Tk×List Bool}{k:List Tk}(f:List Tk)(n:Tk)(w:Fs)(l:Vx)(H:Int)(b:Nat)
section
variable {T:List Tk} {t:Tk} {d:Db}
structure sR(T:List Tk)(d:Db):Prop where
 e:wn T (ah T) d
 o:xD T d
 u:∀j,j<T.length->bM T (ah T) j=0
 b:lr T=(d.Y3.length:Int)
 r:lk T d
 f:uW d
 c:zk d
theorem GF(T:List Tk)(t:Tk):lr (T++[t])=bn (lr T) t.s:=by grind [lr]
theorem sR.step(I:sR T d)(n:T.length<=100000)(K:(t.s.toList == [])=false)(p:Pl)(_:p=QU t):bM (T++[t]) (ah (T++[t])) T.length=(bD d t.s p).1/\((bD d t.s p).1=0->sR (T++[t]) (bD d t.s p).2):=by (have⟨z,v⟩:=Fi T n I.u;have D:=Gt T t n I.u;have i:bM (T++[t]) (ah (T++[t])) T.length=(bD d t.s p).1/\((bD d t.s p).1=0->wn (T++[t]) (ah (T++[t])) (bD d t.s p).2/\xD (T++[t]) (bD d t.s p).2):=by rcases I.o with ⟨q,k,g,a,l⟩ | ⟨q,k,g,a,l,x,w⟩ | ⟨i,E,B,k,m,F,C,A,a,g,y,l,G⟩;{have e:bD d t.s p=aH d t.s:=(by grind [bD]);rw[D,VO q.symm,e];exact LG z v I.e q k g a l K};{have e:bD d t.s p=aV d t.s:=(by grind [bD]);have⟨N,P⟩:=Us (t:=t) z v I.e q g a l x w;grind};{rw[D,sN,wX k m F C,sN];simp only;rw[A];exact Qm z v I.e k m F C A a g y l G p});refine⟨i.1,λh=>?_⟩;have⟨L,M⟩:=i.2 h;refine⟨L,M,λj H=>?_,?_,lk.step I.o I.e I.u I.r n p h,uW.step I.o I.e I.r I.f p h,I.c.take t.s p⟩;{rw[VQ,Wn,WB]at H;by_cases e:j<T.length;{exact vF T [t] n I.u j e};grind};{rw[GF,I.b,Jl I.o t.s p h]}
theorem M5(T:List Tk)(h:0<T.length):∃u,T.getLast?=some u/\u.s=tS T (T.length-1):=by rw[Xf,VI (by omega)];grind [tS]
theorem sR.open(I:sR T d):mS d=!eu T:=by (have p:=fz T;have x:=I.b;have a:ig T<T.length->eu T=false:=λh=>by have⟨u,t,v⟩:=M5 T (by omega);have:=p.n (T.length-1) (by unfold ig at h;omega) (by omega);grind [eu]);unfold mS;rcases I.o with ⟨y,i,f,c,q⟩ | ⟨y,i,f,c,q,D,C⟩ | ⟨j,m,B,i,A,K,g,G,c,f,E,q,F⟩;{rw[i];have r:(bne (0:Int) 0)=false:=rfl;rw[r,XV];by_cases w:T.length=0;{(rw[Wa w]at x ⊢;have:d.Y3.length=0:=by grind [lr]);rw[this];rfl};{(have⟨u,t,v⟩:=M5 T (by omega);have L:0<(ah T).length:=by grind [ah,KQ,mo]);(have M:(ay (ah T) ((ah T).length-1)).z=T.length:=by grind [KQ,mo]);have H:=(p.s ((ah T).length-1) (by omega)).1.e;grind [eu]}};{grind};{(rw[a (by omega)];have:(d.Y1 != 0)=true:=by generalize d.Y1=k at g ⊢;generalize j.toList=l at g;(rcases g with ⟨rfl,rfl⟩ | ⟨rfl,rfl⟩ | ⟨rfl,rfl⟩ | ⟨rfl,rfl⟩ | ⟨rfl,rfl⟩ | ⟨rfl,rfl⟩ | ⟨rfl,rfl⟩) <;> rfl);grind}
theorem Sh{d:Db}(h:d=⟨[],[],[],[],[],[],[],[],0,⟨#[]⟩,[],false,[]⟩):sR [] d:=by subst h;refine⟨⟨rfl,λx=>rfl,⟨rfl,rfl,by simp⟩,⟨rfl,rfl,by simp⟩⟩,xD.none rfl rfl rfl rfl rfl,by simp,rfl,⟨qy.nil,by simp,rfl⟩,⟨by simp,by simp,λh=>by cases h⟩,zk.empty rfl⟩
end
section
variable (rec:Nat->List Bool->List Tk->List Tk×List Bool) (fs:Fs)
theorem Nr(t:Tk)(r:List Tk)(b:List Bool)(a:List Tk)(h:((t.Y9==0)&&(t.s.toList == []))=true):dJ rec fs (t :: r) b a=((if eu a=true then a else a++[ve t 7]),b):=by grind [dJ.eq_def]
theorem Bq(t:Tk)(r:List Tk)(b:List Bool)(a:List Tk)(h:((t.Y9==0)&&(t.s.toList == []))=false)(c:(t.s.toList == [36,91])=false):dJ rec fs (t :: r) b a=dJ rec fs r b (a++[t]):=by grind [dJ.eq_def]
theorem TM(t:Tk)(r:List Tk)(b:List Bool)(a:List Tk)(h:((t.Y9==0)&&(t.s.toList == []))=false)(c:(t.s.toList == [36,91])=true)(d:eu a=false):dJ rec fs (t :: r) b a=(a++[ve t 4],b):=by grind [dJ.eq_def]
theorem Ns(t a:Tk)(c:List Bool)(b:List Tk)(h:((t.Y9==0)&&(t.s.toList == []))=false)(d:(t.s.toList == [36,91])=true)(e:eu b=true):dJ rec fs [t,a] c b=(b++[ve a (eG fs a.s a.Y9)],c):=by grind [dJ.eq_def]
theorem Nt(t a b:Tk)(r:List Tk)(d:List Bool)(c:List Tk)(h:((t.Y9==0)&&(t.s.toList == []))=false)(e:(t.s.toList == [36,91])=true)(f:eu c=true):dJ rec fs (t :: a :: b :: r) d c =
  if(eG fs a.s a.Y9==0)=false then(c++[ve a (eG fs a.s a.Y9)],d)
  else if(fg b.s b.Y9==0)=false then(c++[ve b (fg b.s b.Y9)],d)
  else if d.getD (cY fs a.s).toNat true=true then dJ rec fs r d c
  else if fQ (rec (cY fs a.s).toNat d c).1=true then rec (cY fs a.s).toNat d c
  else dJ rec fs r (rec (cY fs a.s).toNat d c).2 (rec (cY fs a.s).toNat d c).1:=by grind [dJ.eq_def]
theorem Fw(f:∀j d c,∃V,(rec j d c).1=c++V)(n:Nat):∀L,L.length<=n->∀d c,∃V,(dJ rec fs L d c).1=c++V:=by
 induction n with
 | zero =>
  (intro L e d c;have:L=[]:=by grind);subst this;simp[dJ.eq_def]
 | succ n k =>
  intro L e d c;cases L with
  | nil=>simp_all
  | cons t r =>
   simp[List.length_cons]at e;cases h:((t.Y9==0)&&(t.s.toList == []))
   ·cases g:(t.s.toList == [36,91]);{rw[Bq rec fs t r d c h g];have⟨V,l⟩:=k r (by omega) d (c++[t]);grind}
    ·cases i:eu c;{rw[TM rec fs t r d c h g i];simp}
     ·match r,e with
      | [],_ =>
       refine⟨[],?_⟩;(grind [dJ.eq_def])
      | [a],_=>rw[Ns rec fs t a d c h g i];simp
      | a :: b :: r',e =>
       simp[List.length_cons]at e;rw[Nt rec fs t a b r' d c h g i];split;{simp};{split;{simp};{split;{exact k r' (by omega) d c};{have⟨V,l⟩:=f (cY fs a.s).toNat d c;split;{grind};{have⟨o,m⟩:=k r' (by omega) (rec (cY fs a.s).toNat d c).2 (rec (cY fs a.s).toNat d c).1;grind}}}}
   {rw[Nr rec fs t r d c h];simp only;split;{simp};simp}
end
theorem yl(n:Nat):∀j b a,∃V,(fH w n j b a).1=a++V:=by induction n with|zero=>simp[fH]|succ n c=>intro j b a;rw[fH];exact Fw (fH w n) w c _ _ (VC _) ..
def NP(L:List Tk):Prop:=∀t∈L,t.Y9=0
structure SnB(fs:Fs)(bg sn:List Bool):Prop where
 b:bg.length=4
 s:sn.length=fs.length
 e:∀j,j<fs.length->bg.getD j true=sn.getD j true
theorem SnB.set{a c:List Bool}(h:SnB x a c)(d:x.length<=4)(k:Nat)(g:k<x.length):SnB x (a.set k true) (c.set k true):=by refine⟨by rw[Wu];exact h.b,by rw[Wu];exact h.s,λj f=>?_⟩;have:=h.b;have:=h.s;rw[VM,VM,WN,WN];by_cases e:k=j;{grind};{rw[VS e,VS e];have:=h.e j f;grind}
def uN(fs:Fs)(N:Nat)(res:Mo)(R:List Tk×List Bool):Prop :=
 (res.1=ew/\sR R.1 res.2.2/\NP R.1/\SnB fs res.2.1 R.2/\R.1.length+1025*bt R.2<=N) ∨
 (∃(W:List Tk) (u:Tk) (d:Db),R.1=W++[u]/\(u.Y9==0)=false/\sR W d/\NP W/\res.1=(u.Y9,QU u)) ∨
 ∃(W:List Tk) (t:Tk) (V:List Tk) (d:Db) (r:Int),R.1=W++t :: V/\t.Y9=0/\sR W d/\W.length+1<=N/\bM (W++[t]) (ah (W++[t])) W.length=r/\(r==0)=false/\res.1=(r,QU t)
theorem uN.good(a:y.1=ew)(b:sR S.1 y.2.2)(c:NP S.1)(d:SnB x y.2.1 S.2)(e:S.1.length+1025*bt S.2<=v):uN x v y S:=VY ⟨a,b,c,d,e⟩
theorem uN.ends(d:Db)(a:S.1=f++[n])(b:(n.Y9==0)=false)(c:sR f d)(e:NP f)(g:y.1=(n.Y9,QU n)):uN x v y S:=VW (VY ⟨f,n,d,a,b,c,e,g⟩)
theorem uN.Y9(V:List Tk)(d:Db)(r:Int)(a:S.1=f++n :: V)(b:n.Y9=0)(c:sR f d)(e:f.length+1<=v)(g:bM (f++[n]) (ah (f++[n])) f.length=r)(i:(r==0)=false)(j:y.1=(r,QU n)):uN x v y S:=VW (VW ⟨f,n,V,d,r,a,b,c,e,g,i,j⟩)
theorem C3(h:NP k):fQ k=false:=by unfold fQ;cases e:k.getLast? with|none=>rfl|some t=>have:=h t (by grind);grind
theorem ye(a:b<=l.size):(aZ (aM l b).1=true->((aM l b).1.text.toList == [])=false/\(aM l b).1.Y9=0)/\(aZ (aM l b).1=false->(aM l b).1.text=⟨#[]⟩/\((aM l b).1.Y5=true->(aM l b).1.Y9=0)):=by (have c:∀f b,b<=l.size->aZ (dn l f b).1=false->(dn l f b).1.text=⟨#[]⟩/\((dn l f b).1.Y5=true->(dn l f b).1.Y9=0):=by intro f;induction f with|zero=>intro b _ _;exact⟨rfl,λh=>by cases h⟩|succ f e=>grind [i8,dn,xq]);unfold aM;(suffices hs:∀f b,b<=l.size->(aZ (fB l f b).1=true->((fB l f b).1.text.toList == [])=false/\(fB l f b).1.Y9=0)/\(aZ (fB l f b).1=false->(fB l f b).1.text=⟨#[]⟩/\((fB l f b).1.Y5=true->(fB l f b).1.Y9=0)) from hs _ _ a);intro f;induction f with|zero=>grind [fB,aZ]|succ f e=>intro b a;have d:=i8 l b a;have g:=kK l (cr l b).2 d.2.1;rw[fB];split;{split;{exact e _ g.2};{next i => refine⟨by grind,λh=>?_⟩;exact c _ _ d.2.1 h}};{exact xq l b a}
theorem O8(h:(H==0)=false):eG w l H=H:=by grind [eG]
theorem O9(h:H=0)(a:l=⟨#[]⟩):eG w l H=7:=by grind [eG,rO]
theorem KJ(h:H=0)(a:(l.toList == [])=false):eG w l H=if eO l=true then 5 else if cY w l<0 then 6 else 0:=by grind [eG,jG]
theorem J7(h:(H==0)=false):fg l H=H:=by grind [fg]
theorem J8(h:H=0)(a:l=⟨#[]⟩):fg l H=7:=by grind [fg,rO]
theorem Gw(h:H=0)(a:(l.toList == [])=false):fg l H=if(l.toList == [36,93])=false then 5 else 0:=by grind [fg]
theorem TO(ar:w.length<=4)(az:∀j,j<w.length->(ak w j).size<=1024)(f:Nat):∀n x k b o d a N,x<w.length->k<=(ak w x).size->SnB w b o->bt o<=n ->
  ((ak w x).size-k+1)+1025*bt o<=f->sR a d->NP a->a.length+((ak w x).size-k+1)+1025*bt o<=N->N<=100000 ->
  uN w N (cQ w f x k b d) (dJ (fH w n) w (oo (aO w x) (ak w x) k) o a):=by induction f with|zero=>simp|succ f ih=>intro n x k b o d a N hx hk hS hn hf D L hN M;have hl:=jh (ak w x) k hk;have⟨t1,t2⟩:=ye (ak w x) k hk;have C:=D.open;cases q:aZ (aM (ak w x) k).1;{have⟨x1,x2⟩:=t2 q;rw[nH _ _ k q];cases E:(aM (ak w x) k).1.Y5;{have hr:=me q E;have H:((pY (aO w x) (ak w x) (aM (ak w x) k).1).Y9==0&&((pY (aO w x) (ak w x) (aM (ak w x) k).1).s.toList == []))=false:=(by grind [pY]);have e2:((pY (aO w x) (ak w x) (aM (ak w x) k).1).s.toList == [36,91])=false:=(by simp[pY];simp_all);rw[Bq _ _ _ _ _ _ H e2,AI w f x k b d q (by grind)];refine uN.ends a _ d (by rw[dJ.eq_def]) hr D L ?_;simp[lM,E,pY,QU,mN]};{have H:((pY (aO w x) (ak w x) (aM (ak w x) k).1).Y9==0&&((pY (aO w x) (ak w x) (aM (ak w x) k).1).s.toList == []))=true:=(by grind [pY,rO]);rw[Nr _ _ _ _ _ _ H];cases I:eu a;{rw[I]at C;rw[AI w f x k b d q (by grind)];refine uN.ends a (ve (pY (aO w x) (ak w x) (aM (ak w x) k).1) 7) d (by simp) rfl D L ?_;simp[lM,E,pY,QU,mN,ve]};{rw[I]at C;rw[EW w f x k b d q E C];exact uN.good rfl (by simp[if_true];exact D) (by simp[if_true];exact L) hS (by grind)}}};{have av:=hl.2.2 q;have⟨x1,x2⟩:=t1 q;rw[nI _ _ k hk q];have H:((pY (aO w x) (ak w x) (aM (ak w x) k).1).Y9==0&&((pY (aO w x) (ak w x) (aM (ak w x) k).1).s.toList == []))=false:=(by grind [pY]);cases hi:((aM (ak w x) k).1.text.toList == [36,91]);{(rw[Bq _ _ _ _ _ _ H (by exact hi)];have es:iG w f x k b d=((if((bD d (aM (ak w x) k).1.text (mN (aO w x) (ak w x) (aM (ak w x) k).1.pos)).1==0)=true then ew else((bD d (aM (ak w x) k).1.text (mN (aO w x) (ak w x) (aM (ak w x) k).1.pos)).1,mN (aO w x) (ak w x) (aM (ak w x) k).1.pos),b,(bD d (aM (ak w x) k).1.text (mN (aO w x) (ak w x) (aM (ak w x) k).1.pos)).2),(aM (ak w x) k).2):=by grind [iG,lK]);obtain⟨g1,g2⟩:=D.step (t:=pY (aO w x) (ak w x) (aM (ak w x) k).1) (by omega) x1 (mN (aO w x) (ak w x) (aM (ak w x) k).1.pos) rfl;have e3:(pY (aO w x) (ak w x) (aM (ak w x) k).1).s=(aM (ak w x) k).1.text:=rfl;rw[e3]at g1 g2;cases h2:((bD d (aM (ak w x) k).1.text (mN (aO w x) (ak w x) (aM (ak w x) k).1.pos)).1==0);{rw[rH w f x k b d q (by grind),es,h2];obtain⟨V,hV⟩:=Fw (fH w n) w (yl w n) _ _ (VC _) o (a++[pY (aO w x) (ak w x) (aM (ak w x) k).1]);exact uN.Y9 a (pY (aO w x) (ak w x) (aM (ak w x) k).1) V d _ (by rw[hV];simp) x2 D (by omega) g1 h2 (by rfl)};{rw[Dm w f x k b d q (by rw[es,h2];rfl),es];refine ih n x _ b o _ _ N hx hl.2.1 hS hn (by omega) (g2 (by grind)) ?_ (by grind) M;intro u hu;rcases V7.1 hu with hu | hu;{exact L u hu};{rwa [VR.1 hu]}}};{(have es:iG w f x k b d=pX (dB w f) w x (aM (ak w x) k).2 (mN (aO w x) (ak w x) (aM (ak w x) k).1.pos) b d:=by grind [iG,lK]);(have c:∀(W:List Tk) (u:Tk) (fl:sQ),vN w x (aM (ak w x) k).2 (mN (aO w x) (ak w x) (aM (ak w x) k).1.pos) d=.inl fl->fl=(u.Y9,QU u)->(u.Y9==0)=false->uN w N (cQ w (f+1) x k b d) (a++[u],o):=λW u fl af e h0=>by (have e2:pX (dB w f) w x (aM (ak w x) k).2 (mN (aO w x) (ak w x) (aM (ak w x) k).1.pos) b d=((fl,b,d),(aM (ak w x) k).2):=by unfold pX;rw[af]);rw[rH w f x k b d q (by grind),es,e2];exact uN.ends a u d rfl h0 D L e);cases I:eu a;{rw[I]at C;rw[TM _ _ _ _ _ _ H (by exact hi) I];exact c a (ve (pY (aO w x) (ak w x) (aM (ak w x) k).1) 4) _ (by unfold vN;rw[VO (by grind)];rfl) rfl rfl};{rw[I]at C;have p:¬mS d=true:=(by grind);have⟨z,hz⟩:∃z,z=(aM (ak w x) k).2:=⟨_,rfl⟩;rw[<-hz]at hl av es c ⊢;have ha:=jh (ak w x) z hl.2.1;have⟨a1,a2⟩:=ye (ak w x) z hl.2.1;cases v:aZ (aM (ak w x) z).1;{(have⟨y1,y2⟩:=a2 v;rw[nH _ _ z v,Ns _ _ _ _ _ _ H (by exact hi) I];have R:eG w (pY (aO w x) (ak w x) (aM (ak w x) z).1).s (pY (aO w x) (ak w x) (aM (ak w x) z).1).Y9=if(aM (ak w x) z).1.Y5=true then 7 else(aM (ak w x) z).1.Y9:=by cases A:(aM (ak w x) z).1.Y5;{exact O8 w _ _ (me v A)};{exact O9 w _ _ (y2 A) y1});refine c a _ _ (by unfold vN;rw[VS p,VO v]) (by simp only[lM,ve,QU];rw[R];rfl) ?_;grind [ve,aM,ak,me]};{have al:=ha.2.2 v;have⟨y1,y2⟩:=a1 v;have⟨g,G⟩:∃g,g=(aM (ak w x) z).2:=⟨_,rfl⟩;(rw[nI _ _ z hl.2.1 v,<-G];rw[<-G]at ha al;have P:=jh (ak w x) g ha.2.1;have⟨b1,b2⟩:=ye (ak w x) g ha.2.1;have⟨tl,aS⟩:∃tl,oo (aO w x) (ak w x) g=pY (aO w x) (ak w x) (aM (ak w x) g).1 :: tl:=by grind [aZ,aM,ak,nH,nI]);(rw[aS,Nt _ _ _ _ _ _ _ _ H (by exact hi) I];have R:eG w (pY (aO w x) (ak w x) (aM (ak w x) z).1).s (pY (aO w x) (ak w x) (aM (ak w x) z).1).Y9=if eO (aM (ak w x) z).1.text=true then 5 else if cY w (aM (ak w x) z).1.text<0 then 6 else 0:=by exact KJ w _ _ y2 y1);rw[R];have aq:(pY (aO w x) (ak w x) (aM (ak w x) z).1).s=(aM (ak w x) z).1.text:=rfl;rw[aq];cases ap:eO (aM (ak w x) z).1.text;{by_cases B:cY w (aM (ak w x) z).1.text<0;{simp only[Bool.false_eq_true,if_false,if_pos B];rw[VO (by rfl)];exact c a _ _ (by unfold vN;rw[VS p,VS (by grind),VS (by grind),VO B];rfl) rfl rfl};{(simp only[Bool.false_eq_true,if_false,if_neg B];rw[mt];have ao:fg (pY (aO w x) (ak w x) (aM (ak w x) g).1).s (pY (aO w x) (ak w x) (aM (ak w x) g).1).Y9=if aZ (aM (ak w x) g).1=false then(if(aM (ak w x) g).1.Y5=true then 7 else(aM (ak w x) g).1.Y9) else if((aM (ak w x) g).1.text.toList == [36,93])=false then 5 else 0:=by cases y:aZ (aM (ak w x) g).1;{have⟨y3,y4⟩:=b2 y;rw[VO rfl];cases A:(aM (ak w x) g).1.Y5;{exact J7 _ _ (me y A)};{exact J8 _ _ (y4 A) y3}};{have⟨y3,y4⟩:=b1 y;rw[mt];exact Gw _ _ y4 y3});rw[ao];cases y:aZ (aM (ak w x) g).1;{(rw[VO rfl];have ag:((if(aM (ak w x) g).1.Y5=true then 7 else(aM (ak w x) g).1.Y9)==0)=false:=by grind [aM,ak,me]);rw[VO ag];exact c a _ _ (by unfold vN;rw[VS p,VS (by grind),VS (by grind),VS B,<-G,VO y];rfl) rfl ag};{simp only[Bool.true_eq_false,if_false];cases am:((aM (ak w x) g).1.text.toList == [36,93]);{rw[VO rfl,VO (by rfl)];exact c a _ _ (by unfold vN;rw[VS p,VS (by grind),VS (by grind),VS B,<-G,VS (by grind),VO am];rfl) rfl rfl};{(simp only[Bool.true_eq_false,if_false];rw[mt];have a4:=P.2.2 y;have ai:tl=oo (aO w x) (ak w x) (aM (ak w x) g).2:=by grind [nI]);rw[ai];have⟨j,hj⟩:∃j,j=(cY w (aM (ak w x) z).1.text).toNat:=⟨_,rfl⟩;(have F:j<w.length:=by grind [tB,aM,ak]);(rw[<-hj];have i:iG w f x k b d=(dB w f j b d,(aM (ak w x) g).2):=by grind [pX,vN]);have S:=hS.e j F;cases ac:b.getD j true;{(rw[ac]at S;have ax:o[j]?=some false:=by grind);have a5:=nK o j ax;rw[VS (by grind)];have l:dB w f j b d=cQ w f j 0 (b.set j true) d:=(by grind [dB]);have⟨m,hm⟩:∃m,n=m+1:=⟨n-1,by omega⟩;have er:fH w n j o a=dJ (fH w m) w (oo (aO w j) (ak w j) 0) (o.set j true) a:=(by rw[hm,fH,Ed]);have a0:=az j F;have R1:=ih m j 0 (b.set j true) (o.set j true) d a (a.length+1025*bt o) F (V5 _) (hS.set ar j F) (by omega) (by omega) D L (by omega) (by omega);rw[<-er,<-l]at R1;have aT:=yl w n j o a;generalize fH w n j o a=K at *;rcases R1 with ⟨r1,r2,T,r4,r5⟩ | ⟨W,u,d0,r1,r2,T,r4,r5⟩ | ⟨W,t,V,d0,r,r1,r2,T,r4,r5,r6,r7⟩;{(rw[C3 T,mt,Dm w f x k b d q (by rw[i,r1];rfl),i];have a6:bt K.2<=bt o:=by grind);exact ih n x _ _ K.2 _ K.1 N hx P.2.1 r4 (by omega) (by omega) r2 T (by omega) M};{have ad:fQ K.1=true:=(by grind [fQ]);rw[ad,VO rfl,rH w f x k b d q (by grind),i];exact uN.ends W u d0 r1 r2 T r4 r5};{rw[rH w f x k b d q (by grind),i];cases ad:fQ K.1;{rw[mt];have⟨V2,a3⟩:=Fw (fH w n) w (yl w n) _ (oo (aO w x) (ak w x) (aM (ak w x) g).2) (VC _) K.2 K.1;exact uN.Y9 W t (V++V2) d0 r (by grind) r2 T (by omega) r5 r6 r7};{rw[VO rfl];exact uN.Y9 W t V d0 r r1 r2 T (by omega) r5 r6 r7}}};{rw[ac]at S;have l:dB w f j b d=(ew,b,d):=(by grind [dB]);rw[VO S.symm,Dm w f x k b d q (by rw[i,l];rfl),i,l];exact ih n x _ b o d a N hx P.2.1 hS hn (by omega) D L (by omega) M}}}}};{simp only[if_true];rw[VO (by rfl)];exact c a _ _ (by unfold vN;rw[VS p,VS (by grind),VO ap];rfl) rfl rfl}}}}}
def Sc(t:Tk):sQ:=(t.Y9,QU t)
def gQ(fs:Fs)(k:Nat):sQ :=
 if((GL (dD fs k).1 (ah (dD fs k).1)).Y9==0)=false then Sc (GL (dD fs k).1 (ah (dD fs k).1)) else Sc (dD fs k).2
theorem MO{d:Db}(h:sR k d):GL k (ah k)=kR:=zbM h.u
theorem Aw(i:w.length<=4)(n:∀j,j<w.length->(ak w j).size<=1024)(p:b<w.length) :
  (cO w b).1=gQ w b/\(((cO w b).1.1==0)=true->sR (dD w b).1 (cO w b).2.2/\(dD w b).1.length<=10000):=by
 have f:SnB w MB (List.replicate w.length false):=⟨rfl,by simp,λj k=>by
  rw[VM,VM,Xn,VO k]
  match j,(show j<4 by omega) with
  | 0,_=>rfl
  | 1,_=>rfl
  | 2,_=>rfl
  | 3,_=>rfl⟩
 (have l:(List.replicate w.length false)[b]?=some false:=by grind);(have A:=nK _ b l;rw[pN]at A;have C:=n b p;have G:cO w b=cQ w 5000 b 0 (MB.set b true) il:=by unfold cO dB;rw[f.e b p,VM,l];rfl)
 have H:fH w w.length b (List.replicate w.length false) []=dJ (fH w (w.length-1)) w (oo (aO w b) (ak w b) 0) ((List.replicate w.length false).set b true) []:=by
  have⟨m,K⟩:∃m,w.length=m+1:=⟨w.length-1,by omega⟩;(have:w.length-1=m:=by omega);rw[this]
  conv=>lhs;rw[show fH w w.length=fH w (m+1) by rw[K]]
  rw[fH,Ed]
 have B:=TO w i n 5000 (w.length-1) b 0 (MB.set b true) ((List.replicate w.length false).set b true) il [] 5000 p (V5 _) (f.set i b p) (by omega) (by omega) (Sh rfl) (λt L=>by cases L) (by simp[List.length_nil];omega) (by omega);rw[<-G,<-H]at B;have s:(fH w w.length b (List.replicate w.length false) []).1=sY w b:=rfl;generalize fH w w.length b (List.replicate w.length false) []=N at *;unfold gQ dD;rcases B with ⟨d,q,c,D,o⟩ | ⟨W,u,F,d,q,c,D,o⟩ | ⟨W,t,V,F,r,d,q,c,D,o,E,M⟩;{rw[s]at q c o;simp only[C3 c,Bool.false_eq_true,if_false];rw[MO q,VS (by decide)];exact⟨d,by grind⟩};{(rw[s]at d;have g:fQ (sY w b)=true:=by grind [fQ]);rw[g,VO rfl,d,List.dropLast_concat,X0];simp only[Option.getD_some];rw[MO c,VS (by decide)];exact⟨o,by grind⟩}
 ·(rw[s]at d;have⟨a,x⟩:∃a,(if fQ (sY w b)=true then((sY w b).dropLast,(sY w b).getLast?.getD kR) else(sY w b,kR)).1=(W++[t])++a:=by cases g:fQ (sY w b);{simp_all};{rw[VO rfl];cases V with|nil=>grind [fQ]|cons v V=>simp_all});rw[x];have y:=Ai (W++[t]) a (by grind) W.length (by simp) (λj k=>vF W [t] (by omega) c.u j k);rw[o]at y
  have z:=RY (T:=(W++[t])++a) (S:=ah ((W++[t])++a)) (k:=W.length) (by simp) (y ▸ E) (λj k=>by
   have:=(vF W (t :: a) (by omega) c.u) j k;rw[show W++t :: a=(W++[t])++a by simp]at this;exact this)
  (have I:((W++[t])++a).getD W.length kR=t:=by simp);rw[z,y,I];simp only;rw[VO E];exact⟨M,by grind⟩
end Go.Proofs.YtpdholcaobgofaaGreat
