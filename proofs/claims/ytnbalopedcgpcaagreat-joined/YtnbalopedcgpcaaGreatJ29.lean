import Derived.Test.YtnbalopedcgpcaaGreatJ27
import Derived.Test.YtnbalopedcgpcaaGreatJ28
namespace Go.Proofs.YtnbalopedcgpcaaGreat
open Go.RowKit Tryz
open Value IntKind Ending
set_option linter.all false
set_option maxHeartbeats 0
variable{b:Nat}{M I:World}{v o:Vq}{x m:Bk}{T c:Vs}{N:Nat->Hd}{t:Hd}(i:Bk)(L y:Vs)(D a:Vq)(S:Vs)
section
variable {w0 w:World} {B:Nat} {k:Bk} {H:Nat->Hd} {hd:Hd} {l:Vs}
theorem gT.takes(h:gT w0 w B k H)(b:mI w0 w B H hd l)(c i:Nat)(g:Bk)(u:my g i=aw l)(f:∀j,j≠i->my g j=my k j)(t:(xw k H).set c (Q hd.ao l.length hd.cap)=xw g (dD H i hd)):gT w0 (w.setCell (X B c) (Q hd.ao l.length hd.cap)) B g (dD H i hd):=by (have d:∀x,dw (dD H i hd) x->hd.ZF=some x∨dw H x:=λx a=>by have⟨j,o⟩:=a;by_cases e:j=i;{grind [cS]};{rw[bL _ _ _ _ e]at o;exact VO ⟨j,o⟩});refine⟨⟨?_,?_,?_,?_⟩,⟨h.new.1,λx a=>?_⟩,h.ZE.setCell (VO h.new.1) _⟩;{rw[ac h.bag.ZF,WL,t]};{(intro j;have q:aO w (dD H i hd j) (my g j):=by by_cases e:j=i;{subst e;rw[cS,u];exact b.ZP};{rw[bL _ _ _ _ e,f j e];exact h.bag.ZP j});refine q.Zw (λx a=>VB _ _ _ _ ?_);rintro rfl;rcases d _ ⟨j,a⟩ with e | ⟨m,e⟩;{exact(b.far _ e).2.1 rfl};{exact h.bag.off m e}};{intro m n p;by_cases r:m=i;{subst r;rw[cS,bL _ _ _ _ (by omega)];cases a:hd.ZF with|none=>simp|some x=>exact VO (λe=>(b.far x a).2.2 ⟨n,e.symm⟩)};{rw[bL _ _ _ _ r];by_cases s:n=i;{subst s;rw[cS];cases a:(H m).ZF with|none=>simp|some x=>exact VO (λe=>(b.far x e.symm).2.2 ⟨m,a⟩)};{rw[bL _ _ _ _ s];exact h.bag.apart m n p}}};{intro j o;rcases d _ ⟨j,o⟩ with e | ⟨m,e⟩;{exact(b.far _ e).2.1 rfl};{exact h.bag.off m e}};{rcases d x a with e | e;{exact(b.far x e).1};{exact h.new.2 x e}}
theorem Gx(k:Bk)(v:Vs):∀j,j≠7->my { k with vals:=v } j=my k j:=by
 intro j a
 match j,a with
 | 0,_=>rfl
 | 1,_=>rfl
 | 2,_=>rfl
 | 3,_=>rfl
 | 4,_=>rfl
 | 5,_=>rfl
 | 6,_=>rfl
 | 7,a=>omega
 | 8,_=>rfl
 | _+9,_=>rfl
theorem gT.vals(h:gT w0 w B k H)(b:mI w0 w B H hd l):gT w0 (w.setCell (X B 16) (Q hd.ao l.length hd.cap)) B { k with vals:=l } (dD H 7 hd) :=
 h.takes b 16 7 { k with vals:=l } rfl (Gx k l) (by rfl)
theorem gT.goal(h:gT w0 w B k H)(b:mI w0 w B H hd l):gT w0 (w.setCell (X B 17) (Q hd.ao l.length hd.cap)) B { k with goal:=l } (dD H 8 hd) :=
 h.takes b 17 8 { k with goal:=l } rfl (Rv k l) (by rfl)
theorem gT.value(h:gT w0 w B k H)(f:(H 7).ao=some (aD b))(j:Nat)(s:Vq):gT w0 (w.setCell (X b j) (J s)) B { k with vals:=k.vals.set j s } H:=by (have d:(H 7).ZF=some b:=by grind [Hd.ZF]);refine⟨⟨?_,?_,h.bag.apart,h.bag.off⟩,h.new,h.ZE.setCell (VO (h.new.2 b ⟨7,d⟩)) _⟩;{rw[VB _ _ _ _ (λe=>h.bag.off 7 (by grind)),h.bag.ZF];congr 2;simp[xw]};{intro i;by_cases e:i=7;{subst e;have:=(h.bag.ZP 7).putAt f j (J s);have c:(⟨(aw k.vals).e,(aw k.vals).size,(aw k.vals).n,(aw k.vals).xs.set j (J s)⟩:gY)=aw (k.vals.set j s):=(by simp[aw,strs]);rw[show my k 7=aw k.vals from rfl]at this;rw[c]at this;exact this};{rw[Gx k _ i e];refine(h.bag.ZP i).Zw (λx g=>VB _ _ _ _ ?_);rintro rfl;rcases h.bag.apart i 7 e with q | q;{grind};grind}}
theorem gT.made(h:gT w0 w B k H)(a:aJ w M)(n:wC M I hd (aw l)):gT w0 I B k H/\mI w0 I B H hd l:=by refine⟨h.Zr (a.trans n.ZE),n.ZP,λx b=>?_⟩;have c:=n.far x b;have d:=a.size;have e:=h.ZE.size;have f:=h.bag.lt;refine⟨by omega,by omega,λq=>?_⟩;have:=h.bag.inlt q;omega
end
structure FW(f:Fm):Prop where
 vl:f.vars.length<=4200
 vt:f.types.length=f.vars.length
 ts:∀t∈f.types,t.size<=1024
 lr:f.left.length=f.right.length
 ll:f.left.length<=100000000
 el:f.ess.length<=4200
 ex:∀i,(f.ess.getD i []).length<=990/\∀x∈f.ess.getD i [],x.size<=1024
 g1:1<=f.goal.length
 gl:f.goal.length<=990
 gs:∀x∈f.goal,x.size<=1024
 wh:f.which.length=f.hyps.length
 hl:f.hyps.length<=4200
 wb:∀i,i<f.which.length->-4200<=f.which.getD i 0/\f.which.getD i 0<f.vars.length
abbrev sX:ByteArray:=⟨#[120]⟩
abbrev sY:ByteArray:=⟨#[121]⟩
def wl(ts:Vs)(code t:Vq)(vs:Vs):Nat->Vs
 | 0=>vs
 | i+1=>if((gD ts i).toList==code.toList)=true then(wl ts code t vs i).set i t else wl ts code t vs i
theorem si(i:Nat):(wl y D a S i).length=S.length:=by induction i with|zero=>rfl|succ i b=>grind [wl]
def vo(g:Fm):Vq:=gD g.goal 0
def me(z:Vq)(g:Fm):Vs:=tD z sY g.vars.length
def Nr(z:Vq)(g:Fm):Vs:=fe g.vars (me z g) g.goal
def pE(z:Vq)(f g:Fm):Vs:=wl f.types (vo g) (gH ((Nr z g).drop 1)) (tD z sX f.vars.length) f.vars.length
def yO(k:Bk)(f g:Fm):Bk:={ sW k sX (vo g) f.types f.vars.length with vals:=tD k.z sX f.vars.length }
def BI(k:Bk)(f g:Fm):Bk:=sW (yO k f g) sY ⟨#[]⟩ g.types g.vars.length
def Al(k:Bk)(f g:Fm):Bk:=oO (BI k f g) sY g.vars (me k.z g) g.ess g.ess.length
def BJ(k:Bk)(f g:Fm):Bk:={ Al k f g with long:=(Al k f g).long||decide (32<(Nr k.z g).length) }
def yP(k:Bk)(f g:Fm):Bk:={ BJ k f g with vals:=pE k.z f g }
def xL(k:Bk)(f g:Fm):Bk:={ yP k f g with disj:=FZ g (me k.z g) (-1) }
def BK(k:Bk)(f g:Fm):Bk:=oO (xL k f g) sX f.vars (pE k.z f g) f.ess f.ess.length
def BM(k:Bk)(f g:Fm):Bk:={ BK k f g with goal:=fe f.vars (pE k.z f g) f.goal }
def lS(k:Bk)(f g:Fm):Bk:={ BM k f g with over:=decide (32<(fe f.vars (pE k.z f g) f.goal).length) }
def ly11(k:Bk)(f g:Fm):Bk:=yh (lS k f g) (Cc f g (pE k.z f g) (me k.z g) (vo g) ((lS k f g).disj,(lS k f g).clash) f.left.length)
theorem xk{s:Vq}(c:v.size<=10)(a:s.size<=8):∀x∈tD v s b,x.size<=41:=by grind [tD,p9]
theorem Qt(h:∀x∈S,iu x)(k:Nat)(d:k+1<=S.length):aZ (EU S (k+1))=S.take (k+1):=by induction k with|zero=>{(have e:EU S 1=gD S 0:=by rfl);have b:=jZ (show 0<S.length by omega);rw[e,lA _ (h _ b)];cases S with|nil=>grind|cons a r=>rfl}|succ k c=>(have b:=jZ (show k+1<S.length by omega);have e:EU S (k+1+1)=EU S (k+1)++(⟨#[32]⟩++gD S (k+1)):=by (show(if 0<k+1 then EU S (k+1)++⟨#[32]⟩ else EU S (k+1))++gD S (k+1)=_);rw[VK (by omega),Xg]);rw[e,ni _ _ (h _ b),c (by omega),VY (show k+1<S.length by omega)];congr 2;unfold gD;rw[Vy,Vv (show k+1<S.length by omega)];rfl
theorem Js(h:∀x∈S,iu x)(a:0<S.length):aZ (gH S)=S:=by (have⟨k,b⟩:∃k,S.length=k+1:=by simp_all);grind [gH,Qt]
def zeK(k:Bk):Bk:=LA k (k.packed++⟨#[90]⟩)
def inS(r:Bk×Nat)(lab:Vq):Bk×Nat:=if(jh r.1 lab).Zx.length=1 then(zeK (jh r.1 lab),r.2+1) else(jh r.1 lab,r.2)
def inT(z:Vq)(wh:List Int)(s:Bk×Nat):Nat->Bk×Nat
 | 0=>s
 | m+1=>inS (inT z wh s m) (fN z wh m sY)
def TU(f:Fm)(code:Vq)(q:Nat):Bool:=decide (f.which.getD q 0<0) || !((gD f.types (f.which.getD q 0).toNat).toList==code.toList)
structure Ly where
 k:Bk
 tag:Bool
 tags:Nat
def Pz(f g:Fm)(lg:Vq)(s:Ly)(q:Nat):Ly :=
 if TU f (vo g) q=true then⟨jh s.k (fN s.k.z f.which q sX),s.tag,s.tags⟩
 else if s.tag=true then⟨LA (jh (inT s.k.z g.which (s.k,s.tags) g.hyps.length).1 lg) ((jh (inT s.k.z g.which (s.k,s.tags) g.hyps.length).1 lg).packed.extract 0 s.k.packed.size++⟨#[33]⟩),true,(inT s.k.z g.which (s.k,s.tags) g.hyps.length).2⟩
 else⟨zeK (jh (inT s.k.z g.which (s.k,s.tags) g.hyps.length).1 lg),true,(inT s.k.z g.which (s.k,s.tags) g.hyps.length).2+1⟩
def oq(f g:Fm)(lg:Vq)(s:Ly):Nat->Ly
 | 0=>s
 | q+1=>Pz f g lg (oq f g lg s q) q
def lyE(k:Bk)(tags:Nat)(lf:Vq):Bk:=LA (jh k lf) (⟨#[40,32]⟩++gH (jh k lf).Zu++⟨#[32,41,32]⟩++Qb (jh k lf).packed (fI ((jh k lf).floats.length+(jh k lf).holds.length+(jh k lf).Zu.length+tags)))
def Lj(k:Bk)(f g:Fm)(lg:Vq):Ly:=oq f g lg ⟨ly11 k f g,false,0⟩ f.hyps.length
def lyZ(k:Bk)(f g:Fm)(lf lg:Vq):Bk:=lyE (Lj k f g lg).k (Lj k f g lg).tags lf
def ky(k:Bk)(pr la:Vs)(pa:Vq):Bk:={ k with Zx:=pr,Zu:=la,packed:=pa }
theorem Mi:∃b,jh (ky i L y D) a=ky i (L++[a]) b (D++fI (om (ky i L y D) a))/\(b=y∨b=y++[a]):=by have d:(AG (ky i L y D) a).floats=i.floats:=rfl;have e:(AG (ky i L y D) a).holds=i.holds:=rfl;have f:(AG (ky i L y D) a).Zu=y:=rfl;have g:(ky i L y D).floats=i.floats:=rfl;have j:(ky i L y D).holds=i.holds:=rfl;have k:(ky i L y D).Zu=y:=rfl;unfold jh ym om;rw[d,e,f,g,j,k];cases aG i.floats a with|some c=>exact⟨y,rfl,VS rfl⟩|none=>{simp only;cases aG i.holds a with|some c=>exact⟨y,rfl,VS rfl⟩|none=>{simp only;cases aG y a with|some c=>exact⟨y,rfl,VS rfl⟩|none=>exact⟨y++[a],rfl,VO rfl⟩}}
theorem MO:zeK (ky i L y a)=ky i L y (a++⟨#[90]⟩):=rfl
structure gU(k:Bk)(s:Bk)(n:Nat):Prop where
 is:∃pr la pa,s=ky k pr la pa
 pl:s.Zx.length<=n
 ll:s.Zu.length<=n
 ps:s.packed.size<=3*n
theorem gU.st(h:gU x m b)(lab:Vq):gU x (jh m lab) (b+1):=by obtain⟨⟨c,d,a,rfl⟩,g,i,j⟩:=h;obtain⟨f,e,k⟩:=Mi x c d a lab;rw[e];have l:=rn (om (ky x c d a) lab);have g:c.length<=b:=g;have i:d.length<=b:=i;have j:a.size<=3*b:=j;refine⟨⟨_,_,_,rfl⟩,?_,?_,?_⟩;{show(c++[lab]).length<=_;grind};{show f.length<=_;grind};{(show(a++fI _).size<=_);grind}
theorem gU.stz(h:gU x m b)(a:Vq):gU x (zeK (jh m a)) (b+1):=by obtain⟨⟨d,f,c,rfl⟩,i,j,k⟩:=h;obtain⟨g,e,n⟩:=Mi x d f c a;rw[e,MO];have o:=rn (om (ky x d f c) a);have i:d.length<=b:=i;have j:f.length<=b:=j;have k:c.size<=3*b:=k;have l:(⟨#[90]⟩:Vq).size=1:=rfl;refine⟨⟨_,_,_,rfl⟩,?_,?_,?_⟩;{show(d++[a]).length<=_;grind};{show g.length<=_;grind};{(show(c++fI _++⟨#[90]⟩).size<=_);grind}
theorem gU.ins{s:Bk×Nat}(h:gU x s.1 b)(c:s.2<=b)(a:Vq):gU x (inS s a).1 (b+1)/\(inS s a).2<=b+1:=by unfold inS;split;{exact⟨h.stz a,by omega⟩};{exact⟨h.st a,by omega⟩}
theorem gU.inT{s:Bk×Nat}(h:gU x s.1 b)(d:s.2<=b)(z:Vq)(c:List Int)(m:Nat):gU x (Go.Proofs.YtnbalopedcgpcaaGreat.inT z c s m).1 (b+m)/\(Go.Proofs.YtnbalopedcgpcaaGreat.inT z c s m).2<=b+m:=by induction m with|zero=>exact⟨h,d⟩|succ m a=>exact gU.ins a.1 a.2 _
theorem gU.cut(h:gU x m b)(p:Nat)(g:p+1<=3*b):gU x (LA m (m.packed.extract 0 p++⟨#[33]⟩)) b:=by obtain⟨⟨j,i,e,rfl⟩,c,d,f⟩:=h;refine⟨⟨_,_,_,rfl⟩,c,d,?_⟩;(show(e.extract 0 p++⟨#[33]⟩).size<=_);have a:(⟨#[33]⟩:Vq).size=1:=rfl;rw[VP,WT,a];omega
theorem gU.ous{f g:Fm}{lg:Vq}{s:Ly}{q:Nat}(h:gU x s.k b)(c:s.tags<=b):gU x (Pz f g lg s q).k (b+g.hyps.length+1)/\(Pz f g lg s q).tags<=b+g.hyps.length+1:=by have a:=gU.inT (s:=(s.k,s.tags)) h c s.k.z g.which g.hyps.length;unfold Pz;split;{have:=h.st (fN s.k.z f.which q sX);refine⟨⟨this.is,?_,?_,?_⟩,by grind⟩;{have:=this.pl;grind};{have:=this.ll;grind};{have:=this.ps;grind}};{split;{have d:=h.ps;exact⟨(a.1.st lg).cut _ (by omega),by have:=a.2;show(Go.Proofs.YtnbalopedcgpcaaGreat.inT ..).2<=_;omega⟩};{exact⟨a.1.stz lg,by have:=a.2;show(Go.Proofs.YtnbalopedcgpcaaGreat.inT ..).2+1<=_;omega⟩}}
theorem gU.ovr{f g:Fm}{lg:Vq}{s:Ly}{n:Nat}(h:gU x s.k n)(b:s.tags<=n)(q:Nat):gU x (oq f g lg s q).k (n+q*(g.hyps.length+1))/\(oq f g lg s q).tags<=n+q*(g.hyps.length+1):=by induction q with|zero=>rw[Ye];exact⟨h,b⟩|succ q a=>have:=gU.ous (f:=f) (g:=g) (lg:=lg) (q:=q) a.1 a.2;rw[Yy,<-XR];exact this
def xG(n:Nat):Code->Bool
 | .region id _ _=>Nat.beq id n
 | .seq a b=>match xG n a with
  | true=>true
  | false=>xG n b
 | .cond _ a b=>match xG n a with
  | true=>true
  | false=>xG n b
 | .block _ c=>xG n c
 | .loop c=>xG n c
 | .scope c=>xG n c
 | _=>false
def Hb(n:Nat):Code->Option Code
 | .seq a b=>match xG n a with
  | true=>some (.seq a b)
  | false=>Hb n b
 | .block _ c=>Hb n c
 | .scope c=>Hb n c
 | _=>none
structure zi(k:Bk)(g:Fm):Prop where
 z:k.z.size<=10
 new:k.decl.size<=1000/\k.ess.size<=1000/\k.holds.length<=1000/\k.floats.length<=5000
 pr:k.Zx=[]/\k.Zu=[]/\k.packed=⟨#[]⟩
 pg:1<=(Nr k.z g).length/\(Nr k.z g).length<=990
 pw:∀x∈Nr k.z g,x.size<=1024/\iu x
 nb:∀i,i<4200->iu (DT k.z sX i)/\iu (DT k.z sY i)
theorem To{i:Nat}{x:Vq}(h:x∈wl T v o c i):x∈c∨x=o:=by induction i with|zero=>exact VS h|succ i a=>grind [wl]
theorem Tm(n x:Nat)(a:x<c.length):gD (wl T v o c n) x=if x<n/\((gD T x).toList==v.toList)=true then o else gD c x:=by induction n with|zero=>rfl|succ n b=>grind [wl,gD,si]
theorem Ib(h:∀x∈T,iu x)(c:T.length<=990):(aZ (gH T)).length<=1001/\(((gH T).toList == [])=false->∀x∈aZ (gH T),x∈T):=by by_cases b:0<T.length;{grind [Js]};{(have e:T=[]:=by grind);subst e;have a:gH ([]:Vs)=⟨#[]⟩:=rfl;rw[a];refine⟨by have:=ly (⟨#[]⟩:Vq);have:(⟨#[]⟩:Vq).size=0:=rfl;omega,λh=>?_⟩;simp_all}
section
variable {k:Bk} {f g:Fm}
theorem zi.drop(b:zi k g):((Nr k.z g).drop 1).length<=990/\∀x∈(Nr k.z g).drop 1,x.size<=1024/\iu x :=
 ⟨by rw[Xp];have:=b.pg.2;omega,λx a=>b.pw x (by grind)⟩
theorem zi.join(b:zi k g):(gH ((Nr k.z g).drop 1)).size<=100000000:=by have⟨a,c⟩:=b.drop;grind [jU,Nr,gH]
theorem zi.vals(b:zi k g):∀x∈pE k.z f g,x.size<=100000000/\(aZ x).length<=1001:=by intro x a;rcases To a with q | rfl;{have:=xk (s:=sX) b.z (by decide) x q;grind [ly]};{exact⟨b.join,(Ib (λx a=>(b.drop.2 x a).2) b.drop.1).1⟩}
theorem zi.ZP(b:zi k g)(x:Nat)(h:((gD f.types x).toList==(vo g).toList)=false):(gD (pE k.z f g) x).size<=41:=by by_cases a:x<f.vars.length;{(have e:gD (pE k.z f g) x=gD (tD k.z sX f.vars.length) x:=by grind [pE,Tm,gF]);rw[e];exact xk b.z (by decide) _ (jZ (by rwa [gF]))};{(have e:gD (pE k.z f g) x=⟨#[]⟩:=by grind [pE,si,gF,gD]);rw[e];exact Wp _}
theorem zi.one(b:zi k g)(p:FW f)(n:v.size<=1024)(a:o∈kK f.vars (pE k.z f g) v):o.size<=2000:=by unfold kK at a;split at a;{grind};{next i d => have d:=fW d;split at a;{cases a};{next c => have m:(pE k.z f g).length=f.vars.length:=(by grind [pE,si,gF]);have r:gD (pE k.z f g) i∈pE k.z f g:=jZ (by omega);rcases To r with q | q;{unfold tD at q;have⟨j,l,e⟩:=VT.1 q;have l:=VH.1 l;rw[<-e,lA _ (b.nb j (by have:=p.vl;omega)).1]at a;rw[VI.1 a];have:=p9 (z:=k.z) (s:=sX) b.z (by decide) j;omega};{rw[q]at a c;have:=(Ib (λv n=>(b.drop.2 v n).2) b.drop.1).2 (by grind) o a;have:=(b.drop.2 o this).1;omega}}}
theorem zi.put(b:zi k g)(c:FW f)(i:T.length<=990)(d:∀x∈T,x.size<=1024):(fe f.vars (pE k.z f g) T).length<=1000000/\∀x∈fe f.vars (pE k.z f g) T,x.size<=2000:=by refine⟨?_,λx a=>?_⟩;{have:=AM f.vars (pE k.z f g) T (λx a=>(b.vals x a).2) T.length (Vw _);grind [ry,pE,fe]};{have⟨y,e,a⟩:=Wk.1 a;exact b.one c (d y e) a}
theorem zi.puty(b:zi k g)(d:FW g)(e:T.length<=990)(f:∀x∈T,x.size<=1024):(fe g.vars (me k.z g) T).length<=1000000/\∀x∈fe g.vars (me k.z g) T,x.size<=2000:=by refine⟨?_,λx a=>?_⟩;{have:=AM g.vars (me k.z g) T (λx a=>by have:=xk (s:=sY) b.z (by decide) x a;grind [ly]) T.length (Vw _);grind [ry,me,fe]};{have⟨y,j,a⟩:=Wk.1 a;unfold kK at a;split at a;{grind};{next i c => have c:=fW c;split at a;{cases a};{(have T:gD (me k.z g) i=DT k.z sY i:=by grind [gD,me,tD]);rw[T,lA _ (b.nb i (by have:=d.vl;omega)).2]at a;rw[VI.1 a];have:=p9 (z:=k.z) (s:=sY) b.z (by decide) i;omega}}}
set_option maxRecDepth 100000
theorem qK{sk:Vq}{d:Vq}(a:v.size<=10)(s:o.size<=8)(i:∀t∈T,t.size<=1024)(m:Nat)(r:m<=T.length):(En v o sk T d m).size<=d.size+m*2000/\(wj v o sk T [] m).length<=m:=by induction m with|zero=>grind [En,wj]|succ m j=>have⟨p,q⟩:=j (by omega);have k:=p9 (z:=v) (s:=o) a (by omega) m;have l:=E4 (z:=v) (s:=o) a (by omega) m;have n:=i _ (jZ (show m<T.length by omega));have b:(⟨#[32,36,118,32]⟩:Vq).size=4:=rfl;have c:(⟨#[32,36,46,32]⟩:Vq).size=4:=rfl;have e:(⟨#[32,36,102,32]⟩:Vq).size=4:=rfl;have f:(⟨#[32]⟩:Vq).size=1:=rfl;have g:(⟨#[32,36,46]⟩:Vq).size=3:=rfl;rw[Yy,En,wj];split;{exact⟨by omega,by omega⟩};{refine⟨?_,?_⟩;{simp[ByteArray.size_append,b,c,e,f,g];omega};grind}
theorem Ky(b:Vq)(c l:Vs)(m:Nat):wj D a b c l m=l++wj D a b c [] m:=by induction m with|zero=>simp[wj]|succ m d=>grind [wj]
end
theorem mI.value(h:mI M I b N t T){g:Nat}(d:(N 7).ao=some (aD g))(j:Nat)(v:Value):mI M (I.setCell (X g j) v) b N t T:=by (have a:(N 7).ZF=some g:=by grind [Hd.ZF]);refine⟨h.ZP.Zw (λx c=>VB _ _ _ _ ?_),h.far⟩;rintro rfl;exact(h.far _ c).2.2 ⟨7,a⟩
theorem mI.takes{a:Hd}(h:mI M I b N t T)(c i:Nat)(v:Value)(g:∀x,t.ZF=some x->a.ZF≠some x):mI M (I.setCell (X b c) v) b (dD N i a) t T:=by refine⟨h.ZP.Zw (λx d=>VB _ _ _ _ ?_),λx d=>⟨(h.far x d).1,(h.far x d).2.1,?_⟩⟩;{exact λe=>(h.far x d).2.1 e};{rintro ⟨j,f⟩;by_cases e:j=i;{grind [cS]};{rw[bL _ _ _ _ e]at f;exact(h.far x d).2.2 ⟨j,f⟩}}
theorem mI.cell(h:mI M I b N t T)(c:Nat)(v:Value):mI M (I.setCell (X b c) v) b N t T :=
 ⟨h.ZP.Zw (λx a=>VB _ _ _ _ (λe=>(h.far x a).2.1 e)),h.far⟩
end Go.Proofs.YtnbalopedcgpcaaGreat
