import Derived.Deep.CutBlock
import Derived.Test.YtpdholcaobgofaaGreatP01
namespace Go.Proofs.YtpdholcaobgofaaGreat
open Go.RowKit Tryz
open Value IntKind Ending
set_option linter.all false
set_option maxHeartbeats 0
variable{H v y5:World}{l d zf:Nat}{m M:Vx}{z6:VB}{y1:Nat->Bool}{y8:wt}{y6:Obj}{N:Nat->Prop}{o D:List Value}{n y2:Nat->U}{zt:U}{z7:Vy}(y4 y3 y7:List Value)(I:U)(L:Vy)(f T:Nat)(k:Vx)(S:Vy)(w:Vx)(y:World)(y0:VB)(b:Nat)(x i:List Value)(g:List (Nat×Nat))(z8:Nat×Nat)
def oq:Array Value:=#[bN,J 0,bool false,bN,J 0,J 0]
theorem jE(h:H.heap[l]?=some (aJ oq 255)) :
  aP H l 0 (bN)/\aP H l 1 (J 0)/\aP H l 2 (bool false) /\
  aP H l 3 (bN)/\aP H l 4 (J 0)/\aP H l 5 (J 0):=by refine⟨?_,?_,?_,?_,?_,?_⟩ <;> exact bR h rfl
theorem jt(h:dd H l m M zf)(a:l≠d)(b c e f g i:Value) :
  dd ((((((H.setCell (aE d) b).setCell (X d 1) c).setCell (X d 2) e).setCell (X d 3) f).setCell (X d 4) g).setCell (X d 5) i) l m M zf:=by unfold dd;rw[VN _ _ _ _ a,VN _ _ _ _ a,VN _ _ _ _ a,VN _ _ _ _ a,VN _ _ _ _ a,VN _ _ _ _ a];exact h
theorem jW(h:O z6 H v)(a:H.heap.size<=l)(b c d e f g:Value) :
  O z6 H ((((((v.setCell (aE l) b).setCell (X l 1) c).setCell (X l 2) d).setCell (X l 3) e).setCell (X l 4) f).setCell (X l 5) g) :=
 (((((h.setCell (VW a) _).setCell (VW a) _).setCell (VW a) _).setCell (VW a) _).setCell (VW a) _).setCell (VW a) _
set_option maxRecDepth 100000
theorem zO(hd:w.size<=1024)(hk:T<=w.size)(h:dd y f k w T) :
  aU 202 #[bh f] y λe w'=>e=cM (ia k w (cr w T).1)/\dd w' f k w (cr w T).2/\O [f] y w':=by
 have ao:=ae h;go_enter func202,ntmps202;go_upto_block 0 with fail;go_cut [] from 5 (λwc=>∃j,T<=j/\j<=w.size/\Z (j=skip w T)/\dd wc f k w j/\wc.heap[y.heap.size]?=some (aJ oq 255)/\O [f] y wc);(case first => go_wp2_with fail;go_loopg [] (w.size-T) (λg wr=>∃j,T<=j/\j<=w.size/\g=w.size-j/\Z (skip w j=skip w T)/\dd wr f k w j/\wr.heap[y.heap.size]?=some (aJ oq 255)/\O [f] y wr);{exact⟨T,VC _,hk,rfl,rfl,dd.YZ h ((O.refl [] y).alloc _) (by simp),VD _ _,(O.refl _ _).alloc _⟩};(obtain⟨j,B,V,hg,r,l,n,c⟩:=hrel;obtain⟨c0,c1,c2,c3,c4⟩:=l.cells;have q:y.heap.size∉[f]:=by simp;omega);by_cases S:j<w.size/\dN (aR w j)=true;{obtain⟨a,p⟩:=S;have b:=p;rw[da w j a]at b;have ag:Z (skip w (j+1)=skip w T):=(Nx w j a p).symm.trans r;go_wp2_with fail;go_quiet ((go_at_call 225;exact VU (md _ _)));go_wp2_with fail;refine(Jg f j k w _ hd a (by exact l)).mono ?_;rintro e w1 ⟨rfl,u,m⟩;go_wp2;go_roundg (w.size-(j+1));{exact⟨j+1,by omega,by omega,rfl,ag,u,m.get (by exact n) q,(c.drewN nq).trans m⟩};omega};{(have W:Z (j=skip w T):=(r.o.symm.trans (xt w j S)).symm;have A:(j<w.size/\∃h:j<w.size,dN ((w[j]'h).toNat:Int)=false)∨(¬j<w.size/\decide ((j:Int)<(w.size:Int))=false):=by by_cases a:j<w.size;{refine VY ⟨a,a,?_⟩;rw[<-da w j a];simpa using λh=>S ⟨a,h⟩};{exact VW ⟨a,by simp;omega⟩});rcases A with ⟨a,al,b⟩ | ⟨a,b⟩;all_goals(go_wp2_with fail;go_quiet ((go_at_call 225;exact VU (md _ _)));go_wp2_with fail;go_meet;case rel=>exact⟨j,B,V,W,by exact l,by exact n,c.drewN _⟩)})
 case rest =>
  (obtain⟨j,B,V,P,l,n,c⟩:=hcut;have q:y.heap.size∉[f]:=by simp;omega);go_wp2_with fail;refine(DE f j k w _ (by exact l)).mono ?_;rintro e s ⟨rfl,m⟩;have u:dd s f k w j:=dd.YZ (by exact l) m (by simp);have af:=m.gt (by exact n);have C:=c.trans (m.mono (by simp));have am:=ae u;obtain⟨c0,c1,c2,c3,c4⟩:=u.cells;go_wp2;go_loopg [] (w.size-j) (λg wr=>∃z,j<=z/\z<=w.size/\g=w.size-z/\Z (dR w z=dR w j)/\dd wr f k w z/\wr.heap[y.heap.size]?=some (aJ oq 255) /\ wr.heap[s.heap.size]?=some (aJ #[Y k,J (bA w j),J (bY w j)] 36)/\O [f] y wr);{exact⟨j,VC _,V,rfl,rfl,u.YZ ((O.refl [] s).alloc _) (by simp),((O.refl [] s).alloc _).gt af,VD _ _,C.alloc _⟩};obtain⟨z,ap,hz,hg,r,l,n,G,c⟩:=hrel;obtain⟨c0,c1,c2,c3,c4⟩:=l.cells;have e0:aP wr s.heap.size 0 (Y k):=bR G rfl;have e1:aP wr s.heap.size 1 (J (bA w j)):=bR G rfl;have e2:aP wr s.heap.size 2 (J (bY w j)):=bR G rfl;rcases QK w z with ⟨i,b,E,ai⟩ | ⟨i,b,E⟩ | ⟨i,b⟩ | ⟨i,b⟩;{have HS:Z _:=ai.trans r;go_wp2_with fail;go_quiet ((go_at_call 225;exact VU (md _ _)));go_wp2_with fail;go_quiet ((go_at_call 228;exact Ft (sC _ _)));go_wp2_with fail;refine(Jg f z k w _ hd i (by exact l)).mono ?_;rintro e w3 ⟨rfl,R,d⟩;go_wp2;go_roundg (w.size-(z+1));{exact⟨z+1,by omega,by omega,rfl,HS,R,d.get (by exact n) q,d.get (by exact G) (by grind),((c.drewN _).trans d)⟩};omega}
  ·have t:Z _:=IY w T j z P r i (by rw[da w z i];exact b) (by rw[da w z i];exact E);go_wp2_with fail;go_quiet ((go_at_call 225;exact VU (md _ _)));go_wp2_with fail;go_quiet ((go_at_call 228;exact Ft (sC _ _)));go_wp2_with fail;refine(DE f z k w _ (by exact l)).mono ?_;rintro e w3 ⟨rfl,d⟩;have R:dd w3 f k w z:=dd.YZ (by exact l) d (by simp);have F:=d.gt (by exact n);have D:=(c.drewN _).trans (d.mono (by simp));obtain⟨H,I,K,L,M,N⟩:=jE F;have aq:=au F;go_wp2;exact VJ (v:=ia k w ⟨⟨#[]⟩,1,false,z⟩) (by simp[results,results202,go_sem,ia,H,I,K,L,M,N]) rfl
    (by rw[t.o];exact⟨rfl,jt R (by omega) _ _ _ _ _ _,jW D (VC _) _ _ _ _ _ _⟩)
  all_goals
   have HZ:¬(z<w.size/\dN (aR w z)=false):=by
    rintro ⟨ad,x⟩
    first
     | (rw[da w z ad,b]at x;cases x)
     | omega
   obtain⟨H,I,K,L,M,N⟩:=jE n;have aq:=au n;by_cases ac:j<z
   ·have t:Z _:=DP w T j z P r HZ ac;go_wp2_with fail;go_quiet ((go_at_call 225;exact VU (md _ _)));go_wp2_with fail;go_quiet (fail);go_wp2_with fail;go_region;(all_goals go_wp2)
    exact VJ (v:=ia k w ⟨w.extract j z,0,false,j⟩) (by simp[results,results202,go_sem,ia,H,I,K,L,M,N]) rfl
     (by rw[t.o];exact⟨rfl,jt (by exact l) (by omega) _ _ _ _ _ _,jW (c.drewN _) (VC _) _ _ _ _ _ _⟩)
   ·have t:Z _:=IZ w T j z P r HZ (by omega);go_wp2_with fail;go_quiet ((go_at_call 225;exact VU (md _ _)));go_wp2_with fail;go_quiet (fail);go_wp2;exact VJ (v:=ia k w ⟨⟨#[]⟩,0,true,j⟩) (by simp[results,results202,go_sem,ia,H,I,K,L,M,N]) rfl
     (by rw[t.o];exact⟨rfl,jt (by exact l) (by omega) _ _ _ _ _ _,jW (c.drewN _) (VC _) _ _ _ _ _ _⟩)
def aZ(i:wt):Bool:=i.Y9==0 && !i.Y5
set_option maxRecDepth 512
theorem eF(r l c:Int)(f:Bool)(a:World) :
    aU 155 #[agg #[Y k,J r,bool f,Y w,J l,J c]] a (kt (bool (r==0 && !f)) a):=by cases b:(r==0);all_goals(go_enter func155,ntmps155;go_wp2;go_ret;exact⟨aN (by simp),(O.refl _ _).alloc _⟩)
def eO(s:Vx):Bool:=(List.range s.size).any (λi=>aR s i==36)
def my(s:Vx):Bool:=(List.range s.size).any (λi=>decide (1<=i)&&(aR s (i-1)==36)&&((aR s i==40)||(aR s i==41)))
theorem qd{p:Nat->Bool}(h:b<l)(a:p b=true):(List.range l).any p=true:=by grind
theorem z9(h:∀i,i<l->y1 i=false):(List.range l).any y1=false:=by grind
theorem fL(m:w.size<=1073741824) :
    aU 230 #[Y w] y (iw (bool (eO w)) y):=by go_enter func230,ntmps230;go_wp2;go_loopg [3] w.size (λg i wr=>∃k:Nat,k<=w.size/\g=w.size-k/\i=J k/\Z (∀i,i<k->(aR w i==36)=false)/\wr=y);{exact⟨0,by omega,by omega,rfl,λi h=>by omega,rfl⟩};obtain⟨k,l,j,rfl,a,rfl⟩:=hrel;by_cases b:k<w.size;{cases d:((w[k].toNat:Int)==36);{go_wp2;go_roundg (w.size-(k+1));{refine⟨k+1,by omega,rfl,by go_num,?_,rfl⟩;intro i f;by_cases e:i=k;{grind [da]};{exact a i (by omega)}};omega};{have c:Z (eO w=true):=qd k b (by rw[da w k b];exact d);go_wp2;go_ret;exact⟨aN c.o.symm,rfl⟩}};{have c:Z (eO w=false):=z9 (λi f=>a i (by omega));go_wp2;go_ret;exact⟨aN c.o.symm,rfl⟩}
theorem yK(u:w.size<=1073741824) :
    aU 229 #[Y w] y (iw (bool (my w)) y):=by
  go_enter func229,ntmps229;go_wp2;go_loopg [3] (w.size-1) (λg i wr=>∃k:Nat,1<=k/\(k<=w.size∨k=1)/\g=w.size-k/\i=J k/\Z (∀i,i<k->1<=i->((aR w (i-1)==36)&&((aR w i==40)||(aR w i==41)))=false)/\wr=y);{exact⟨1,by omega,by omega,rfl,rfl,λi h r=>by omega,rfl⟩};obtain⟨k,d,t,s,rfl,a,rfl⟩:=hrel;by_cases f:k<w.size
  · (have l:k-1<w.size:=by omega)
    have m:∀b:Bool,(((w[k-1].toNat:Int)==36)&&(((w[k].toNat:Int)==40)||((w[k].toNat:Int)==41)))=b->((aR w (k-1)==36)&&((aR w k==40)||(aR w k==41)))=b :=
      by grind [da]
    have j:Z (∀b:Bool,(((w[k-1].toNat:Int)==36)&&(((w[k].toNat:Int)==40)||((w[k].toNat:Int)==41)))=b->((aR w (k-1)==36)&&((aR w k==40)||(aR w k==41)))=b):=m;clear m;go_wp2
    all_goals first
      | (go_ret
         refine⟨aN ?_,rfl⟩;refine(qd (p:=λi=>decide (1<=i)&&(aR w (i-1)==36)&&((aR w i==40)||(aR w i==41))) k f ?_).symm;have:=j.o true (by simp_all);simp only[Bool.and_assoc,this];simp[d])
      | (go_roundg (w.size-(k+1))
         case measure=>omega
         case rel =>
           refine⟨k+1,by omega,by omega,rfl,by go_num,?_,rfl⟩;intro i q c;by_cases e:i=k
           · subst e;exact j.o false (by simp_all)
           · exact a.o i (by omega) c)
  · have n:Z (my w=false):=z9 (λi q=>by
      by_cases c:1<=i
      · have:=a.o i (by omega) c;grind
      grind)
    go_wp2;go_ret;exact⟨aN n.o.symm,rfl⟩
theorem i8(h:b<=w.size):b<=(cr w b).2/\(cr w b).2<=w.size/\(aZ (cr w b).1=true->b<(cr w b).2):=by grind [FG,wj,skip,cr,aZ]
def dn(d:Vx):Nat->Nat->wt×Nat
 | 0,k=>(⟨⟨#[]⟩,3,false,k⟩,k)
 | f+1,k =>
  if aZ (cr d k).1=true/\¬(cr d k).1.text.toList=[36,41] then
   if my (cr d k).1.text=true then(⟨⟨#[]⟩,2,false,(cr d k).1.pos⟩,(cr d k).2) else dn d f (cr d k).2
  else if(cr d k).1.Y5=true then(⟨⟨#[]⟩,3,false,(cr d k).1.pos⟩,(cr d k).2) else cr d k
def bV(d:Vx)(k:Nat):wt×Nat:=dn d (d.size-k+1) k
theorem Am(f k:Nat)(b:k<=w.size)(a:w.size-k+1<=f):dn w f k=bV w k:=by unfold bV;(suffices h:∀f g k,k<=w.size->w.size-k+1<=f->w.size-k+1<=g->dn w f k=dn w g k from h _ _ _ b a (VC _));intro f;induction f with|zero=>simp|succ f d=>{intro g k b a c;cases g with|zero=>omega|succ g=>grind [dn,i8,cr]}
theorem An(e:b<=w.size)(a:aZ (cr w b).1=true)(c:((cr w b).1.text.toList == [36,41])=false)(d:my (cr w b).1.text=false):bV w b=bV w (cr w b).2:=by grind [i8,bV,dn,Am]
theorem wL(a:aZ (cr w b).1=true)(c:((cr w b).1.text.toList == [36,41])=false)(d:my (cr w b).1.text=true):bV w b=(⟨⟨#[]⟩,2,false,(cr w b).1.pos⟩,(cr w b).2):=by grind [bV,dn]
theorem wM(a:aZ (cr w b).1=false)(c:(cr w b).1.Y5=true):bV w b=(⟨⟨#[]⟩,3,false,(cr w b).1.pos⟩,(cr w b).2):=by grind [bV,dn]
theorem yN(a:aZ (cr w b).1=false)(c:(cr w b).1.Y5=false):bV w b=cr w b:=by grind [bV,dn]
theorem uY(a:aZ (cr w b).1=true)(c:((cr w b).1.text.toList == [36,41])=true):bV w b=cr w b:=by grind [bV,dn,aZ]
theorem kK(a:b<=w.size):b<=(bV w b).2/\(bV w b).2<=w.size:=by unfold bV;(suffices h:∀f b,b<=w.size->b<=(dn w f b).2/\(dn w f b).2<=w.size from h _ _ a);intro f;induction f with|zero=>grind [dn]|succ f c=>grind [i8,dn,cr]
def fB(d:Vx):Nat->Nat->wt×Nat
 | 0,k=>(⟨⟨#[]⟩,0,true,k⟩,k)
 | f+1,k =>
  if aZ (cr d k).1=true/\(cr d k).1.text.toList=[36,40] then
   if aZ (bV d (cr d k).2).1=true then fB d f (bV d (cr d k).2).2 else bV d (cr d k).2
  else cr d k
def aM(d:Vx)(k:Nat):wt×Nat:=fB d (d.size-k+1) k
theorem Ir(f k:Nat)(b:k<=w.size)(a:w.size-k+1<=f):fB w f k=aM w k:=by unfold aM;(suffices h:∀f g k,k<=w.size->w.size-k+1<=f->w.size-k+1<=g->fB w f k=fB w g k from h _ _ _ b a (VC _));intro f;induction f with|zero=>simp|succ f d=>{intro g k b a c;cases g with|zero=>omega|succ g=>grind [fB,i8,kK,cr]}
theorem Nc(e:b<=w.size)(a:aZ (cr w b).1=true)(c:((cr w b).1.text.toList == [36,40])=true)(d:aZ (bV w (cr w b).2).1=true) :
  aM w b=aM w (bV w (cr w b).2).2:=by grind [i8,kK,cr,aM,fB,Ir]
theorem yU(a:aZ (cr w b).1=true)(c:((cr w b).1.text.toList == [36,40])=true)(d:aZ (bV w (cr w b).2).1=false) :
  aM w b=bV w (cr w b).2:=by grind [aM,fB]
theorem vS(h:aZ (cr w b).1=false∨((cr w b).1.text.toList == [36,40])=false):aM w b=cr w b:=by grind [aM,fB]
theorem jh(a:b<=w.size):b<=(aM w b).2/\(aM w b).2<=w.size/\(aZ (aM w b).1=true->b<(aM w b).2):=by unfold aM;(suffices h:∀f b,b<=w.size->b<=(fB w f b).2/\(fB w f b).2<=w.size/\(aZ (fB w f b).1=true->b<(fB w f b).2) from h _ _ a);intro f;induction f with|zero=>grind [fB,aZ]|succ f c=>grind [i8,kK,cr,fB,bV]
def lQ(w:World)(r:Nat)(n d:Vx)(i:wt):Prop :=
 w.heap[r]?=some (aJ #[Y i.text,J i.Y9,bool i.Y5,Y n,J (bA d i.pos),J (bY d i.pos)] 255)
theorem lQ.cells{t:Vx}{u:Int}{f:Bool}(h:lQ H l m M ⟨t,u,f,d⟩) :
  aP H l 0 (Y t)/\aP H l 1 (J u)/\aP H l 2 (bool f) /\
  aP H l 3 (Y m)/\aP H l 4 (J (bA M d))/\aP H l 5 (J (bY M d)):=by refine⟨?_,?_,?_,?_,?_,?_⟩ <;> exact bR h rfl
theorem lQ.YZ(h:lQ H l m M y8)(b:O z6 H v)(a:l∉z6):lQ v l m M y8:=b.get h a
theorem tH(h:lQ H l m M y8)(j:wt) :
  lQ ((((((H.setCell (aE l) (Y j.text)).setCell (X l 1) (J j.Y9)).setCell (X l 2) (bool j.Y5)).setCell (X l 3) (Y m)).setCell (X l 4) (J (bA M j.pos))).setCell (X l 5) (J (bY M j.pos))) l m M j:=by have:=ab (ab (ab (ab (ab (ab h 0 (Y j.text)) 1 (J j.Y9)) 2 (bool j.Y5)) 3 (Y m)) 4 (J (bA M j.pos))) 5 (J (bY M j.pos));unfold lQ;simp_all
theorem yq(h:H.heap[l]?=some y6)(a:l≠d)(b c e f g i:Value) :
  ((((((H.setCell (aE d) b).setCell (X d 1) c).setCell (X d 2) e).setCell (X d 3) f).setCell (X d 4) g).setCell (X d 5) i).heap[l]?=some y6:=by rw[VN _ _ _ _ a,VN _ _ _ _ a,VN _ _ _ _ a,VN _ _ _ _ a,VN _ _ _ _ a,VN _ _ _ _ a];exact h
theorem uK(a:w.size<=1024):(cr w b).1.text.size<=1024:=by unfold cr;simp only;split;{simp[ByteArray.size]};{split;{simp[ByteArray.size]};{simp;omega}}
set_option maxRecDepth 100000
theorem Gz(hd:w.size<=1024)(hk:T<=w.size)(h:dd y f k w T) :
  aU 203 #[bh f] y λe w'=>e=cM (ia k w (bV w T).1)/\dd w' f k w (bV w T).2/\O [f] y w':=by
 have ao:=ae h;go_enter func203,ntmps203;go_wp2_with fail;refine(zO f T k w _ hd hk (by exact h.YZ (bQ.alloc _) (by simp))).mono ?_;rintro e w1 ⟨rfl,h1,S⟩;have W:w1.heap[y.heap.size]?=some (aJ oq 255):=S.get (VD ..) (by grind);have ad:O [f] y w1:=((O.refl ..).alloc _).trans S;have am:=ae h1;have al:=ae W;simp[ia];go_wp2;go_loopg [] (w.size-T) (λg wr=>∃j,j<=w.size/\g=w.size-j/\Z (bV w T=bV w j)/\dd wr f k w (cr w j).2/\lQ wr w1.heap.size k w (cr w j).1/\wr.heap[y.heap.size]?=some (aJ oq 255)/\O [f] y wr);{exact⟨T,hk,rfl,rfl,h1.YZ (bQ.alloc _) (by simp),VD ..,(bQ.alloc _).gt W,ad.alloc _⟩};have⟨j,hj,hg,hs,H,s,V,l⟩:=hrel;have n:=i8 w j hj;have af:=uK w j hd;have L1:Z _:=An w j hj;have L2:Z _:=wL w j;have L3:Z _:=wM w j;have L4:Z _:=yN w j;have L5:Z _:=uY w j;generalize hrr:cr w j=r at *;have⟨⟨t,u,ac,p⟩,z⟩:=r;have HR:Z (cr w j=(⟨t,u,ac,p⟩,z)):=hrr;simp only at H s n af;have⟨K,L,M,N,P,R⟩:=s.cells;cases I:(u==0 && !ac)
 ·cases q:ac
  ·(have m:Z (bV w j=(⟨t,u,false,p⟩,z)):=(by have:=L4 (by simpa [aZ] using I) q;rw[q]at this;exact this);subst q;have ag:(u==0)=false:=by grind)
   go_wp2_with fail;refine(eF t k u (bA w p) (bY w p) _ _).mono ?_;rintro e w2 ⟨rfl,a⟩;have d:=s.YZ a (by simp);have i:=H.YZ a (by simp);have b:=a.gt V;have c:=l.trans (a.mono (by simp));have⟨K,L,M,N,P,R⟩:=d.cells;have⟨B,C,D,E,F,G⟩:=jE b;have ai:=au b;go_wp2;exact VJ (v:=ia k w ⟨t,u,false,p⟩) (by simp[results,results203,go_sem,ia,B,C,D,E,F,G]) rfl
    (by rw[hs.o,m.o];exact⟨rfl,jt i (by omega) ..,jW c (VC _) ..⟩)
  ·have m:Z (bV w j=(⟨⟨#[]⟩,3,false,p⟩,z)):=L3 (by simpa [aZ] using I) q;subst q;go_wp2_with fail;refine(eF t k u (bA w p) (bY w p) _ _).mono ?_;rintro e w2 ⟨rfl,a⟩;have d:=s.YZ a (by simp);have i:=H.YZ a (by simp);have b:=a.gt V;have c:=l.trans (a.mono (by simp));have⟨K,L,M,N,P,R⟩:=d.cells;have⟨B,C,D,E,F,G⟩:=jE b;have ai:=au b;go_wp2;exact VJ (v:=ia k w ⟨⟨#[]⟩,3,false,p⟩) (by simp[results,results203,go_sem,ia,B,C,D,E,F,G]) rfl
    (by rw[hs.o,m.o];exact⟨rfl,jt i (by omega) ..,jW c (VC _) ..⟩)
 ·cases hx:(t.toList == [36,41])
  ·cases hy:my t;{have m:Z _:=L1 I hx hy;go_wp2_with fail;refine(eF t k u (bA w p) (bY w p) _ _).mono ?_;rintro e w2 ⟨rfl,a⟩;have d:=s.YZ a (by simp);have i:=H.YZ a (by simp);have b:=a.gt V;have c:=l.trans (a.mono (by simp));have⟨K,L,M,N,P,R⟩:=d.cells;go_wp2_with fail;refine(yK t _ (by omega)).mono ?_;rintro e w3 ⟨rfl,rfl⟩;go_wp2_with fail;refine(zO f z k w _ hd n.2.1 i).mono ?_;rintro e w4 ⟨rfl,h4,A⟩;have x:=d.YZ A (by grind);have yy:=au x;have⟨K,L,M,N,P,R⟩:=x.cells;simp[ia];go_wp2;go_roundg (w.size-z);(case measure=>have:=n.2.2 I;omega);case rel=>exact⟨z,n.2.1,rfl,hs.o.trans m,jt h4 (by omega) ..,tH x _,yq (A.get b (by grind)) (by omega) ..,jW (c.trans A) (by omega) ..⟩}
   ·have m:Z _:=L2 I hx hy;go_wp2_with fail;refine(eF t k u (bA w p) (bY w p) _ _).mono ?_;rintro e w2 ⟨rfl,a⟩;have d:=s.YZ a (by simp);have i:=H.YZ a (by simp);have b:=a.gt V;have c:=l.trans (a.mono (by simp));have⟨K,L,M,N,P,R⟩:=d.cells;go_wp2_with fail;refine(yK t _ (by omega)).mono ?_;rintro e w3 ⟨rfl,rfl⟩;obtain⟨B,C,D,E,F,G⟩:=jE b;have ai:=au b;go_wp2;exact VJ (v:=ia k w ⟨⟨#[]⟩,2,false,p⟩) (by simp[results,results203,go_sem,ia,B,C,D,E,F,G]) rfl
     (by rw[hs.o,m.o];exact⟨rfl,jt i (by omega) _ _ _ _ _ _,jW c (VC _) _ _ _ _ _ _⟩)
  ·(have m:Z _:=L5 I hx;have q:ac=false:=(by grind);subst q;have ag:(u==0)=true:=by grind)
   go_wp2_with fail;refine(eF t k u (bA w p) (bY w p) _ _).mono ?_;rintro e w2 ⟨rfl,a⟩;have b:=a.gt V;have⟨K,L,M,N,P,R⟩:=(s.YZ a (by simp)).cells;obtain⟨B,C,D,E,F,G⟩:=jE b;have ai:=au b;go_wp2;exact VJ (v:=ia k w ⟨t,u,false,p⟩) (by simp[results,results203,go_sem,ia,B,C,D,E,F,G]) rfl
    (by rw[hs.o,m.o];exact⟨rfl,jt (H.YZ a (by simp)) (by omega) ..,jW (l.trans (a.mono (by simp))) (VC _) ..⟩)
theorem xd(hd:w.size<=1024)(hk:T<=w.size)(h:dd y f k w T) :
  aU 154 #[bh f] y λe w'=>e=cM (ia k w (aM w T).1)/\dd w' f k w (aM w T).2/\O [f] y w':=by
 have aq:=ae h;go_enter func154,ntmps154;go_wp2_with fail;refine(zO f T k w _ hd hk (by exact h.YZ (bQ.alloc _) (by simp))).mono ?_;rintro e w1 ⟨rfl,h1,I⟩;have L:w1.heap[y.heap.size]?=some (aJ oq 255):=I.get (VD ..) (by grind);have af:O [f] y w1:=((O.refl ..).alloc _).trans I;have ap:=ae h1;have ao:=ae L;simp[ia];go_wp2;go_loopg [4] (w.size-T) (λg _ wr=>∃j,j<=w.size/\g=w.size-j/\Z (aM w T=aM w j)/\dd wr f k w (cr w j).2/\lQ wr w1.heap.size k w (cr w j).1/\wr.heap[y.heap.size]?=some (aJ oq 255)/\O [f] y wr);{exact⟨T,hk,rfl,rfl,h1.YZ (bQ.alloc _) (by simp),VD ..,(bQ.alloc _).gt L,af.alloc _⟩};have⟨j,hj,hg,hs,h2,H,hr,D⟩:=hrel;have m:=i8 w j hj;have al:=uK w j hd;have L1:Z _:=Nc w j hj;have L2:Z _:=yU w j;have L3:Z _:=vS w j;generalize hrr:cr w j=r at *;have⟨⟨t,u,ac,p⟩,z⟩:=r;simp only at h2 H m al;have⟨q0,q1,q2,q3,q4,q5⟩:=H.cells;cases hw:(u==0 && !ac)
 ·have q:Z _:=L3 (VY hw);go_wp2_with fail;refine(eF t k u (bA w p) (bY w p) _ _).mono ?_;rintro e w2 ⟨rfl,a⟩;have b:=H.YZ a (by simp);have s:=h2.YZ a (by simp);have l:=a.gt hr;have i:=D.trans (a.mono (by simp));have⟨q0,q1,q2,q3,q4,q5⟩:=b.cells;have⟨M,N,P,R,S,V⟩:=jE l;have am:=au l;go_wp2;exact VJ (v:=ia k w ⟨t,u,ac,p⟩) (by simp[results,results154,go_sem,ia,M,N,P,R,S,V]) rfl
   (by rw[hs.o,q.o];exact⟨rfl,jt s (by omega) ..,jW i (VC _) ..⟩)
 ·cases hx:(t.toList == [36,40])
  ·have q:Z _:=L3 (VW hx);go_wp2_with fail;refine(eF t k u (bA w p) (bY w p) _ _).mono ?_;rintro e w2 ⟨rfl,a⟩;have b:=H.YZ a (by simp);have s:=h2.YZ a (by simp);have l:=a.gt hr;have i:=D.trans (a.mono (by simp));have⟨q0,q1,q2,q3,q4,q5⟩:=b.cells;obtain⟨M,N,P,R,S,V⟩:=jE l;have am:=au l;go_wp2;exact VJ (v:=ia k w ⟨t,u,ac,p⟩) (by simp[results,results154,go_sem,ia,M,N,P,R,S,V]) rfl
    (by rw[hs.o,q.o];exact⟨rfl,jt s (by omega) _ _ _ _ _ _,jW i (VC _) _ _ _ _ _ _⟩)
  ·have x:=kK w z m.2.1;have L4:Z _:=λ(h:_)=>L1 hw hx h;have L5:Z _:=λ(h:_)=>L2 hw hx h;generalize hcc:bV w z=c at *;have⟨⟨ct,F,W,cp⟩,cz⟩:=c;have HC:Z (bV w z=(⟨ct,F,W,cp⟩,cz)):=hcc;simp only at x;go_wp2_with fail;refine(eF t k u (bA w p) (bY w p) _ _).mono ?_;rintro e w2 ⟨rfl,a⟩;have b:=H.YZ a (by simp);have⟨q0,q1,q2,q3,q4,q5⟩:=b.cells;go_wp2_with fail;refine(Gz f z k w _ hd m.2.1 (h2.YZ a (by simp))).mono ?_;rintro e w3 ⟨rfl,h3,B⟩;have ai:=B.get (a.gt hr) (by grind);have K:=(D.trans (a.mono (by simp))).trans B;simp only[ia];rw[HC.o];simp only;go_wp2_with fail;refine(eF ct k F (bA w cp) (bY w cp) _ _).mono ?_;rintro e w4 ⟨rfl,d⟩;have ag:lQ w4 w3.heap.size k w ⟨ct,F,W,cp⟩:=d.gt (VD _ _);have ad:=((b.YZ B (by grind)).YZ (bQ.alloc _) (by simp)).YZ d (by simp);have h4:=(h3.YZ (bQ.alloc _) (by simp)).YZ d (by simp);have E:=d.get ((bQ.alloc _).gt ai) (by simp);have n:=(K.alloc _).trans (d.mono (by simp));rw[HC.o]at h4;simp only at h4;have⟨p0,p1,p2,p3,p4,p5⟩:=ag.cells;cases G:(F==0 && !W)
   ·have q:Z _:=L5 G;have⟨M,N,P,R,S,V⟩:=jE E;have am:=au E;go_wp2;exact VJ (v:=ia k w ⟨ct,F,W,cp⟩) (by simp[results,results154,go_sem,ia,M,N,P,R,S,V]) rfl
     (by rw[hs.o,q.o];exact⟨rfl,jt h4 (by omega) ..,jW n (VC _) ..⟩)
   {have q:Z _:=L4 G;go_wp2_with fail;refine(zO f cz k w _ hd x.2 h4).mono ?_;rintro e w5 ⟨rfl,h5,C⟩;have A:=ad.YZ C (by grind);have yy:=au A;have⟨q0,q1,q2,q3,q4,q5⟩:=A.cells;simp[ia];go_wp2;go_roundg (w.size-cz);(case measure=>have:=m.2.2 hw;omega);case rel=>exact⟨cz,x.2,rfl,hs.o.trans q,jt h5 (by omega) ..,tH A _,yq (C.get E (by grind)) (by omega) ..,jW (n.trans C) (by omega) ..⟩}
structure Pl where
  Y6:Vx
  Y7:Int
  Y8:Int
structure St where
  Y1:Int
  Y2:Vx
  YH:Vy
  YS:List (Vx×Pl)
  Y5:Pl
  til:Nat
structure Db where
  YP:Vy
  YJ:Vy
  YK:Vy
  YQ:Vy
  YT:Vy
  Y3:List (Nat×Nat)
  YY:List St
  rbl:VB
  Y1:Int
  Y2:Vx
  YH:Vy
  YL:Bool
  YS:List (Vx×Pl)
def dA(l:Vy):List Value:=l.map string
def pairs(l:List (Nat×Nat)):List Value:=l.flatMap (λp=>[J p.1,J p.2])
def fC(l:VB):List Value:=l.map (λ(n:Nat)=>J n)
def vu(p:Vx×Pl):List Value:=[Y p.1,Y p.2.Y6,J p.2.Y7,J p.2.Y8]
def yF(l:List (Vx×Pl)):List Value:=l.flatMap vu
def Qj(s:St)(a b:U):List Value :=
  [J s.Y1,Y s.Y2,Q a.ao s.YH.length a.cap,Q b.ao s.YS.length b.cap,Y s.Y5.Y6,J s.Y5.Y7,J s.Y5.Y8,J s.til]
def oY(l:List St)(H:Nat->U):List Value:=l.zipIdx.flatMap (λp=>Qj p.1 (H (10+2*p.2)) (H (11+2*p.2)))
def aG(l:Vy):eR:=⟨9,1,l.length,dA l⟩
def rh(l:List (Nat×Nat)):eR:=⟨337,2,l.length,pairs l⟩
def bZ(l:VB):eR:=⟨3,1,l.length,fC l⟩
def lh(l:List (Vx×Pl)):eR:=⟨229,4,l.length,yF l⟩
def ld(l:List St)(H:Nat->U):eR:=⟨158,8,l.length,oY l H⟩
def symsAt(l:List St)(i:Nat):Vy:=match l[i]? with | some s=>s.YH | none=>[]
def yV(l:List St)(i:Nat):List (Vx×Pl):=match l[i]? with | some s=>s.YS | none=>[]
def inner(l:List St)(n:Nat):eR:=if n % 2=0 then aG (symsAt l (n / 2)) else lh (yV l (n / 2))
def bH(d:Db)(H:Nat->U):Nat->eR
  | 0=>aG d.YP
  | 1=>aG d.YJ
  | 2=>aG d.YK
  | 3=>aG d.YQ
  | 4=>aG d.YT
  | 5=>rh d.Y3
  | 6=>ld d.YY H
  | 7=>bZ d.rbl
  | 8=>aG d.YH
  | 9=>lh d.YS
  | n+10=>inner d.YY n
def dF(d:Db)(H:Nat->U):List Value :=
  [Q (H 0).ao d.YP.length (H 0).cap,Q (H 1).ao d.YJ.length (H 1).cap,Q (H 2).ao d.YK.length (H 2).cap,Q (H 3).ao d.YQ.length (H 3).cap,
   Q (H 4).ao d.YT.length (H 4).cap,Q (H 5).ao d.Y3.length (H 5).cap,Q (H 6).ao d.YY.length (H 6).cap,Q (H 7).ao d.rbl.length (H 7).cap,
   J d.Y1,Y d.Y2,Q (H 8).ao d.YH.length (H 8).cap,bool d.YL,Q (H 9).ao d.YS.length (H 9).cap]
def g7{α:Type}(H:Nat->α)(i:Nat)(h:α):Nat->α:=λj=>if j=i then h else H j
theorem eC{α:Type}(H:Nat->α)(i:Nat)(h:α):g7 H i h i=h:=by simp[g7]
theorem dc{α:Type}(H:Nat->α)(i j:Nat)(h:α)(a:j≠i):g7 H i h j=H j:=by simp[g7,a]
theorem UL{α:Type}(H:Nat->α)(i:Nat):g7 H i (H i)=H:=by grind [g7]
theorem Cb(l:List St)(H a:Nat->U)(h:∀j,10<=j->a j=H j):oY l a=oY l H:=by grind [oY]
theorem Ug(d:Db)(H:Nat->U)(i:Nat)(h:U)(a:i<10)(j:Nat):bH d (g7 H i h) j=bH d H j:=by (have e:oY d.YY (g7 H i h)=oY d.YY H:=by grind [Cb,dc]);unfold bH;grind [ld]
def eU(H:Nat->U)(k:Nat):Prop:=∃i,(H i).Y0=some k
structure fw(P:Nat->Prop)(w w':World):Prop where
  os:w'.os=w.os
  tape:w'.tape=w.tape
  output:w'.output=w.output
  size:w.heap.size<=w'.heap.size
  block:∀k,k<w.heap.size->¬P k->w'.heap[k]?=w.heap[k]?
theorem fw.refl(P:Nat->Prop)(w:World):fw P w w:=⟨rfl,rfl,rfl,VC _,λ_ _ _=>rfl⟩
theorem O.toP(h:O z6 H v){P:Nat->Prop}(b:∀k,k∈z6->k<H.heap.size->P k):fw P H v :=
  ⟨h.os,h.tape,h.output,h.size,λk a c=>h.block k a (by grind)⟩
theorem fw.get(h:fw N H v)(a:H.heap[l]?=some y6)(b:¬N l):v.heap[l]?=some y6:=(h.block l (ae a) b).trans a
theorem fw.YM{a:World}(h:fw N a H)(k:aI H v):fw N a v :=
  ⟨k.os.trans h.os,k.tape.trans h.tape,k.output.trans h.output,VK h.size k.size,λi b c=>(k.block i (VG b h.size) (by simp)).trans (h.block i b c)⟩
theorem fw.setCell(h:fw N H v){p:Addr}(c:N p.block∨H.heap.size<=p.block)(u:Value):fw N H (v.setCell p u) :=
  ⟨h.os,h.tape,h.output,by have:=h.size;simp_all,λk a b=>by
    rw[VN _ _ _ _ (by grind)];exact h.block k a b⟩
structure bu(w:World)(b t:Nat)(pre post:List Value)(d:Db)(H:Nat->U):Prop where
  Y0:w.heap[b]?=some (aJ (pre++(dF d H++post)).toArray t)
  Za:∀i,aK w (H i) (bH d H i)
  apart:∀i j,i≠j->(H i).Y0=none∨(H i).Y0≠(H j).Y0
  off:∀i,(H i).Y0≠some b
theorem fw.sr1(h:fw N H v)(b:H.heap.size<=l)(a:Value):fw N H (v.setCell (X l d) a):=h.setCell (VW b) a
theorem bu.lt{a:Db}(h:bu H l d o D a n):l<H.heap.size:=ae h.Y0
theorem bu.free{a:Db}(h:bu H l d o D a n)(i:Nat):H.frozen? (X l i)=false:=au h.Y0 i
theorem bu.inlt{a:Db}(h:bu H l d o D a n)(c:eU n zf):zf<H.heap.size:=by have⟨i,b⟩:=c;exact(h.Za i).lt b
theorem bu.keptP{b:Db}(h:bu H l d o D b n)(c:fw N H v)(e:¬N l)(f:∀k,eU n k->¬N k):bu v l d o D b n :=
  ⟨c.get h.Y0 e,λi=>(h.Za i).YR (λk a=>c.block k ((h.Za i).lt a) (f k ⟨i,a⟩)),h.apart,h.off⟩
theorem bu.YZ{a:Db}(h:bu H l d o D a n)(c:O z6 H v)(b:l∉z6)(f:∀k,eU n k->k∉z6):bu v l d o D a n :=
  h.keptP (c.toP (P:=(·∈z6)) (λ_ e _=>e)) b f
theorem bu.YM{a:Db}(h:bu H l d o D a n)(b:aI H v):bu v l d o D a n:=h.YZ b (by simp) (by simp)
theorem Na(c:y4.length=T)(a:b<y3.length):(y4++(y3++y7)).toArray[T+b]?=y3[b]?:=by grind
theorem Nb(u:Value)(c:y4.length=T)(a:b<y3.length):(y4++(y3++y7)).set (T+b) u=y4++(y3.set b u++y7):=by grind
theorem bu.cellAt{b:Db}(h:bu H l d o D b n)(a:Nat)(e:o.length=a)(i:Nat)(c:i<13):H.cell? (X l (a+i))=(dF b n)[i]? :=
  (aC h.Y0 (a+i)).trans (Na o (dF b n) D a i e c)
theorem bu.cells{b:Db}(h:bu H l d o D b n)(a:Nat)(c:o.length=a) :
    aP H l a (Q (n 0).ao b.YP.length (n 0).cap)/\aP H l (a+1) (Q (n 1).ao b.YJ.length (n 1).cap) /\
    aP H l (a+2) (Q (n 2).ao b.YK.length (n 2).cap)/\aP H l (a+3) (Q (n 3).ao b.YQ.length (n 3).cap) /\
    aP H l (a+4) (Q (n 4).ao b.YT.length (n 4).cap)/\aP H l (a+5) (Q (n 5).ao b.Y3.length (n 5).cap) /\
    aP H l (a+6) (Q (n 6).ao b.YY.length (n 6).cap)/\aP H l (a+7) (Q (n 7).ao b.rbl.length (n 7).cap) /\
    aP H l (a+8) (J b.Y1)/\aP H l (a+9) (Y b.Y2)/\aP H l (a+10) (Q (n 8).ao b.YH.length (n 8).cap) /\
    aP H l (a+11) (bool b.YL)/\aP H l (a+12) (Q (n 9).ao b.YS.length (n 9).cap):=by have m:=h.cellAt a c;exact⟨m 0 (by omega),m 1 (by omega),m 2 (by omega),m 3 (by omega),m 4 (by omega),m 5 (by omega),m 6 (by omega),m 7 (by omega),m 8 (by omega),m 9 (by omega),m 10 (by omega),m 11 (by omega),m 12 (by omega)⟩
def aA(b:Nat)(w:World)(H:Nat->U)(w':World)(H':Nat->U):Prop :=
  fw (λk=>k=b∨eU H k) w w'/\∀k,eU H' k->eU H k∨w.heap.size<=k
theorem aA.refl(H:Nat->U):aA T y H y H:=⟨fw.refl ..,λ_ a=>VY a⟩
theorem aA.trans{w1:World}{d:Nat->U}(a:aA l H n w1 y2)(c:aA l w1 y2 v d):aA l H n v d:=by refine⟨⟨c.1.os.trans a.1.os,c.1.tape.trans a.1.tape,c.1.output.trans a.1.output,VK a.1.size c.1.size,?_⟩,?_⟩;{intro k b g;rw[<-a.1.block k b g];refine c.1.block k (VG b a.1.size) ?_;rintro (e | f);{omega};{rcases a.2 k f with h | h;{grind};{omega}}};{intro k b;rcases c.2 k b with h | h;{exact a.2 k h};{exact VW (VK a.1.size h)}}
theorem aA.YM(a:aA l H n v y2)(c:aI v y5):aA l H n y5 y2 :=
  a.trans ⟨c.toP (by simp),by grind⟩
theorem aA.first(c:aI H v)(a:aA l v n y5 y2):aA l H n y5 y2 :=
  aA.trans ⟨c.toP (by simp),by grind⟩ a
theorem bu.putG{y d':Db}(h:bu H l d o D y n)(A c:Nat)(N:o.length=A)(i:Nat)(K:i<10)(f:U)(P:aK v f (bH d' n i))(m:H.grownBy v (n i).Y0)(b:f.Y0=none∨f.Y0=(n i).Y0∨∃g,f.Y0=some g/\H.heap.size<=g)(w:∀j,j≠i->aK H (n j) (bH d' n j))(u:Value)(I:c<13)(L:(dF y n).set c u=dF d' (g7 n i f)) :
    bu (v.setCell (X l (A+c)) u) l d o D d' (g7 n i f)/\aA l H n (v.setCell (X l (A+c)) u) (g7 n i f):=by (have G:=h.lt;have B:v.heap[l]?=some (aJ (o++(dF y n++D)).toArray d):=(m.block l G (λe=>h.off i e.symm)).trans h.Y0;have t:∀j,(g7 n i f j).Y0≠some l:=by intro j;by_cases e:j=i;{subst e;rw[eC];intro C;rcases b with b | b | ⟨g,b,p⟩;{grind};{exact h.off j (b ▸ C)};grind};{rw[dc _ _ _ _ e];exact h.off j});refine⟨⟨?_,?_,?_,t⟩,⟨m.os,m.tape,m.output,by have:=m.size;simp_all,?_⟩,?_⟩;{rw[ab B,Wd,Nb o (dF y n) D A c u N I,L]};{intro j;(have q:aK v (g7 n i f j) (bH d' (g7 n i f) j):=by rw[Ug d' n i f K j];by_cases e:j=i;{subst e;rwa [eC]};{rw[dc _ _ _ _ e];refine(w j e).YR (λk s=>m.block k ((h.Za j).lt s) ?_);intro z;rcases h.apart j i e with a | a;{grind};grind});refine q.YR (λk s=>VN _ _ _ _ ?_);grind};{intro j x r;by_cases e:j=i;{subst e;rw[eC,dc _ _ _ _ (by omega)];rcases b with b | b | ⟨g,b,p⟩;{grind};{rw[b];exact h.apart j x r};{right;rw[b];intro z;have:=(h.Za x).lt z.symm;omega}};{rw[dc _ _ _ _ e];by_cases E:x=i;{subst E;rw[eC];rcases b with b | b | ⟨g,b,p⟩;{grind};{rw[b];exact h.apart j x r};{cases C:(n j).Y0 with|none=>simp|some k=>right;rw[b];intro z;cases z;have:=(h.Za j).lt C;omega}};{rw[dc _ _ _ _ E];exact h.apart j x r}}};{intro k s M;rw[VN _ _ _ _ (by grind)];exact m.block k s (λe=>M (VW ⟨i,e.symm⟩))};{intro k s;have⟨j,e⟩:=s;by_cases F:j=i;{subst F;rw[eC]at e;rcases b with b | b | ⟨g,b,p⟩;{grind};{exact VY ⟨j,b ▸ e⟩};grind};{rw[dc _ _ _ _ F]at e;exact VY ⟨j,e⟩}}
theorem bu.put{f d':Db}(h:bu H l d o D f n)(e c:Nat)(t:o.length=e)(i:Nat)(q:i<10)(a:U)(w:aK v a (bH d' n i))(p:H.grownBy v (n i).Y0)(m:a.Y0=none∨a.Y0=(n i).Y0∨∃g,a.Y0=some g/\H.heap.size<=g)(b:∀j,j≠i->bH d' n j=bH f n j)(u:Value)(k:c<13)(s:(dF f n).set c u=dF d' (g7 n i a)) :
    bu (v.setCell (X l (e+c)) u) l d o D d' (g7 n i a)/\aA l H n (v.setCell (X l (e+c)) u) (g7 n i a) :=
  h.putG e c t i q a w p m (λj r=>by rw[b j r];exact h.Za j) u k s
theorem bu.set{b d':Db}(h:bu H l d o D b n)(e c:Nat)(m:o.length=e)(a:∀j,bH d' n j=bH b n j)(u:Value)(f:c<13)(i:(dF b n).set c u=dF d' n) :
    bu (H.setCell (X l (e+c)) u) l d o D d' n/\aA l H n (H.setCell (X l (e+c)) u) n:=by refine⟨⟨?_,?_,h.apart,h.off⟩,(fw.refl ..).setCell (by simp) _,by grind⟩;{rw[ab h.Y0,Wd,Nb o (dF b n) D e c u m f,i]};{intro j;rw[a j];refine(h.Za j).YR (λk g=>VN _ _ _ _ ?_);rintro rfl;exact h.off j g}
theorem bu.app{q d':Db}(h:bu H l d o D q n)(f c:Nat)(z:o.length=f)(i:Nat)(x:i<10)(g a m:Nat)(r:eR)(s:aK v ⟨some (aE g),a⟩ r)(A:r=bH d' n i)(k:H.grownBy v (n i).Y0)(b:(n i).Y0=some g∨H.heap.size<=g)(p:∀j,j≠i->bH d' n j=bH q n j)(w:c<13)(u:Value)(B:(dF q n)[c]?=some u)(y:(dF q n).set c (Q (some (aE g)) m a)=dF d' (g7 n i ⟨some (aE g),a⟩)) :
    aP v l (f+c) u/\v.frozen? (X l (f+c))=false /\
    Z (bu (v.setCell (X l (f+c)) (Q (some (aE g)) m a)) l d o D d' (g7 n i ⟨some (aE g),a⟩) /\
      aA l H n (v.setCell (X l (f+c)) (Q (some (aE g)) m a)) (g7 n i ⟨some (aE g),a⟩)):=by
  have t:=(k.block l h.lt (λe=>h.off i e.symm)).trans h.Y0;subst A;refine⟨((aC t (f+c)).trans (by grind)).trans B,au t _,?_⟩;exact h.put (d':=d') f c z i x ⟨some (aE g),a⟩ s k
    (by rcases b with e | e
        · exact VW (VY e.symm)
        · exact VW (VW ⟨g,rfl,by omega⟩)) p _ w y
theorem IV(d:Db)(H:Nat->U)(l:Vy):∀j,j≠0->bH { d with YP:=l } H j=bH d H j:=by
  intro j a
  match j with
  | 0=>omega
  | 1=>rfl
  | 2=>rfl
  | 3=>rfl
  | 4=>rfl
  | 5=>rfl
  | 6=>rfl
  | 7=>rfl
  | 8=>rfl
  | 9=>rfl
  | n+10=>rfl
theorem Bz(d:Db)(H:Nat->U)(l:Vy):∀j,j≠1->bH { d with YJ:=l } H j=bH d H j:=by
  intro j a
  match j with
  | 0=>rfl
  | 1=>omega
  | 2=>rfl
  | 3=>rfl
  | 4=>rfl
  | 5=>rfl
  | 6=>rfl
  | 7=>rfl
  | 8=>rfl
  | 9=>rfl
  | n+10=>rfl
theorem BD(d:Db)(H:Nat->U)(l:Vy):∀j,j≠2->bH { d with YK:=l } H j=bH d H j:=by
  intro j a
  match j with
  | 0=>rfl
  | 1=>rfl
  | 2=>omega
  | 3=>rfl
  | 4=>rfl
  | 5=>rfl
  | 6=>rfl
  | 7=>rfl
  | 8=>rfl
  | 9=>rfl
  | n+10=>rfl
theorem yZ(d:Db)(H:Nat->U)(l:Vy):∀j,j≠3->bH { d with YQ:=l } H j=bH d H j:=by
  intro j a
  match j with
  | 0=>rfl
  | 1=>rfl
  | 2=>rfl
  | 3=>omega
  | 4=>rfl
  | 5=>rfl
  | 6=>rfl
  | 7=>rfl
  | 8=>rfl
  | 9=>rfl
  | n+10=>rfl
theorem BC(d:Db)(H:Nat->U)(l:Vy):∀j,j≠4->bH { d with YT:=l } H j=bH d H j:=by
  intro j a
  match j with
  | 0=>rfl
  | 1=>rfl
  | 2=>rfl
  | 3=>rfl
  | 4=>omega
  | 5=>rfl
  | 6=>rfl
  | 7=>rfl
  | 8=>rfl
  | 9=>rfl
  | n+10=>rfl
theorem za(d:Db)(H:Nat->U)(l:List (Nat×Nat)):∀j,j≠5->bH { d with Y3:=l } H j=bH d H j:=by
  intro j a
  match j with
  | 0=>rfl
  | 1=>rfl
  | 2=>rfl
  | 3=>rfl
  | 4=>rfl
  | 5=>omega
  | 6=>rfl
  | 7=>rfl
  | 8=>rfl
  | 9=>rfl
  | n+10=>rfl
theorem IW(d:Db)(H:Nat->U)(l:VB):∀j,j≠7->bH { d with rbl:=l } H j=bH d H j:=by
  intro j a
  match j with
  | 0=>rfl
  | 1=>rfl
  | 2=>rfl
  | 3=>rfl
  | 4=>rfl
  | 5=>rfl
  | 6=>rfl
  | 7=>omega
  | 8=>rfl
  | 9=>rfl
  | n+10=>rfl
theorem xp(d:Db)(H:Nat->U)(l:Vy):∀j,j≠8->bH { d with YH:=l } H j=bH d H j:=by
  intro j a
  match j with
  | 0=>rfl
  | 1=>rfl
  | 2=>rfl
  | 3=>rfl
  | 4=>rfl
  | 5=>rfl
  | 6=>rfl
  | 7=>rfl
  | 8=>omega
  | 9=>rfl
  | n+10=>rfl
theorem BB(d:Db)(H:Nat->U)(l:List (Vx×Pl)):∀j,j≠9->bH { d with YS:=l } H j=bH d H j:=by
  intro j a
  match j with
  | 0=>rfl
  | 1=>rfl
  | 2=>rfl
  | 3=>rfl
  | 4=>rfl
  | 5=>rfl
  | 6=>rfl
  | 7=>rfl
  | 8=>rfl
  | 9=>omega
  | n+10=>rfl
theorem Qb(d:Db)(H:Nat->U)(l:Int):∀j,bH { d with Y1:=l } H j=bH d H j:=by intro j;rfl
theorem Lq(d:Db)(H:Nat->U)(l:Vx):∀j,bH { d with Y2:=l } H j=bH d H j:=by intro j;rfl
theorem FD(d:Db)(H:Nat->U)(l:Bool):∀j,bH { d with YL:=l } H j=bH d H j:=by intro j;rfl
def bb(l:Vy)(x:Vx):Bool:=l.any (λy=>y.toList==x.toList)
theorem MV(h:b<S.length)(c:bb S w=bb (S.drop b) w)(a:((S[b]).toList==w.toList)=true):bb S w=true:=by grind [bb]
theorem Hg(h:b<S.length)(a:bb S w=bb (S.drop b) w)(c:((S[b]).toList==w.toList)=false):bb S w=bb (S.drop (b+1)) w:=by rw[a,V6 h];grind [bb]
theorem Hh(h:¬b<S.length)(a:bb S w=bb (S.drop b) w):bb S w=false:=by rw[a,Ws (by omega)];rfl
theorem qt(h:b<S.length):(dA S)[b]?=some (Y S[b]):=by simp[dA,h]
set_option maxRecDepth 512
theorem fZ(m:aK y I (aG S))(x:S.length<=1073741824) :
  aU 252 #[Q I.ao S.length I.cap,Y w] y (iw (bool (bb S w)) y):=by have⟨r,n⟩:=I;rcases m.YX with ⟨c,q,_⟩ | ⟨g,p,j,_⟩;{have d:S.length=0:=q;have e:=Wa d;subst e;injection c with c t;subst c;go_enter func252,ntmps252;go_wp2;refine WS 1 ?_;rw[Xp];go_wp2;go_ret;exact⟨rfl,rfl⟩};{simp only at j;subst j;go_enter func252,ntmps252;go_wp2;go_loopg [5] S.length (λg i wr=>∃k:Nat,k<=S.length/\g=S.length-k/\i=J k/\Z (bb S w=bb (S.drop k) w)/\wr=y);{exact⟨0,by omega,by omega,rfl,rfl,rfl⟩};obtain⟨k,v,u,rfl,f,rfl⟩:=hrel;by_cases a:k<S.length;{have s:=m.cell rfl k (Y S[k]) (qt S k a);cases l:((S[k]).toList==w.toList);{have b:Z _:=Hg S w k a f l;go_wp2;go_roundg (S.length-(k+1));{grind};omega};{have b:Z _:=MV S w k a f l;go_wp2;go_ret;exact⟨aN b.o.symm,rfl⟩}};{have b:Z _:=Hh S w k a f;go_wp2;go_ret;exact⟨aN b.o.symm,rfl⟩}}
theorem iV:(prog.info? 9).map (λi=>(i.zero,i.size,i.bytes))=some (some (bN),1,16):=by kernel_rfl
theorem Qv:dA (S++[w])=dA S++[Y w]:=by simp[dA]
theorem dq:(⟨(aG S).e,(aG S).size,(aG S).n+1,(aG S).xs++[Y w]⟩:eR)=aG (S++[w]):=by simp[aG,Qv]
set_option maxRecDepth 100000
theorem Et(d:Db)(H:Nat->U)(c:Vx)(w:World)(h:bu w f T x i d H)(y:x.length=b)(L:d.YP.length<=1073741824) :
  aU 263 #[pointer (some (X f b)),Y c] w λe A=>e=cM (tuple #[])/\∃t,bu A f T x i { d with YP:=d.YP++[c] } t/\aA f w H A t:=by have⟨E,D,q,r,s⟩:=VT iV;have⟨M,N,P,R,S,V,W,q7,q8,q9,G,I,K⟩:=h.cells b y;have v:=h.YM ((O.refl [] w).alloc (aJ #[Y c] 9));go_enter func263,ntmps263;go_wp2_with (at_builtin;refine a9 _ rfl (.tmp 8) (.tmp 10) 61 rfl E (bN) 16 (H 0) (aG d.YP) underlying61 D q r s rfl VP rfl (v.Za 0) (aE w.heap.size) 1 1 [Y c] rfl rfl ?c1 ?c2 VP ?c3 ?c4 ?_);(case c1=>intro j u l;match j,l with | 0,l=>simp at l;subst l;simp[Addr.add]);(case c2=>intro u z;simp at z;subst z;rfl);(case c3=>simp[aG];unfold maxLen;omega);(case c4=>simp[aG];omega);{intro g k w1 p o a;have⟨F,C,m⟩:=v.app (d':={ d with YP:=d.YP++[c] }) b 0 y 0 (by omega) g k ((aG d.YP).n+1) _ p (dq d.YP c) o (by simpa using a) (IV d H _) (by omega) _ rfl (by simp[dF,g7,aG]);simp[Nat.add_zero]at F C m;go_wp2;go_end0;exact⟨rfl,_,m.1,m.2.first ((O.refl [] w).alloc _)⟩}
theorem Eu(d:Db)(H:Nat->U)(c:Vx)(w:World)(h:bu w f T x i d H)(y:x.length=b)(K:d.YT.length<=1073741824) :
  aU 266 #[pointer (some (X f b)),Y c] w λe A=>e=cM (tuple #[])/\∃s,bu A f T x i { d with YT:=d.YT++[c] } s/\aA f w H A s:=by have⟨D,C,p,q,r⟩:=VT iV;have⟨M,N,P,R,S,V,W,q7,q8,q9,E,F,G⟩:=h.cells b y;have v:=h.YM ((O.refl [] w).alloc (aJ #[Y c] 9));go_enter func266,ntmps266;go_wp2_with (at_builtin;refine a9 _ rfl (.tmp 8) (.tmp 10) 61 rfl D (bN) 16 (H 4) (aG d.YT) underlying61 C p q r rfl VP rfl (v.Za 4) (aE w.heap.size) 1 1 [Y c] rfl rfl ?c1 ?c2 VP ?c3 ?c4 ?_);(case c1=>intro j u l;match j,l with | 0,l=>simp at l;subst l;simp[Addr.add]);(case c2=>intro u z;simp at z;subst z;rfl);(case c3=>simp[aG];unfold maxLen;omega);(case c4=>simp[aG];omega);{intro g k w1 o m a;have⟨L,I,t⟩:=v.app (d':={ d with YT:=d.YT++[c] }) b 4 y 4 (by omega) g k ((aG d.YT).n+1) _ o (dq d.YT c) m (by simpa using a) (BC d H _) (by omega) _ rfl (by simp[dF,g7,aG]);(skip);go_wp2;go_end0;exact⟨rfl,_,t.1,t.2.first ((O.refl [] w).alloc _)⟩}
structure ip(d:Db)(N:Nat):Prop where
 YP:d.YP.length<=N
 YJ:d.YJ.length<=N
 YK:d.YK.length<=N
 YQ:d.YQ.length<=N
 YT:d.YT.length<=N
 Y3:d.Y3.length<=N
 YY:d.YY.length<=N
 rbl:d.rbl.length<=N
 YH:d.YH.length<=N
 YS:d.YS.length<=N
theorem uI:(⟨(aG L).e,(aG L).size,(aG L).n+S.length,(aG L).xs++dA S⟩:eR)=aG (L++S):=by simp[aG,dA]
theorem mG:∀u∈dA S,u.oneCell'=true:=by intro u a;simp[dA,List.mem_map]at a;obtain⟨x,_,rfl⟩:=a;rfl
theorem xF(d:Db)(H:Nat->U)(w:World)(h:bu w f T x i d H)(A:x.length=b)(L:0<d.YH.length)(B:ip d 100000000) :
  aU 264 #[pointer (some (X f b)),Q (H 8).ao d.YH.length (H 8).cap] w λe C=>e=cM (tuple #[])/\∃s,bu C f T x i { d with YJ:=d.YJ++d.YH } s/\aA f w H C s:=by have⟨M,F,p,q,r⟩:=VT iV;have⟨W,q1,q2,q3,q4,q5,q6,q7,q8,q9,N,P,R⟩:=h.cells b A;have l:=h.Za 8;have I:=B.YJ;have K:=B.YH;rcases l.YX with ⟨_,E,_⟩ | ⟨z,v,y,_⟩;{have:d.YH.length=0:=E;omega};{(rw[y];have k:Z (∀j u,(dA d.YH)[j]?=some u->w.cell? (((aE z):Addr).add j)=some u):=λj u G=>by rw[bO];exact l.cell y j u G);go_enter func264,ntmps264;go_wp2_with (at_builtin;refine a9 _ rfl (.tmp 8) (.tmp 9) 61 rfl M (bN) 16 (H 1) (aG d.YJ) underlying61 F p q r rfl VP rfl (h.Za 1) (aE z) d.YH.length (H 8).cap (dA d.YH) rfl ?c0 k (mG _) L ?c3 ?c4 ?_);(case c0=>simp[dA,aG]);(case c3=>simp[aG];unfold maxLen;omega);(case c4=>simp[aG];omega);{intro g c w1 o m a;have⟨V,S,t⟩:=h.app (d':={ d with YJ:=d.YJ++d.YH }) b 1 A 1 (by omega) g c ((aG d.YJ).n+d.YH.length) _ o (uI d.YJ d.YH) m a (Bz d H _) (by omega) _ rfl (by simp[dF,g7,aG]);go_wp2;go_end0;exact⟨rfl,_,t.1,t.2⟩}}
def dQ(v l:Vy):Vy:=l.foldl (λv x=>if bb v x=true then v else v++[x]) v
def fD(d:Db)(k:Nat):Db:={ d with YQ:=d.YQ++d.YH,YK:=dQ d.YK (d.YH.take k) }
theorem QD:dQ L (S++[w])=if bb (dQ L S) w=true then dQ L S else dQ L S++[w]:=by grind [dQ]
theorem Js(v l:Vy):(dQ v l).length<=v.length+l.length:=by induction l generalizing v with|nil=>simp[dQ]|cons x l a=>(have:=a (if bb v x=true then v else v++[x]);have e:dQ v (x :: l)=dQ (if bb v x=true then v else v++[x]) l:=rfl;rw[e];have b:(if bb v x=true then v else v++[x]).length<=v.length+1:=by split <;> simp);simp[List.length_cons];omega
theorem nJ{α:Type}(l:List α)(k:Nat)(h:k<l.length):l.take (k+1)=l.take k++[l[k]]:=by simp
theorem xG(d:Db)(H:Nat->U)(w:World)(h:bu w f T x i d H)(F:x.length=b)(hm:0<d.YH.length)(hs:ip d 100000000) :
  aU 265 #[pointer (some (X f b)),Q (H 8).ao d.YH.length (H 8).cap] w λe w'=>e=cM (tuple #[])/\∃H',bu w' f T x i (fD d d.YH.length) H'/\aA f w H w' H':=by have⟨i0,hi,I,K,L⟩:=VT iV;have⟨M,N,q2,P,R,S,V,W,q8,q9,v,y,z⟩:=h.cells b F;have A:=h.Za 3;have o:=h.Za 8;have ai:=hs.YQ;have al:=hs.YH;have am:=hs.YK;rcases o.YX with ⟨_,h0,_⟩ | ⟨g8,ad,e8,_⟩;{have:d.YH.length=0:=h0;omega};{(rw[e8];have B:Z (∀j u,(dA d.YH)[j]?=some u->w.cell? (((aE g8):Addr).add j)=some u):=λj u hj=>by rw[bO];exact o.cell e8 j u hj);clear o;go_enter func265,ntmps265;go_wp2_with (at_builtin;refine a9 _ rfl (.tmp 9) (.tmp 10) 61 rfl i0 (bN) 16 (H 3) (aG d.YQ) underlying61 hi I K L rfl VP rfl A (aE g8) d.YH.length (H 8).cap (dA d.YH) rfl ?c0 B (mG _) hm ?c3 ?c4 ?_);(case c0=>simp[dA,aG]);(case c3=>simp[aG];unfold maxLen;omega);(case c4=>simp[aG];omega);{intro g q w1 s r a;have⟨k0,f0,C⟩:=h.app (d':=fD d 0) b 3 F 3 (by omega) g q ((aG d.YQ).n+d.YH.length) _ s (uI d.YQ d.YH) r a (yZ d H _) (by omega) _ rfl (by simp[dF,g7,aG,fD,dQ]);clear A M N q2 P R S V W q8 q9 v y z s r a B;go_wp2;go_loopg [4] d.YH.length (λg ap wr=>∃(k:Nat) (m:Nat->U),k<=d.YH.length/\g=d.YH.length-k/\ap=J k/\m 8=H 8/\bu wr f T x i (fD d k) m/\aA f w H wr m);{exact⟨0,_,by omega,by omega,rfl,by rfl,C.1,C.2⟩};obtain⟨k,m,hk,hg,rfl,h8,D,ac⟩:=hrel;clear C k0 f0;by_cases E:k<d.YH.length;{(have⟨M,N,q2,P,R,S,V,W,q8,q9,v,y,z⟩:=D.cells b F;have o:aK wr (H 8) (aG d.YH):=(by have:=D.Za 8;rw[h8]at this;exact this);have c1:=o.cell e8 k (Y d.YH[k]) (qt d.YH k E);have G:(fD d k).YK.length<=1073741824:=by have:=Js d.YK (d.YH.take k);simp[List.length_take]at this;(show(dQ d.YK (d.YH.take k)).length<=_);omega);(have HS:Z (fD d (k+1)=if bb (fD d k).YK d.YH[k]=true then fD d k else { fD d k with YK:=(fD d k).YK++[d.YH[k]] }):=by show fD d (k+1)=_;unfold fD;rw[nJ d.YH k E,QD];simp only;split <;> rfl);generalize fD d k=c at *;generalize d.YH[k]=l at *;clear M N P R S V W q8 q9 v y z o;cases hb:bb c.YK l;{have HT:Z (fD d (k+1)={ c with YK:=c.YK++[l] }):=(by show fD d (k+1)=_;rw[HS.o];simp[hb]);clear HS;go_wp2_with fail;go_quiet ((go_at_call 252;exact VU (fZ (m 2) c.YK l _ (D.YM (bQ.drewN _) |>.Za 2) G)));have⟨p,t⟩:∃p,p=wr.drewN nq:=⟨_,rfl⟩;(rw[<-t];have D2:bu p f T x i c m:=by rw[t];exact D.YM (bQ.drewN _));(have T2:aA f w H p m:=(by rw[t];exact ac.YM (bQ.drewN _));have af:aP p g8 k (Y l):=(by rwa [t]);clear t c1 D ac q2;have⟨M,N,q2,P,R,S,V,W,q8,q9,v,y,z⟩:=D2.cells b F;have ag:=D2.lt;clear M N P R S V W q8 q9 v y z;have hD:Z (bu (p.alloc (aJ #[Y l] 9)).drew f T x i c m):=D2.YM ((O.refl [] p).alloc _).drew;have s2:Z (∀j u,([Y l]:List Value)[j]?=some u->(p.alloc (aJ #[Y l] 9)).drew.cell? (((aE p.heap.size):Addr).add j)=some u):=by intro j u hj;have hk:(p.alloc (aJ #[Y l] 9)).drew.heap[p.heap.size]?=some (aJ #[Y l] 9):=VD p _;rw[bO,aC hk];simpa using hj);have s3:Z (∀u∈([Y l]:List Value),u.oneCell'=true):=(by intro u hu;simp at hu;subst hu;rfl);have s4:Z ((aG c.YK).n+1<=maxLen):=(by show _<=_;simp[aG];unfold maxLen;omega);have s5:Z (((aG c.YK).n+1)*16<=140737488355328):=(by show _<=_;simp[aG];omega);go_wp2_with fail;go_region_law (refine bL rfl (.tmp 34) (.tmp 39) 61 rfl i0 (bN) 16 (m 2) (aG c.YK) underlying61 hi I K L rfl VP (by rfl) (hD.o.Za 2) (aE p.heap.size) 1 1 [Y l] (by rfl) rfl s2 s3 VP s4 s5 ?_;intro g q w1 s r a;have⟨k5,f5,C⟩:=hD.o.app (d':={ c with YK:=c.YK++[l] }) b 2 F 2 (by omega) g q ((aG c.YK).n+1) _ s (dq c.YK l) r (by omega) (BD c m _) (by omega) _ rfl (by simp[dF,g7,aG]);clear s r a);(all_goals go_wp2);all_goals(go_roundg (d.YH.length-(k+1));{exact⟨k+1,_,by omega,rfl,by go_num,by simp[g7,h8],by rw[HT.o];exact C.1,T2.trans (C.2.first (bQ.alloc _).drew)⟩};omega)};{have HT:Z (fD d (k+1)=c):=(by show fD d (k+1)=_;rw[HS.o];simp[hb]);clear HS;go_wp2_with fail;go_quiet ((go_at_call 252;exact VU (fZ (m 2) c.YK l _ (D.YM (bQ.drewN _) |>.Za 2) G)));go_wp2;go_roundg (d.YH.length-(k+1));{exact⟨k+1,m,by omega,rfl,by go_num,h8,by rw[HT.o];exact D.YM (bQ.drewN _),ac.YM (bQ.drewN _)⟩};omega}};{have e:k=d.YH.length:=(by omega);subst e;go_wp2;go_end0;exact⟨rfl,m,D,ac⟩}}}
def lu(n:Int):Bool:=(decide (97<=n)&&decide (n<=122))||(decide (65<=n)&&decide (n<=90))||(decide (48<=n)&&decide (n<=57))||n==45||n==95||n==46
def jg(s:Vx):Bool:=(List.range s.size).all (λi=>lu (aR s i))
set_option maxRecDepth 512
theorem sB(n:Int)(w:World) :
  aU 274 #[int u8 n] w (iw (bool (lu n)) w):=by by_cases b:(97<=n/\n<=122)∨(65<=n/\n<=90)∨(48<=n/\n<=57);{(have a:Z (lu n=true):=by show lu n=true;grind [lu]);rcases b with b | b | b;all_goals(go_enter func274,ntmps274;go_wp2;go_ret;exact⟨aN a.o.symm,rfl⟩)};{(have a:Z (lu n=(n==45||n==95||n==46)):=by show lu n=_;grind [lu]);go_enter func274,ntmps274;go_wp2;(all_goals go_ret);all_goals (refine⟨aN ?_,rfl⟩;first | rfl | (rw[a.o];done) | (rw[a.o];simp[*];done))}
theorem JV(h:b<l)(a:y1 b=false):(List.range l).all y1=false:=by grind
theorem Ev(h:∀i,i<l->y1 i=true):(List.range l).all y1=true:=by grind
theorem qj(n:w.size<=1073741824) :
  aU 262 #[Y w] y (iw (bool (jg w)) y):=by go_enter func262,ntmps262;go_wp2;go_loopg [3] w.size (λg i wr=>∃k:Nat,k<=w.size/\g=w.size-k/\i=J k/\Z (∀i,i<k->lu (aR w i)=true)/\wr=y);{exact⟨0,by omega,by omega,rfl,λi h=>by omega,rfl⟩};obtain⟨k,m,l,rfl,a,rfl⟩:=hrel;by_cases b:k<w.size;{cases d:lu (w[k].toNat:Int);{have c:Z (jg w=false):=JV k b (by rw[da w k b];exact d);go_wp2_with fail;refine(sB _ _).mono ?_;rintro e j ⟨rfl,rfl⟩;go_wp2;go_ret;exact⟨aN c.o.symm,rfl⟩};{go_wp2_with fail;refine(sB _ _).mono ?_;rintro e j ⟨rfl,rfl⟩;go_wp2;go_roundg (w.size-(k+1));{refine⟨k+1,by omega,rfl,by go_num,?_,rfl⟩;intro i f;by_cases e:i=k;{grind [da]};{exact a i (by omega)}};omega}};{have c:Z (jg w=true):=Ev (λi f=>a i (by omega));go_wp2;go_ret;exact⟨aN c.o.symm,rfl⟩}
theorem mB(d:Db)(H:Nat->U)(a:Vx)(w:World)(h:bu w f T x i d H)(g:x.length=b)(c:d.YQ.length<=1073741824) :
  aU 268 #[pointer (some (X f b)),Y a] w (iw (bool (bb d.YQ a)) w):=by obtain⟨m,n,o,p,q,r,s,t,u,v,j,k,l⟩:=h.cells b g;go_enter func268,ntmps268;go_wp2_with fail;refine(fZ (H 3) d.YQ a _ (by exact h.Za 3) c).mono ?_;rintro e y ⟨rfl,rfl⟩;go_wp2;go_ret;exact⟨rfl,rfl⟩
theorem pB(d:Db)(H:Nat->U)(a:Vx)(w:World)(h:bu w f T x i d H)(g:x.length=b)(c:d.YJ.length<=1073741824) :
  aU 269 #[pointer (some (X f b)),Y a] w (iw (bool (bb d.YJ a)) w):=by obtain⟨m,n,o,p,q,r,s,t,u,v,j,k,l⟩:=h.cells b g;go_enter func269,ntmps269;go_wp2_with fail;refine(fZ (H 1) d.YJ a _ (by exact h.Za 1) c).mono ?_;rintro e y ⟨rfl,rfl⟩;go_wp2;go_ret;exact⟨rfl,rfl⟩
theorem qk(d:Db)(H:Nat->U)(a:Vx)(w:World)(h:bu w f T x i d H)(g:x.length=b)(c:d.YT.length<=1073741824) :
  aU 270 #[pointer (some (X f b)),Y a] w (iw (bool (bb d.YT a)) w):=by obtain⟨m,n,o,p,q,r,s,t,u,v,j,k,l⟩:=h.cells b g;go_enter func270,ntmps270;go_wp2_with fail;refine(fZ (H 4) d.YT a _ (by exact h.Za 4) c).mono ?_;rintro e y ⟨rfl,rfl⟩;go_wp2;go_ret;exact⟨rfl,rfl⟩
def fm(d:Db)(x:Vx):Bool:=bb d.YP x||bb d.YJ x||bb d.YK x
def fN(d:Db)(x:Vx):Bool:=bb d.YP x||bb d.YJ x||bb d.YQ x
theorem nX(d:Db)(H:Nat->U)(a:Vx)(w:World)(h:bu w f T x i d H)(m:x.length=b)(c:ip d 1073741824) :
  aU 253 #[pointer (some (X f b)),Y a] w (iw (bool (fm d a)) w):=by obtain⟨q,r,s,t,u,v,y,z,A,B,n,o,p⟩:=h.cells b m;cases k:bb d.YP a;{cases l:bb d.YJ a;{have g:Z (fm d a=bb d.YK a):=(by show fm d a=_;simp[fm,k,l]);go_enter func253,ntmps253;go_wp2_with fail;refine(fZ (H 0) d.YP a _ (by exact h.Za 0) c.YP).mono ?_;rintro e j ⟨rfl,rfl⟩;go_wp2_with fail;refine(fZ (H 1) d.YJ a _ (by exact h.Za 1) c.YJ).mono ?_;rintro e j ⟨rfl,rfl⟩;go_wp2_with fail;refine(fZ (H 2) d.YK a _ (by exact h.Za 2) c.YK).mono ?_;rintro e j ⟨rfl,rfl⟩;go_wp2;go_ret;exact⟨aN (by rw[g.o]),rfl⟩};{have g:Z (fm d a=true):=(by show fm d a=_;simp[fm,k,l]);go_enter func253,ntmps253;go_wp2_with fail;refine(fZ (H 0) d.YP a _ (by exact h.Za 0) c.YP).mono ?_;rintro e j ⟨rfl,rfl⟩;go_wp2_with fail;refine(fZ (H 1) d.YJ a _ (by exact h.Za 1) c.YJ).mono ?_;rintro e j ⟨rfl,rfl⟩;go_wp2;go_ret;exact⟨aN (by rw[g.o]),rfl⟩}};{(have g:Z (fm d a=true):=by show fm d a=_;simp[fm,k]);go_enter func253,ntmps253;go_wp2_with fail;refine(fZ (H 0) d.YP a _ (by exact h.Za 0) c.YP).mono ?_;rintro e j ⟨rfl,rfl⟩;go_wp2;go_ret;exact⟨aN (by rw[g.o]),rfl⟩}
theorem E3(d:Db)(H:Nat->U)(a:Vx)(w:World)(h:bu w f T x i d H)(m:x.length=b)(c:ip d 1073741824) :
  aU 254 #[pointer (some (X f b)),Y a] w (iw (bool (fN d a)) w):=by obtain⟨q,r,s,t,u,v,y,z,A,B,n,o,p⟩:=h.cells b m;cases k:bb d.YP a;{cases l:bb d.YJ a;{have g:Z (fN d a=bb d.YQ a):=(by show fN d a=_;simp[fN,k,l]);go_enter func254,ntmps254;go_wp2_with fail;refine(fZ (H 0) d.YP a _ (by exact h.Za 0) c.YP).mono ?_;rintro e j ⟨rfl,rfl⟩;go_wp2_with fail;refine(fZ (H 1) d.YJ a _ (by exact h.Za 1) c.YJ).mono ?_;rintro e j ⟨rfl,rfl⟩;go_wp2_with fail;refine(fZ (H 3) d.YQ a _ (by exact h.Za 3) c.YQ).mono ?_;rintro e j ⟨rfl,rfl⟩;go_wp2;go_ret;exact⟨aN (by rw[g.o]),rfl⟩};{have g:Z (fN d a=true):=(by show fN d a=_;simp[fN,k,l]);go_enter func254,ntmps254;go_wp2_with fail;refine(fZ (H 0) d.YP a _ (by exact h.Za 0) c.YP).mono ?_;rintro e j ⟨rfl,rfl⟩;go_wp2_with fail;refine(fZ (H 1) d.YJ a _ (by exact h.Za 1) c.YJ).mono ?_;rintro e j ⟨rfl,rfl⟩;go_wp2;go_ret;exact⟨aN (by rw[g.o]),rfl⟩}};{(have g:Z (fN d a=true):=by show fN d a=_;simp[fN,k]);go_enter func254,ntmps254;go_wp2_with fail;refine(fZ (H 0) d.YP a _ (by exact h.Za 0) c.YP).mono ?_;rintro e j ⟨rfl,rfl⟩;go_wp2;go_ret;exact⟨aN (by rw[g.o]),rfl⟩}
theorem nW(d:Db)(H:Nat->U)(w:World)(h:bu w f T x i d H)(a:x.length=b) :
  aU 206 #[pointer (some (X f b))] w (iw (bool (decide (0<d.Y3.length))) w):=by obtain⟨j,k,l,m,n,o,p,q,r,s,c,e,g⟩:=h.cells b a;go_enter func206,ntmps206;go_wp2;go_ret;exact⟨rfl,rfl⟩
def mS(d:Db):Bool:=d.Y1 != 0||decide (0<d.Y3.length)
theorem xf(d:Db)(H:Nat->U)(w:World)(h:bu w f T x i d H)(c:x.length=b) :
  aU 157 #[pointer (some (X f b))] w (iw (bool (mS d)) w):=by obtain⟨m,n,o,p,q,r,s,t,u,v,g,j,k⟩:=h.cells b c;cases l:(d.Y1 != 0);{(have a:Z (mS d=decide (0<d.Y3.length)):=by show mS d=_;grind [mS]);go_enter func157,ntmps157;go_wp2_with fail;refine(nW f T b x i d H _ h c).mono ?_;rintro e y ⟨rfl,rfl⟩;go_wp2;go_ret;exact⟨aN (by rw[a.o]),rfl⟩};{(have a:Z (mS d=true):=by show mS d=_;grind [mS]);go_enter func157,ntmps157;go_wp2_with fail;go_ret;exact⟨aN (by rw[a.o]),rfl⟩}
def or(d:Db):Int:=if(d.Y1==1)=true∨(d.Y1==2)=true then 2 else 1
theorem yc(d:Db)(H:Nat->U)(w:World)(h:bu w f T x i d H)(g:x.length=b) :
  aU 250 #[pointer (some (X f b))] w (iw (J (or d)) w):=by obtain⟨m,n,o,p,q,r,s,t,u,v,j,k,l⟩:=h.cells b g;cases c:(d.Y1==1);{cases e:(d.Y1==2);all_goals(have a:Z (or d=if(d.Y1==1)=true∨(d.Y1==2)=true then 2 else 1):=rfl;go_enter func250,ntmps250;go_wp2;go_ret;exact⟨aw (by rw[a.o,c,e];simp),rfl⟩)};{(have a:Z (or d=2):=by show or d=_;grind [or]);go_enter func250,ntmps250;go_wp2;go_ret;exact⟨aw (by rw[a.o]),rfl⟩}
theorem Ok(m:aK y I (aG L))(p:T<=1073741824) :
  aU 261 #[Q I.ao L.length I.cap,J T] y (iw (Q I.ao (if T<=L.length then T else L.length) I.cap) y):=by obtain⟨q,c⟩:=I;by_cases a:T<=L.length;{rcases m.YX with ⟨d,l,_⟩ | ⟨g,n,f,i,j,k,_⟩;{have b:L.length=0:=l;have e:T=0:=(by omega);subst e;injection d with d i;subst d i;simp only[if_pos a];rw[b];clear m l a b p;go_enter func261,ntmps261;go_wp2;go_ret;exact⟨rfl,rfl⟩};{simp only at f j k;have o:L.length<=c:=j;unfold maxLen at k;subst f;simp only[if_pos a];go_enter func261,ntmps261;go_wp2;go_ret;exact⟨rfl,rfl⟩}};{simp only[if_neg a];go_enter func261,ntmps261;go_wp2;go_ret;exact⟨rfl,rfl⟩}
theorem aK.cut(o:aK H zt (aG z7))(c:Nat)(s:c<=z7.length):aK H zt (aG (z7.take c)):=by (have b:(z7.take c).length=c:=by grind);rcases o.YX with ⟨j,p,_⟩ | ⟨g,a,e,k,l,f,i,m⟩;{(have q:z7.length=0:=p;have:c=0:=by omega);subst this;subst j;exact⟨by rfl,by grind⟩};{obtain⟨r,d⟩:=zt;simp only at e l f i;subst e;refine⟨by simp[aG,dA],VW ⟨g,d,a,rfl,V5 _,k,?_,f,i,?_⟩⟩;{grind [aG]};{(have n:a.toList.take (z7.length*1)=dA z7:=m;simp only[aG,b];have:dA (z7.take c)=(dA z7).take c:=by simp[dA]);grind}}
theorem zdV:(prog.info? 337).map (λi=>(i.zero,i.size,i.bytes))=some (some (agg #[J 0,J 0]),2,16):=by kernel_rfl
theorem vU:pairs (g++[z8])=pairs g++[J z8.1,J z8.2]:=by simp[pairs]
theorem PV:(⟨(rh g).e,(rh g).size,(rh g).n+1,(rh g).xs++[J z8.1,J z8.2]⟩:eR)=rh (g++[z8]):=by simp[rh,vU]
set_option maxRecDepth 100000
theorem Ad(d:Db)(H:Nat->U)(w:World)(h:bu w f T x i d H)(t:x.length=b)(R:d.Y3.length<=1073741824) :
  aU 245 #[pointer (some (X f b))] w λe y=>e=cM (tuple #[])/\∃q,bu y f T x i { d with Y3:=d.Y3++[(d.YQ.length,d.YT.length)] } q/\aA f w H y q:=by (obtain⟨D,B,m,o,p⟩:=VT zdV;obtain⟨V,W,q2,q3,q4,q5,q6,q7,q8,q9,E,F,G⟩:=h.cells b t;have A:=h.lt;have s:Z (bu (w.alloc (aJ #[J d.YQ.length,J d.YT.length] 337)).drew f T x i d H):=h.YM ((O.refl [] w).alloc _).drew;have I:Z (∀j u,([J d.YQ.length,J d.YT.length]:List Value)[j]?=some u->(w.alloc (aJ #[J d.YQ.length,J d.YT.length] 337)).drew.cell? (((aE w.heap.size):Addr).add j)=some u):=by intro j u P;rw[bO];have C:(w.alloc (aJ #[J d.YQ.length,J d.YT.length] 337)).drew.heap[w.heap.size]?=some (aJ #[J d.YQ.length,J d.YT.length] 337):=VD _ _;rw[aC C];grind);(have K:Z (∀u∈([J d.YQ.length,J d.YT.length]:List Value),u.oneCell'=true):=by intro u v;simp at v;rcases v with rfl | rfl <;> rfl);(have L:Z ((rh d.Y3).n+1<=maxLen):=by show _<=_;simp only[rh];unfold maxLen;omega);(have M:Z (((rh d.Y3).n+1)*16<=140737488355328):=by show _<=_;simp only[rh];omega);go_enter func245,ntmps245;go_wp2_with fail;go_region_law (refine bL rfl (.tmp 6) (.tmp 18) 194 rfl D (agg #[J 0,J 0]) 16 (H 5) (rh d.Y3) underlying194 B m o p rfl XW (by rfl) (s.o.Za 5) (aE w.heap.size) 1 1 [J d.YQ.length,J d.YT.length] (by rfl) rfl I K VP L M ?_;intro g a w1 l k c;obtain⟨S,N,r⟩:=s.o.app (d':={ d with Y3:=d.Y3++[(d.YQ.length,d.YT.length)] }) b 5 t 5 (by omega) g a ((rh d.Y3).n+1) _ l (PV d.Y3 (d.YQ.length,d.YT.length)) k (by omega) (za d H _) (by omega) _ rfl (by simp[dF,g7,rh]));(all_goals go_wp2);(all_goals go_end0);all_goals exact⟨rfl,_,r.1,r.2.first ((O.refl [] w).alloc _).drew⟩
theorem rP(l:List (Nat×Nat)):(pairs l).length=l.length*2:=by induction l with|nil=>rfl|cons a r b=>grind [pairs]
theorem Bg:(pairs (g++[z8]))[g.length*2]?=some (J z8.1)/\(pairs (g++[z8]))[g.length*2+1]?=some (J z8.2):=by grind [vU,rP]
theorem aK.pop{l:List (Nat×Nat)}{x:Nat×Nat}(o:aK H zt (rh (l++[x]))):aK H zt (rh l):=by rcases o.YX with ⟨r,p,_⟩ | ⟨g,b,e,k,f,i,j,m⟩;{have d:(l++[x]).length=0:=p;simp at d};{obtain⟨q,a⟩:=zt;simp only at e f i j;subst e;have c:(l++[x]).length<=a:=f;simp at c;refine⟨by grind [rh,rP],VW ⟨g,a,b,rfl,V5 _,k,?_,i,j,?_⟩⟩;{simp only[rh];omega};{(have n:b.toList.take ((l++[x]).length*2)=pairs (l++[x]):=m;simp only[rh];have s:pairs l=(pairs (l++[x])).take (l.length*2):=by grind [vU,rP]);grind}}
def eJ(d:Db)(bl:List (Nat×Nat))(x:Nat×Nat):Db:={ d with Y3:=bl,YQ:=d.YQ.take x.1,YT:=d.YT.take x.2 }
theorem UC:(S.take b).length=if b<=S.length then b else S.length:=by grind
theorem aK.taken(o:aK H zt (aG z7))(c:Nat):aK H zt (aG (z7.take c)):=by by_cases a:c<=z7.length;{exact o.cut c a};{rw[WJ (by omega)];exact o}
theorem AC(b:Z ((L.take f).length=T))(c:aK y I (aG L))(a:f<=1073741824) :
  aU 261 #[Q I.ao L.length I.cap,J f] y (iw (Q I.ao T I.cap) y):=by (have e:T=if f<=L.length then f else L.length:=by rw[<-b.o,UC]);rw[e];exact Ok I L f y c a
theorem uw{c d':Db}(h:bu H l d o D c n)(i:o.length=zf)(f:T<10)(k:aK H (n T) (bH d' n T))(a:∀j,j≠T->bH d' n j=bH c n j)(u:Value)(e:b<13)(g:(dF c n).set b u=dF d' (g7 n T (n T))) :
  bu (H.setCell (X l (zf+b)) u) l d o D d' n/\aA l H n (H.setCell (X l (zf+b)) u) n:=by have m:=UL n T;have:=h.put (d':=d') zf b i T f (n T) k (Yf _ _) (by simp) a u e g;grind
theorem EK(d:Db)(H:Nat->U)(a:List (Nat×Nat))(L:Nat×Nat)(w:World)(h:bu w f T x i d H)(z:x.length=b)(E:d.Y3=a++[L])(hs:ip d 1073741824)(hx:L.1<=1073741824/\L.2<=1073741824) :
  aU 247 #[pointer (some (X f b))] w λe w'=>e=cM (tuple #[])/\bu w' f T x i (eJ d a L) H/\aA f w H w' H:=by (obtain⟨N,P,R,S,V,v,W,q7,q8,q9,p,q,r⟩:=h.cells b z;obtain⟨c,k⟩:=L;simp only at hx;have o:=h.free;have ai:=h.lt;have I:=h.Za 5;have j:aK w (H 5) (rh (a++[(c,k)])):=by have:=I;simp only[bH,E]at this;exact this);have u:=hs.Y3;rw[E]at u v;simp only[List.length_append,List.length_cons,List.length_nil]at u v;rcases j.YX with ⟨e0,h0,_⟩ | ⟨g,ag,M,e2,e3,e4,e5,e6⟩;{have ac:(a++[(c,k)]).length=0:=h0;simp at ac};{(have p1:=j.cell M (a.length*2) _ (Bg a (c,k)).1;have p2:=j.cell M (a.length*2+1) _ (Bg a (c,k)).2;have af:a.length+1<=(H 5).cap:=by have:(a++[(c,k)]).length<=(H 5).cap:=e3;grind);have P1:=uw 5 5 (d':={ d with Y3:=a }) h z (by omega) j.pop (za d H a) (Q (some (aE g)) a.length (H 5).cap) (by omega) (by simp[dF,g7,M]);obtain⟨s,l⟩:∃s,s=(w.setCell (X f (b+5)) (Q (some (aE g)) a.length (H 5).cap)).alloc (aJ #[J c,J k] 337):=⟨_,rfl⟩;(have y:bu s f T x i { d with Y3:=a } H:=by rw[l];exact P1.1.YM (bQ.alloc _));(have T2:aA f w H s H:=by rw[l];exact P1.2.YM (bQ.alloc _));(have B2:s.heap[w.heap.size]?=some (aJ #[J c,J k] 337):=by rw[l];have:=VD (w.setCell (X f (b+5)) (Q (some (aE g)) a.length (H 5).cap)) (aJ #[J c,J k] 337);simpa [World.setCell] using this);have HW:Z ((w.setCell (X f (b+5)) (Q (some (aE g)) a.length (H 5).cap)).alloc (aJ #[J c,J k] 337)=s):=l.symm;rw[M]at v;simp only at p1 p2;clear I j e3 e4 e5 e6 e2 h P1 l;go_enter func247,ntmps247;go_upto_region 4 with fail;(rw[HW.o];obtain⟨c0,c1⟩:=vG B2;have ad:w.heap.size≠f:=by omega);clear HW N P R S V v W q7 q8 q9 p q r p1 p2 o;obtain⟨N,P,R,S,V,v,W,q7,q8,q9,p,q,r⟩:=y.cells b z;have o:=y.free;obtain⟨K,F⟩:∃m,Z ((d.YQ.take c).length=m):=⟨_,rfl⟩;obtain⟨m2,G⟩:∃m,Z ((d.YT.take k).length=m):=⟨_,rfl⟩;have P3:=uw 3 3 (d':={ d with Y3:=a,YQ:=d.YQ.take c }) y z (by omega) ((y.Za 3).taken c) (yZ { d with Y3:=a } H (d.YQ.take c)) (Q (H 3).ao K (H 3).cap) (by omega) (by simp only[dF,eC,<-F.o];rfl);obtain⟨t,n⟩:∃t,t=(s.setCell (X f (b+3)) (Q (H 3).ao K (H 3).cap)).drew:=⟨_,rfl⟩;(have A:Z (bu t f T x i { d with Y3:=a,YQ:=d.YQ.take c } H):=by rw[n];exact P3.1.YM bQ.drew);(have T3:Z (aA f w H t H):=by rw[n];exact T2.trans (P3.2.YM bQ.drew));(have B3:Z (t.heap[w.heap.size]?=some (aJ #[J c,J k] 337)):=by show t.heap[w.heap.size]?=_;rw[n];exact(VN s (X f (b+3)) (Q (H 3).ao K (H 3).cap) w.heap.size ad).trans B2);have C:Z ((s.setCell (X f (b+3)) (Q (H 3).ao K (H 3).cap)).drew=t):=n.symm;clear n P3;go_region_with (go_at_call 261;refine(AC (H 3) d.YQ c K _ F (by exact y.Za 3) hx.1).mono ?_;rintro e t ⟨rfl,rfl⟩);(all_goals go_upto_region 5 with fail);(all_goals rw[C.o]);all_goals(clear C N P R S V v W q7 q8 q9 p q r o y T2 B2 c0 c1;obtain⟨c0,c1⟩:=vG B3;obtain⟨N,P,R,S,V,v,W,q7,q8,q9,p,q,r⟩:=A.o.cells b z;have o:=A.o.free;have P4:=uw 4 4 (d':=eJ d a (c,k)) A z (by omega) ((A.o.Za 4).taken k) (BC { d with Y3:=a,YQ:=d.YQ.take c } H (d.YT.take k)) (Q (H 4).ao m2 (H 4).cap) (by omega) (by simp only[dF,eJ,eC,<-G.o];rfl);have B:Z _:=P4;clear P4;go_region_with (go_at_call 261;refine(AC (H 4) d.YT k m2 _ G (by exact A.o.Za 4) hx.2).mono ?_;rintro e t ⟨rfl,rfl⟩);(all_goals go_wp2);(all_goals go_end0);all_goals exact⟨rfl,B.1.YM bQ.drew,T3.o.trans (B.2.YM bQ.drew)⟩)}
theorem GX{α:Type}(f:α->List Value)(n:Nat)(b:∀a,(f a).length=n)(l:List α):(l.flatMap f).length=l.length*n:=by induction l with|nil=>simp|cons a l c=>grind
theorem GV{α:Type}(f:α->List Value)(n:Nat)(b:∀a,(f a).length=n)(l:List α)(i j:Nat)(c:i<l.length)(d:j<n):(l.flatMap f)[i*n+j]?=(f l[i])[j]?:=by induction l generalizing i with|nil=>grind|cons a l e=>{rw[List.flatMap_cons];cases i with|zero=>grind|succ i=>grind}
theorem Sa{α:Type}(f:α->List Value)(n:Nat)(d:∀a,(f a).length=n)(l:List α)(i j:Nat)(e:i<l.length)(g:j<n)(b:α)(v:Value)(c:f b=(f l[i]).set j v) :
  (l.flatMap f).set (i*n+j) v=(l.set i b).flatMap f:=by induction l generalizing i with|nil=>rfl|cons a l k=>{cases i with|zero=>grind|succ i=>grind}
theorem Uv(l:List St)(H:Nat->U):(oY l H).length=l.length*8:=by unfold oY;rw[GX _ 8 (λ_=>rfl)];simp
theorem Mg(l:List (Vx×Pl)):(yF l).length=l.length*4:=GX _ 4 (λ_=>rfl) l
theorem NF(l:List St)(H:Nat->U)(i:Nat)(b:i<l.length)(j:Nat)(a:j<8):(oY l H)[i*8+j]?=(Qj l[i] (H (10+2*i)) (H (11+2*i)))[j]?:=by unfold oY;rw[GV _ 8 (λ_=>rfl) _ i j (by simp_all) a];simp
theorem QL(l:List (Vx×Pl))(i:Nat)(a:i<l.length)(j:Nat)(b:j<4):(yF l)[i*4+j]?=(vu l[i])[j]?:=GV _ 4 (λ_=>rfl) l i j a b
theorem Qw(l:List St)(s:St)(H:Nat->U):oY (l++[s]) H=oY l H++Qj s (H (10+2*l.length)) (H (11+2*l.length)):=by grind [oY]
theorem Mj(l:List St)(i:Nat)(s:St):(l.set i s).zipIdx=l.zipIdx.set i (s,i):=by apply WC;intro j;simp only[List.getElem?_zipIdx,List.getElem?_set,List.length_zipIdx];grind
theorem Uw(l:List St)(H:Nat->U)(i:Nat)(b:i<l.length)(N:Nat):(oY l H).set (i*8+7) (J N)=oY (l.set i { l[i] with til:=N }) H:=by unfold oY;rw[Mj];exact Sa _ 8 (λ_=>rfl) _ i 7 (by simp_all) (by omega) _ _ (by simp[Qj])
theorem Ji:(dA S).length=S.length*1:=by simp[dA]
theorem DB:fC (y0++[b])=fC y0++[J b]:=by simp[fC]
theorem pd:(⟨(bZ y0).e,(bZ y0).size,(bZ y0).n+1,(bZ y0).xs++[J b]⟩:eR)=bZ (y0++[b]):=by simp[bZ,DB]
theorem Dr:(prog.info? 3).map (λi=>(i.zero,i.size,i.bytes))=some (some (J 0),1,8):=by kernel_rfl
def uU(k:Int):Bool:=k==4||k==5
set_option maxRecDepth 512
theorem fy(k:Int)(b c d e f g i:Value)(w:World) :
  aU 159 #[agg #[J k,b,c,d,e,f,g,i]] w (kt (bool (uU k)) w):=by cases j:(k==4);{(have a:Z (uU k=(k==5)):=by show uU k=_;grind [uU]);go_enter func159,ntmps159;go_wp2;go_ret;exact⟨aN (by rw[a.o]),(O.refl _ _).alloc _⟩};{(have a:Z (uU k=true):=by show uU k=_;grind [uU]);go_enter func159,ntmps159;go_wp2;go_ret;exact⟨aN (by rw[a.o]),(O.refl _ _).alloc _⟩}
set_option maxRecDepth 100000
theorem Fz(d:Db)(H:Nat->U)(w:World)(h:bu w f T x i d H)(v:x.length=b)(E:ip d 100000000) :
  aU 246 #[pointer (some (X f (b+6)))] w λe z=>e=cM (tuple #[])/\∃r,bu z f T x i { d with rbl:=d.rbl++[d.YY.length] } r/\aA f w H z r:=by (obtain⟨F,B,m,o,p⟩:=VT Dr;obtain⟨W,q1,q2,q3,q4,q5,q6,q7,q8,q9,G,I,K⟩:=h.cells b v;have A:=h.lt;have D:=E.rbl;have t:Z (bu (w.alloc (aJ #[J d.YY.length] 3)).drew f T x i d H):=h.YM ((O.refl [] w).alloc _).drew;have L:Z (∀j u,([J d.YY.length]:List Value)[j]?=some u->(w.alloc (aJ #[J d.YY.length] 3)).drew.cell? (((aE w.heap.size):Addr).add j)=some u):=by intro j u S;have C:(w.alloc (aJ #[J d.YY.length] 3)).drew.heap[w.heap.size]?=some (aJ #[J d.YY.length] 3):=VD _ _;rw[bO,aC C];grind);(have M:Z (∀u∈([J d.YY.length]:List Value),u.oneCell'=true):=by intro u y;simp at y;subst y;rfl);(have N:Z ((bZ d.rbl).n+1<=maxLen):=by show _<=_;simp only[bZ];unfold maxLen;omega);(have P:Z (((bZ d.rbl).n+1)*8<=140737488355328):=by show _<=_;simp only[bZ];omega);go_enter func246,ntmps246;go_wp2_with fail;go_region_law (refine bL rfl (.tmp 6) (.tmp 12) 25 rfl F (J 0) 8 (H 7) (bZ d.rbl) underlying25 B m o p rfl VP (by rfl) (t.o.Za 7) (aE w.heap.size) 1 1 [J d.YY.length] (by rfl) rfl L M VP N P ?_;intro g a w1 l k c;obtain⟨V,R,s⟩:=t.o.app (d':={ d with rbl:=d.rbl++[d.YY.length] }) b 7 v 7 (by omega) g a ((bZ d.rbl).n+1) _ l (pd d.rbl _) k (by omega) (IW d H _) (by omega) _ rfl (by simp[dF,g7,bZ]));(all_goals go_wp2);(all_goals go_end0);all_goals exact⟨rfl,_,s.1,s.2.first ((O.refl [] w).alloc _).drew⟩
end Go.Proofs.YtpdholcaobgofaaGreat
