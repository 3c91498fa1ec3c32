import Derived.Deep.CutRange
import Derived.Deep.CutBlock
import Derived.Test.YtnbalopedcgpcaaGreatI01
namespace Go.Proofs.YtnbalopedcgpcaaGreat
open Go.RowKit Tryz
open Value IntKind Ending
set_option linter.all false
set_option maxHeartbeats 0
variable{f k ze:World}{H a z8:Nat}{s N:Vq}{zU:Vu}{zg:Nat->Bool}{y2:sW}{y0:Obj}{g:Nat->Prop}{D L:List Value}{T zn:Nat->Hd}{z9:Hd}{z6:Vs}(zz zs y1:List Value)(M:Hd)(I:Vs)(n x:Nat)(i:Vq)(y:Vs)(w:Vq)(d:World)(zc:Vu)(l:Nat)(v o:List Value)(m:List (Nat×Nat))(z7:Nat×Nat)
def lH:Array Value:=#[cL,J 0,bool false,cL,J 0,J 0]
theorem ik(h:f.heap[H]?=some (aM lH 223)) :
  cM f H 0 (cL)/\cM f H 1 (J 0)/\cM f H 2 (bool false) /\
  cM f H 3 (cL)/\cM f H 4 (J 0)/\cM f H 5 (J 0):=by refine⟨?_,?_,?_,?_,?_,?_⟩ <;> exact ot h rfl
theorem g7(h:cy f H s N z8)(b:H≠a)(c d e g i j:Value) :
  cy ((((((f.setCell (aC a) c).setCell (aq a 1) d).setCell (aq a 2) e).setCell (aq a 3) g).setCell (aq a 4) i).setCell (aq a 5) j) H s N z8:=by unfold cy;rw[VN _ _ _ _ b,VN _ _ _ _ b,VN _ _ _ _ b,VN _ _ _ _ b,VN _ _ _ _ b,VN _ _ _ _ b];exact h
theorem iE(h:aa zU f k)(a:f.heap.size<=H)(b c d e g i:Value) :
  aa zU f ((((((k.setCell (aC H) b).setCell (aq H 1) c).setCell (aq H 2) d).setCell (aq H 3) e).setCell (aq H 4) g).setCell (aq H 5) i) :=
 (((((h.setCell (VH a) _).setCell (VH a) _).setCell (VH a) _).setCell (VH a) _).setCell (VH a) _).setCell (VH a) _
set_option maxRecDepth 100000
theorem xo(hd:w.size<=1024)(hk:x<=w.size)(h:cy d n i w x) :
  bF 152 #[bS n] d λe w'=>e=dw (fW i w (bA w x).1)/\cy w' n i w (bA w x).2/\aa [n] d w':=by
 have ak:=am h;go_enter func152,ntmps152;go_upto_block 0 with fail;go_cut [] from 5 (λwc=>∃j,x<=j/\j<=w.size/\Z (j=skip w x)/\cy wc n i w j/\wc.heap[d.heap.size]?=some (aM lH 223)/\aa [n] d wc);(case first => go_wp2_with fail;go_loopg [] (w.size-x) (λg wr=>∃j,x<=j/\j<=w.size/\g=w.size-j/\Z (skip w j=skip w x)/\cy wr n i w j/\wr.heap[d.heap.size]?=some (aM lH 223)/\aa [n] d wr);{exact⟨x,Vy _,hk,rfl,rfl,cy.Z0 h ((aa.refl [] d).alloc _) (by simp),VB _ _,(aa.refl _ _).alloc _⟩};(obtain⟨j,D,U,hg,s,l,p,c⟩:=hrel;obtain⟨c0,c1,c2,c3,c4⟩:=l.cells;have r:d.heap.size∉[n]:=by simp;omega);by_cases T:j<w.size/\db (zeb w j)=true;{obtain⟨a,q⟩:=T;have b:=q;rw[aR w j a]at b;have af:Z (skip w (j+1)=skip w x):=(m9 w j a q).symm.trans s;go_wp2_with fail;go_quiet ((go_at_call 166;exact Wk (jS _ _)));go_wp2_with fail;refine(GV n j i w _ hd a (by exact l)).mono ?_;rintro e w1 ⟨rfl,A,m⟩;go_wp2;go_roundg (w.size-(j+1));{exact⟨j+1,by omega,by omega,rfl,af,A,m.get (by exact p) r,(c.drewN nq).trans m⟩};omega};{(have V:Z (j=skip w x):=(s.o.symm.trans (mE w j T)).symm;have C:(j<w.size/\∃h:j<w.size,db ((w[j]'h).toNat:Int)=false)∨(¬j<w.size/\decide ((j:Int)<(w.size:Int))=false):=by by_cases a:j<w.size;{refine VR ⟨a,a,?_⟩;rw[<-aR w j a];simpa using λh=>T ⟨a,h⟩};{exact VH ⟨a,by simp;omega⟩});rcases C with ⟨a,ah,b⟩ | ⟨a,b⟩;all_goals(go_wp2_with fail;go_quiet ((go_at_call 166;exact Wk (jS _ _)));go_wp2_with fail;go_meet;case rel=>exact⟨j,D,U,V,by exact l,by exact p,c.drewN _⟩)})
 case rest =>
  (obtain⟨j,D,U,R,l,p,c⟩:=hcut;have r:d.heap.size∉[n]:=by simp;omega);go_wp2_with fail;refine(BC n j i w _ (by exact l)).mono ?_;rintro e t ⟨rfl,m⟩;have A:cy t n i w j:=cy.Z0 (by exact l) m (by simp);have ad:=m.gt (by exact p);have E:=c.trans (m.mono (by simp));have ai:=am A;obtain⟨c0,c1,c2,c3,c4⟩:=A.cells;go_wp2;go_loopg [] (w.size-j) (λg wr=>∃z,j<=z/\z<=w.size/\g=w.size-z/\Z (bL w z=bL w j)/\cy wr n i w z/\wr.heap[d.heap.size]?=some (aM lH 223) /\ wr.heap[t.heap.size]?=some (aM #[an i,J (aV w j),J (bZ w j)] 67)/\aa [n] d wr);{exact⟨j,Vy _,U,rfl,rfl,A.Z0 ((aa.refl [] t).alloc _) (by simp),((aa.refl [] t).alloc _).gt ad,VB _ _,E.alloc _⟩};obtain⟨z,ao,hz,hg,s,l,p,I,c⟩:=hrel;obtain⟨c0,c1,c2,c3,c4⟩:=l.cells;have e0:cM wr t.heap.size 0 (an i):=ot I rfl;have e1:cM wr t.heap.size 1 (J (aV w j)):=ot I rfl;have e2:cM wr t.heap.size 2 (J (bZ w j)):=ot I rfl;rcases Oy w z with ⟨k,b,G,ag⟩ | ⟨k,b,G⟩ | ⟨k,b⟩ | ⟨k,b⟩;{have HS:Z _:=ag.trans s;go_wp2_with fail;go_quiet ((go_at_call 166;exact Wk (jS _ _)));go_wp2_with fail;go_quiet ((go_at_call 169;exact oW (pF _ _)));go_wp2_with fail;refine(GV n z i w _ hd k (by exact l)).mono ?_;rintro e w3 ⟨rfl,S,f⟩;go_wp2;go_roundg (w.size-(z+1));{exact⟨z+1,by omega,by omega,rfl,HS,S,f.get (by exact p) r,f.get (by exact I) (by grind),((c.drewN _).trans f)⟩};omega}
  ·have u:Z _:=Rl w x j z R s k (by rw[aR w z k];exact b) (by rw[aR w z k];exact G);go_wp2_with fail;go_quiet ((go_at_call 166;exact Wk (jS _ _)));go_wp2_with fail;go_quiet ((go_at_call 169;exact oW (pF _ _)));go_wp2_with fail;refine(BC n z i w _ (by exact l)).mono ?_;rintro e w3 ⟨rfl,f⟩;have S:cy w3 n i w z:=cy.Z0 (by exact l) f (by simp);have H:=f.gt (by exact p);have F:=(c.drewN _).trans (f.mono (by simp));obtain⟨K,L,M,N,O,P⟩:=ik H;have y:=ay H;go_wp2;exact VV (v:=fW i w ⟨⟨#[]⟩,1,false,z⟩) (by simp[results,results152,go_sem,fW,K,L,M,N,O,P]) rfl
    (by rw[u.o];exact⟨rfl,g7 S (by omega) _ _ _ _ _ _,iE F (Vy _) _ _ _ _ _ _⟩)
  all_goals
   have HZ:¬(z<w.size/\db (zeb w z)=false):=by
    rintro ⟨X,B⟩
    first
     | (rw[aR w z X,b]at B;cases B)
     | omega
   obtain⟨K,L,M,N,O,P⟩:=ik p;have y:=ay p;by_cases W:j<z
   ·have u:Z _:=BU w x j z R s HZ W;go_wp2_with fail;go_quiet ((go_at_call 166;exact Wk (jS _ _)));go_wp2_with fail;go_quiet (fail);go_wp2_with fail;go_region;(all_goals go_wp2)
    exact VV (v:=fW i w ⟨w.extract j z,0,false,j⟩) (by simp[results,results152,go_sem,fW,K,L,M,N,O,P]) rfl
     (by rw[u.o];exact⟨rfl,g7 (by exact l) (by omega) _ _ _ _ _ _,iE (c.drewN _) (Vy _) _ _ _ _ _ _⟩)
   ·have u:Z _:=Rm w x j z R s HZ (by omega);go_wp2_with fail;go_quiet ((go_at_call 166;exact Wk (jS _ _)));go_wp2_with fail;go_quiet (fail);go_wp2;exact VV (v:=fW i w ⟨⟨#[]⟩,0,true,j⟩) (by simp[results,results152,go_sem,fW,K,L,M,N,O,P]) rfl
     (by rw[u.o];exact⟨rfl,g7 (by exact l) (by omega) _ _ _ _ _ _,iE (c.drewN _) (Vy _) _ _ _ _ _ _⟩)
def aG(i:sW):Bool:=i.Zac==0 && !i.Z8
set_option maxRecDepth 512
theorem dI(r l c:Int)(f:Bool)(a:World) :
    bF 135 #[agg #[an i,J r,bool f,an w,J l,J c]] a (mU (bool (r==0 && !f)) a):=by cases b:(r==0);all_goals(go_enter func135,ntmps135;go_wp2;go_ret;exact⟨aT (by simp),(aa.refl _ _).alloc _⟩)
def eW(s:Vq):Bool:=(List.range s.size).any (λi=>zeb s i==36)
def mn(s:Vq):Bool:=(List.range s.size).any (λi=>decide (1<=i)&&(zeb s (i-1)==36)&&((zeb s i==40)||(zeb s i==41)))
theorem tj{p:Nat->Bool}(h:l<H)(a:p l=true):(List.range H).any p=true:=by grind
theorem xD(h:∀i,i<H->zg i=false):(List.range H).any zg=false:=by grind
theorem fk(n:w.size<=1073741824) :
    bF 171 #[an w] d (ij (bool (eW w)) d):=by go_enter func171,ntmps171;go_wp2;go_loopg [3] w.size (λg i wr=>∃k:Nat,k<=w.size/\g=w.size-k/\i=J k/\Z (∀i,i<k->(zeb w i==36)=false)/\wr=d);{exact⟨0,by omega,by omega,rfl,λi h=>by omega,rfl⟩};obtain⟨k,m,l,rfl,a,rfl⟩:=hrel;by_cases b:k<w.size;{cases f:((w[k].toNat:Int)==36);{go_wp2;go_roundg (w.size-(k+1));{refine⟨k+1,by omega,rfl,by go_num,?_,rfl⟩;intro i j;by_cases e:i=k;{grind [aR]};{exact a i (by omega)}};omega};{have c:Z (eW w=true):=tj k b (by rw[aR w k b];exact f);go_wp2;go_ret;exact⟨aT c.o.symm,rfl⟩}};{have c:Z (eW w=false):=xD (λi j=>a i (by omega));go_wp2;go_ret;exact⟨aT c.o.symm,rfl⟩}
theorem vD(v:w.size<=1073741824) :
    bF 170 #[an w] d (ij (bool (mn w)) d):=by
  go_enter func170,ntmps170;go_wp2;go_loopg [3] (w.size-1) (λg i wr=>∃k:Nat,1<=k/\(k<=w.size∨k=1)/\g=w.size-k/\i=J k/\Z (∀i,i<k->1<=i->((zeb w (i-1)==36)&&((zeb w i==40)||(zeb w i==41)))=false)/\wr=d);{exact⟨1,by omega,by omega,rfl,rfl,λi h s=>by omega,rfl⟩};obtain⟨k,f,u,t,rfl,a,rfl⟩:=hrel;by_cases j:k<w.size
  · (have m:k-1<w.size:=by omega)
    have n:∀b:Bool,(((w[k-1].toNat:Int)==36)&&(((w[k].toNat:Int)==40)||((w[k].toNat:Int)==41)))=b->((zeb w (k-1)==36)&&((zeb w k==40)||(zeb w k==41)))=b :=
      by grind [aR]
    have l:Z (∀b:Bool,(((w[k-1].toNat:Int)==36)&&(((w[k].toNat:Int)==40)||((w[k].toNat:Int)==41)))=b->((zeb w (k-1)==36)&&((zeb w k==40)||(zeb w k==41)))=b):=n;clear n;go_wp2
    all_goals first
      | (go_ret
         refine⟨aT ?_,rfl⟩;refine(tj (p:=λi=>decide (1<=i)&&(zeb w (i-1)==36)&&((zeb w i==40)||(zeb w i==41))) k j ?_).symm;have:=l.o true (by simp_all);simp only[Bool.and_assoc,this];simp[f])
      | (go_roundg (w.size-(k+1))
         case measure=>omega
         case rel =>
           refine⟨k+1,by omega,by omega,rfl,by go_num,?_,rfl⟩;intro i r c;by_cases e:i=k
           · subst e;exact l.o false (by simp_all)
           · exact a.o i (by omega) c)
  · have q:Z (mn w=false):=xD (λi r=>by
      by_cases c:1<=i
      · have:=a.o i (by omega) c;grind
      grind)
    go_wp2;go_ret;exact⟨aT q.o.symm,rfl⟩
theorem gy(h:l<=w.size):l<=(bA w l).2/\(bA w l).2<=w.size/\(aG (bA w l).1=true->l<(bA w l).2):=by grind [kZ,i6,skip,bA,aG]
def bY(d:Vq):Nat->Nat->sW×Nat
 | 0,k=>(⟨⟨#[]⟩,3,false,k⟩,k)
 | f+1,k =>
  if aG (bA d k).1=true/\¬(bA d k).1.text.toList=[36,41] then
   if mn (bA d k).1.text=true then(⟨⟨#[]⟩,2,false,(bA d k).1.pos⟩,(bA d k).2) else bY d f (bA d k).2
  else if(bA d k).1.Z8=true then(⟨⟨#[]⟩,3,false,(bA d k).1.pos⟩,(bA d k).2) else bA d k
def bj(d:Vq)(k:Nat):sW×Nat:=bY d (d.size-k+1) k
theorem xP(f k:Nat)(b:k<=w.size)(a:w.size-k+1<=f):bY w f k=bj w k:=by unfold bj;(suffices h:∀f g k,k<=w.size->w.size-k+1<=f->w.size-k+1<=g->bY w f k=bY w g k from h _ _ _ b a (Vy _));intro f;induction f with|zero=>simp|succ f d=>{intro g k b a c;cases g with|zero=>omega|succ g=>grind [bY,gy,bA]}
theorem xQ(d:l<=w.size)(a:aG (bA w l).1=true)(b:((bA w l).1.text.toList == [36,41])=false)(c:mn (bA w l).1.text=false):bj w l=bj w (bA w l).2:=by grind [gy,bj,bY,xP]
theorem tz(a:aG (bA w l).1=true)(b:((bA w l).1.text.toList == [36,41])=false)(c:mn (bA w l).1.text=true):bj w l=(⟨⟨#[]⟩,2,false,(bA w l).1.pos⟩,(bA w l).2):=by grind [bj,bY]
theorem ox(a:aG (bA w l).1=false)(b:(bA w l).1.Z8=true):bj w l=(⟨⟨#[]⟩,3,false,(bA w l).1.pos⟩,(bA w l).2):=by grind [bj,bY]
theorem vE(a:aG (bA w l).1=false)(b:(bA w l).1.Z8=false):bj w l=bA w l:=by grind [bj,bY]
theorem rR(a:aG (bA w l).1=true)(b:((bA w l).1.text.toList == [36,41])=true):bj w l=bA w l:=by grind [bj,bY,aG]
theorem fV(a:l<=w.size):l<=(bj w l).2/\(bj w l).2<=w.size:=by unfold bj;(suffices h:∀f l,l<=w.size->l<=(bY w f l).2/\(bY w f l).2<=w.size from h _ _ a);intro f;induction f with|zero=>grind [bY]|succ f b=>grind [gy,bY,bA]
def cT(d:Vq):Nat->Nat->sW×Nat
 | 0,k=>(⟨⟨#[]⟩,0,true,k⟩,k)
 | f+1,k =>
  if aG (bA d k).1=true/\(bA d k).1.text.toList=[36,40] then
   if aG (bj d (bA d k).2).1=true then cT d f (bj d (bA d k).2).2 else bj d (bA d k).2
  else bA d k
def au(d:Vq)(k:Nat):sW×Nat:=cT d (d.size-k+1) k
theorem qr(f k:Nat)(b:k<=w.size)(a:w.size-k+1<=f):cT w f k=au w k:=by unfold au;(suffices h:∀f g k,k<=w.size->w.size-k+1<=f->w.size-k+1<=g->cT w f k=cT w g k from h _ _ _ b a (Vy _));intro f;induction f with|zero=>simp|succ f d=>{intro g k b a c;cases g with|zero=>omega|succ g=>grind [cT,gy,fV,bA]}
theorem Dj(d:l<=w.size)(a:aG (bA w l).1=true)(b:((bA w l).1.text.toList == [36,40])=true)(c:aG (bj w (bA w l).2).1=true) :
  au w l=au w (bj w (bA w l).2).2:=by grind [gy,fV,bA,au,cT,qr]
theorem vS(a:aG (bA w l).1=true)(b:((bA w l).1.text.toList == [36,40])=true)(c:aG (bj w (bA w l).2).1=false) :
  au w l=bj w (bA w l).2:=by grind [au,cT]
theorem jM(h:aG (bA w l).1=false∨((bA w l).1.text.toList == [36,40])=false):au w l=bA w l:=by grind [au,cT]
theorem fG(a:l<=w.size):l<=(au w l).2/\(au w l).2<=w.size/\(aG (au w l).1=true->l<(au w l).2):=by unfold au;(suffices h:∀f l,l<=w.size->l<=(cT w f l).2/\(cT w f l).2<=w.size/\(aG (cT w f l).1=true->l<(cT w f l).2) from h _ _ a);intro f;induction f with|zero=>grind [cT,aG]|succ f b=>grind [gy,fV,bA,cT,bj]
def jG(w:World)(r:Nat)(n d:Vq)(i:sW):Prop :=
 w.heap[r]?=some (aM #[an i.text,J i.Zac,bool i.Z8,an n,J (aV d i.pos),J (bZ d i.pos)] 223)
theorem jG.cells{t:Vq}{u:Int}{b:Bool}(h:jG f H s N ⟨t,u,b,a⟩) :
  cM f H 0 (an t)/\cM f H 1 (J u)/\cM f H 2 (bool b) /\
  cM f H 3 (an s)/\cM f H 4 (J (aV N a))/\cM f H 5 (J (bZ N a)):=by refine⟨?_,?_,?_,?_,?_,?_⟩ <;> exact ot h rfl
theorem jG.Z0{S:Vu}(h:jG f H s N y2)(b:aa S f k)(a:H∉S):jG k H s N y2:=b.get h a
theorem qk(h:jG f H s N y2)(j:sW) :
  jG ((((((f.setCell (aC H) (an j.text)).setCell (aq H 1) (J j.Zac)).setCell (aq H 2) (bool j.Z8)).setCell (aq H 3) (an s)).setCell (aq H 4) (J (aV N j.pos))).setCell (aq H 5) (J (bZ N j.pos))) H s N j:=by have:=ab (ab (ab (ab (ab (ab h 0 (an j.text)) 1 (J j.Zac)) 2 (bool j.Z8)) 3 (an s)) 4 (J (aV N j.pos))) 5 (J (bZ N j.pos));unfold jG;simp_all
theorem uU(h:f.heap[H]?=some y0)(b:H≠a)(c d e g i j:Value) :
  ((((((f.setCell (aC a) c).setCell (aq a 1) d).setCell (aq a 2) e).setCell (aq a 3) g).setCell (aq a 4) i).setCell (aq a 5) j).heap[H]?=some y0:=by rw[VN _ _ _ _ b,VN _ _ _ _ b,VN _ _ _ _ b,VN _ _ _ _ b,VN _ _ _ _ b,VN _ _ _ _ b];exact h
theorem rn(a:w.size<=1024):(bA w l).1.text.size<=1024:=by unfold bA;simp only;split;{simp[ByteArray.size]};{split;{simp[ByteArray.size]};{simp;omega}}
set_option maxRecDepth 100000
theorem EE(hd:w.size<=1024)(hk:x<=w.size)(h:cy d n i w x) :
  bF 153 #[bS n] d λe w'=>e=dw (fW i w (bj w x).1)/\cy w' n i w (bj w x).2/\aa [n] d w':=by
 have ak:=am h;go_enter func153,ntmps153;go_wp2_with fail;refine(xo n x i w _ hd hk (by exact h.Z0 (bN.alloc _) (by simp))).mono ?_;rintro e w1 ⟨rfl,h1,U⟩;have W:w1.heap[d.heap.size]?=some (aM lH 223):=U.get (VB ..) (by grind);have ad:aa [n] d w1:=((aa.refl ..).alloc _).trans U;have ai:=am h1;have ah:=am W;simp[fW];go_wp2;go_loopg [] (w.size-x) (λg wr=>∃j,j<=w.size/\g=w.size-j/\Z (bj w x=bj w j)/\cy wr n i w (bA w j).2/\jG wr w1.heap.size i w (bA w j).1/\wr.heap[d.heap.size]?=some (aM lH 223)/\aa [n] d wr);{exact⟨x,hk,rfl,rfl,h1.Z0 (bN.alloc _) (by simp),VB ..,(bN.alloc _).gt W,ad.alloc _⟩};have⟨j,hj,hg,X,L,B,V,m⟩:=hrel;have s:=gy w j hj;have af:=rn w j hd;have L1:Z _:=xQ w j hj;have L2:Z _:=tz w j;have L3:Z _:=ox w j;have L4:Z _:=vE w j;have L5:Z _:=rR w j;generalize hrr:bA w j=r at *;have⟨⟨t,u,f,p⟩,z⟩:=r;have HR:Z (bA w j=(⟨t,u,f,p⟩,z)):=hrr;simp only at L B s af;have⟨N,O,P,R,S,T⟩:=B.cells;cases M:(u==0 && !f)
 ·cases A:f
  ·(have q:Z (bj w j=(⟨t,u,false,p⟩,z)):=(by have:=L4 (by simpa [aG] using M) A;rw[A]at this;exact this);subst A;have ag:(u==0)=false:=by grind)
   go_wp2_with fail;refine(dI t i u (aV w p) (bZ w p) _ _).mono ?_;rintro e w2 ⟨rfl,a⟩;have k:=B.Z0 a (by simp);have l:=L.Z0 a (by simp);have b:=a.gt V;have c:=m.trans (a.mono (by simp));have⟨N,O,P,R,S,T⟩:=k.cells;have⟨E,F,G,H,I,K⟩:=ik b;have y:=ay b;go_wp2;exact VV (v:=fW i w ⟨t,u,false,p⟩) (by simp[results,results153,go_sem,fW,E,F,G,H,I,K]) rfl
    (by rw[X.o,q.o];exact⟨rfl,g7 l (by omega) ..,iE c (Vy _) ..⟩)
  ·have q:Z (bj w j=(⟨⟨#[]⟩,3,false,p⟩,z)):=L3 (by simpa [aG] using M) A;subst A;go_wp2_with fail;refine(dI t i u (aV w p) (bZ w p) _ _).mono ?_;rintro e w2 ⟨rfl,a⟩;have k:=B.Z0 a (by simp);have l:=L.Z0 a (by simp);have b:=a.gt V;have c:=m.trans (a.mono (by simp));have⟨N,O,P,R,S,T⟩:=k.cells;have⟨E,F,G,H,I,K⟩:=ik b;have y:=ay b;go_wp2;exact VV (v:=fW i w ⟨⟨#[]⟩,3,false,p⟩) (by simp[results,results153,go_sem,fW,E,F,G,H,I,K]) rfl
    (by rw[X.o,q.o];exact⟨rfl,g7 l (by omega) ..,iE c (Vy _) ..⟩)
 ·cases hx:(t.toList == [36,41])
  ·cases hy:mn t;{have q:Z _:=L1 M hx hy;go_wp2_with fail;refine(dI t i u (aV w p) (bZ w p) _ _).mono ?_;rintro e w2 ⟨rfl,a⟩;have k:=B.Z0 a (by simp);have l:=L.Z0 a (by simp);have b:=a.gt V;have c:=m.trans (a.mono (by simp));have⟨N,O,P,R,S,T⟩:=k.cells;go_wp2_with fail;refine(vD t _ (by omega)).mono ?_;rintro e w3 ⟨rfl,rfl⟩;go_wp2_with fail;refine(xo n z i w _ hd s.2.1 l).mono ?_;rintro e w4 ⟨rfl,h4,D⟩;have C:=k.Z0 D (by grind);have yy:=ay C;have⟨N,O,P,R,S,T⟩:=C.cells;simp[fW];go_wp2;go_roundg (w.size-z);(case measure=>have:=s.2.2 M;omega);case rel=>exact⟨z,s.2.1,rfl,X.o.trans q,g7 h4 (by omega) ..,qk C _,uU (D.get b (by grind)) (by omega) ..,iE (c.trans D) (by omega) ..⟩}
   ·have q:Z _:=L2 M hx hy;go_wp2_with fail;refine(dI t i u (aV w p) (bZ w p) _ _).mono ?_;rintro e w2 ⟨rfl,a⟩;have k:=B.Z0 a (by simp);have l:=L.Z0 a (by simp);have b:=a.gt V;have c:=m.trans (a.mono (by simp));have⟨N,O,P,R,S,T⟩:=k.cells;go_wp2_with fail;refine(vD t _ (by omega)).mono ?_;rintro e w3 ⟨rfl,rfl⟩;obtain⟨E,F,G,H,I,K⟩:=ik b;have y:=ay b;go_wp2;exact VV (v:=fW i w ⟨⟨#[]⟩,2,false,p⟩) (by simp[results,results153,go_sem,fW,E,F,G,H,I,K]) rfl
     (by rw[X.o,q.o];exact⟨rfl,g7 l (by omega) _ _ _ _ _ _,iE c (Vy _) _ _ _ _ _ _⟩)
  ·(have q:Z _:=L5 M hx;have A:f=false:=(by grind);subst A;have ag:(u==0)=true:=by grind)
   go_wp2_with fail;refine(dI t i u (aV w p) (bZ w p) _ _).mono ?_;rintro e w2 ⟨rfl,a⟩;have b:=a.gt V;have⟨N,O,P,R,S,T⟩:=(B.Z0 a (by simp)).cells;obtain⟨E,F,G,H,I,K⟩:=ik b;have y:=ay b;go_wp2;exact VV (v:=fW i w ⟨t,u,false,p⟩) (by simp[results,results153,go_sem,fW,E,F,G,H,I,K]) rfl
    (by rw[X.o,q.o];exact⟨rfl,g7 (L.Z0 a (by simp)) (by omega) ..,iE (m.trans (a.mono (by simp))) (Vy _) ..⟩)
theorem tQ(hd:w.size<=1024)(hk:x<=w.size)(h:cy d n i w x) :
  bF 134 #[bS n] d λe w'=>e=dw (fW i w (au w x).1)/\cy w' n i w (au w x).2/\aa [n] d w':=by
 have ap:=am h;go_enter func134,ntmps134;go_wp2_with fail;refine(xo n x i w _ hd hk (by exact h.Z0 (bN.alloc _) (by simp))).mono ?_;rintro e w1 ⟨rfl,h1,N⟩;have P:w1.heap[d.heap.size]?=some (aM lH 223):=N.get (VB ..) (by grind);have af:aa [n] d w1:=((aa.refl ..).alloc _).trans N;have ao:=am h1;have ak:=am P;simp[fW];go_wp2;go_loopg [4] (w.size-x) (λg _ wr=>∃j,j<=w.size/\g=w.size-j/\Z (au w x=au w j)/\cy wr n i w (bA w j).2/\jG wr w1.heap.size i w (bA w j).1/\wr.heap[d.heap.size]?=some (aM lH 223)/\aa [n] d wr);{exact⟨x,hk,rfl,rfl,h1.Z0 (bN.alloc _) (by simp),VB ..,(bN.alloc _).gt P,af.alloc _⟩};have⟨j,hj,hg,hs,h2,M,hr,G⟩:=hrel;have q:=gy w j hj;have ai:=rn w j hd;have L1:Z _:=Dj w j hj;have L2:Z _:=vS w j;have L3:Z _:=jM w j;generalize hrr:bA w j=r at *;have⟨⟨t,u,f,p⟩,z⟩:=r;simp only at h2 M q ai;have⟨q0,q1,q2,q3,q4,q5⟩:=M.cells;cases hw:(u==0 && !f)
 ·have A:Z _:=L3 (VR hw);go_wp2_with fail;refine(dI t i u (aV w p) (bZ w p) _ _).mono ?_;rintro e w2 ⟨rfl,a⟩;have b:=M.Z0 a (by simp);have B:=h2.Z0 a (by simp);have m:=a.gt hr;have l:=G.trans (a.mono (by simp));have⟨q0,q1,q2,q3,q4,q5⟩:=b.cells;have⟨R,S,T,U,V,W⟩:=ik m;have y:=ay m;go_wp2;exact VV (v:=fW i w ⟨t,u,f,p⟩) (by simp[results,results134,go_sem,fW,R,S,T,U,V,W]) rfl
   (by rw[hs.o,A.o];exact⟨rfl,g7 B (by omega) ..,iE l (Vy _) ..⟩)
 ·cases hx:(t.toList == [36,40])
  ·have A:Z _:=L3 (VH hx);go_wp2_with fail;refine(dI t i u (aV w p) (bZ w p) _ _).mono ?_;rintro e w2 ⟨rfl,a⟩;have b:=M.Z0 a (by simp);have B:=h2.Z0 a (by simp);have m:=a.gt hr;have l:=G.trans (a.mono (by simp));have⟨q0,q1,q2,q3,q4,q5⟩:=b.cells;obtain⟨R,S,T,U,V,W⟩:=ik m;have y:=ay m;go_wp2;exact VV (v:=fW i w ⟨t,u,f,p⟩) (by simp[results,results134,go_sem,fW,R,S,T,U,V,W]) rfl
    (by rw[hs.o,A.o];exact⟨rfl,g7 B (by omega) _ _ _ _ _ _,iE l (Vy _) _ _ _ _ _ _⟩)
  ·have C:=fV w z q.2.1;have L4:Z _:=λ(h:_)=>L1 hw hx h;have L5:Z _:=λ(h:_)=>L2 hw hx h;generalize hcc:bj w z=c at *;have⟨⟨ct,K,X,I⟩,cz⟩:=c;have HC:Z (bj w z=(⟨ct,K,X,I⟩,cz)):=hcc;simp only at C;go_wp2_with fail;refine(dI t i u (aV w p) (bZ w p) _ _).mono ?_;rintro e w2 ⟨rfl,a⟩;have b:=M.Z0 a (by simp);have⟨q0,q1,q2,q3,q4,q5⟩:=b.cells;go_wp2_with fail;refine(EE n z i w _ hd q.2.1 (h2.Z0 a (by simp))).mono ?_;rintro e w3 ⟨rfl,h3,E⟩;have ah:=E.get (a.gt hr) (by grind);have O:=(G.trans (a.mono (by simp))).trans E;simp only[fW];rw[HC.o];simp only;go_wp2_with fail;refine(dI ct i K (aV w I) (bZ w I) _ _).mono ?_;rintro e w4 ⟨rfl,k⟩;have ag:jG w4 w3.heap.size i w ⟨ct,K,X,I⟩:=k.gt (VB _ _);have ad:=((b.Z0 E (by grind)).Z0 (bN.alloc _) (by simp)).Z0 k (by simp);have h4:=(h3.Z0 (bN.alloc _) (by simp)).Z0 k (by simp);have H:=k.get ((bN.alloc _).gt ah) (by simp);have s:=(O.alloc _).trans (k.mono (by simp));rw[HC.o]at h4;simp only at h4;have⟨p0,p1,p2,p3,p4,p5⟩:=ag.cells;cases L:(K==0 && !X)
   ·have A:Z _:=L5 L;have⟨R,S,T,U,V,W⟩:=ik H;have y:=ay H;go_wp2;exact VV (v:=fW i w ⟨ct,K,X,I⟩) (by simp[results,results134,go_sem,fW,R,S,T,U,V,W]) rfl
     (by rw[hs.o,A.o];exact⟨rfl,g7 h4 (by omega) ..,iE s (Vy _) ..⟩)
   {have A:Z _:=L4 L;go_wp2_with fail;refine(xo n cz i w _ hd C.2 h4).mono ?_;rintro e w5 ⟨rfl,h5,F⟩;have D:=ad.Z0 F (by grind);have yy:=ay D;have⟨q0,q1,q2,q3,q4,q5⟩:=D.cells;simp[fW];go_wp2;go_roundg (w.size-cz);(case measure=>have:=q.2.2 hw;omega);case rel=>exact⟨cz,C.2,rfl,hs.o.trans A,g7 h5 (by omega) ..,qk D _,uU (F.get H (by grind)) (by omega) ..,iE (s.trans F) (by omega) ..⟩}
structure Pl where
  Z9:Vq
  Zaa:Int
  Zab:Int
structure Q where
  Z3:Int
  Z5:Vq
  ZI:Vs
  ZT:List (Vq×Pl)
  Z8:Pl
  til:Nat
structure Db where
  ZQ:Vs
  ZK:Vs
  ZL:Vs
  ZR:Vs
  ZU:Vs
  Z6:List (Nat×Nat)
  ZZ:List Q
  rbl:Vu
  Z3:Int
  Z5:Vq
  ZI:Vs
  ZM:Bool
  ZT:List (Vq×Pl)
def strs(l:Vs):List Value:=l.map string
def pairs(l:List (Nat×Nat)):List Value:=l.flatMap (λp=>[J p.1,J p.2])
def pM(l:Vu):List Value:=l.map (λ(n:Nat)=>J n)
def se(p:Vq×Pl):List Value:=[an p.1,an p.2.Z9,J p.2.Zaa,J p.2.Zab]
def vq(l:List (Vq×Pl)):List Value:=l.flatMap se
def N6(s:Q)(a b:Hd):List Value :=
  [J s.Z3,an s.Z5,Y a.ao s.ZI.length a.cap,Y b.ao s.ZT.length b.cap,an s.Z8.Z9,J s.Z8.Zaa,J s.Z8.Zab,J s.til]
def ma(l:List Q)(H:Nat->Hd):List Value:=l.zipIdx.flatMap (λp=>N6 p.1 (H (10+2*p.2)) (H (11+2*p.2)))
def rowS(l:Vs):fY:=⟨9,1,l.length,strs l⟩
def nX(l:List (Nat×Nat)):fY:=⟨273,2,l.length,pairs l⟩
def rowN(l:Vu):fY:=⟨3,1,l.length,pM l⟩
def rowW(l:List (Vq×Pl)):fY:=⟨235,4,l.length,vq l⟩
def rowT(l:List Q)(H:Nat->Hd):fY:=⟨110,8,l.length,ma l H⟩
def symsAt(l:List Q)(i:Nat):Vs:=match l[i]? with | some s=>s.ZI | none=>[]
def vT(l:List Q)(i:Nat):List (Vq×Pl):=match l[i]? with | some s=>s.ZT | none=>[]
def inner(l:List Q)(n:Nat):fY:=if n % 2=0 then rowS (symsAt l (n / 2)) else rowW (vT l (n / 2))
def bC(d:Db)(H:Nat->Hd):Nat->fY
  | 0=>rowS d.ZQ
  | 1=>rowS d.ZK
  | 2=>rowS d.ZL
  | 3=>rowS d.ZR
  | 4=>rowS d.ZU
  | 5=>nX d.Z6
  | 6=>rowT d.ZZ H
  | 7=>rowN d.rbl
  | 8=>rowS d.ZI
  | 9=>rowW d.ZT
  | n+10=>inner d.ZZ n
def de(d:Db)(H:Nat->Hd):List Value :=
  [Y (H 0).ao d.ZQ.length (H 0).cap,Y (H 1).ao d.ZK.length (H 1).cap,Y (H 2).ao d.ZL.length (H 2).cap,Y (H 3).ao d.ZR.length (H 3).cap,
   Y (H 4).ao d.ZU.length (H 4).cap,Y (H 5).ao d.Z6.length (H 5).cap,Y (H 6).ao d.ZZ.length (H 6).cap,Y (H 7).ao d.rbl.length (H 7).cap,
   J d.Z3,an d.Z5,Y (H 8).ao d.ZI.length (H 8).cap,bool d.ZM,Y (H 9).ao d.ZT.length (H 9).cap]
def dY{α:Type}(H:Nat->α)(i:Nat)(h:α):Nat->α:=λj=>if j=i then h else H j
theorem cV{α:Type}(H:Nat->α)(i:Nat)(h:α):dY H i h i=h:=by simp[dY]
theorem bO{α:Type}(H:Nat->α)(i j:Nat)(h:α)(a:j≠i):dY H i h j=H j:=by simp[dY,a]
theorem R8{α:Type}(H:Nat->α)(i:Nat):dY H i (H i)=H:=by grind [dY]
theorem zS(l:List Q)(H a:Nat->Hd)(h:∀j,10<=j->a j=H j):ma l a=ma l H:=by grind [ma]
theorem Rk(d:Db)(H:Nat->Hd)(i:Nat)(h:Hd)(a:i<10)(j:Nat):bC d (dY H i h) j=bC d H j:=by (have e:ma d.ZZ (dY H i h)=ma d.ZZ H:=by grind [zS,bO]);unfold bC;grind [rowT]
def eD(H:Nat->Hd)(k:Nat):Prop:=∃i,(H i).Z1=some k
structure fq(P:Nat->Prop)(w w':World):Prop where
  os:w'.os=w.os
  tape:w'.tape=w.tape
  output:w'.output=w.output
  size:w.heap.size<=w'.heap.size
  block:∀k,k<w.heap.size->¬P k->w'.heap[k]?=w.heap[k]?
theorem fq.refl(P:Nat->Prop)(w:World):fq P w w:=⟨rfl,rfl,rfl,Vy _,λ_ _ _=>rfl⟩
theorem aa.toP(h:aa zU f k){P:Nat->Prop}(c:∀a,a∈zU->a<f.heap.size->P a):fq P f k :=
  ⟨h.os,h.tape,h.output,h.size,λa b d=>h.block a b (by grind)⟩
theorem fq.get(h:fq g f k)(a:f.heap[H]?=some y0)(b:¬g H):k.heap[H]?=some y0:=(h.block H (am a) b).trans a
theorem fq.ZN(h:fq g f k)(a:aW k ze):fq g f ze :=
  ⟨a.os.trans h.os,a.tape.trans h.tape,a.output.trans h.output,V9 h.size a.size,λi b c=>(a.block i (VW b h.size) (by simp)).trans (h.block i b c)⟩
theorem fq.setCell(h:fq g f k){p:Addr}(d:g p.block∨f.heap.size<=p.block)(u:Value):fq g f (k.setCell p u) :=
  ⟨h.os,h.tape,h.output,by have:=h.size;simp_all,λc a b=>by
    rw[VN _ _ _ _ (by grind)];exact h.block c a b⟩
structure ba(w:World)(b t:Nat)(pre post:List Value)(d:Db)(H:Nat->Hd):Prop where
  Z1:w.heap[b]?=some (aM (pre++(de d H++post)).toArray t)
  Zad:∀i,aD w (H i) (bC d H i)
  apart:∀i j,i≠j->(H i).Z1=none∨(H i).Z1≠(H j).Z1
  off:∀i,(H i).Z1≠some b
theorem fq.sr1(h:fq g f k)(b:f.heap.size<=H)(v:Value):fq g f (k.setCell (aq H a) v):=h.setCell (VH b) v
theorem ba.lt{b t:Nat}{post:List Value}{d:Db}(h:ba f b t D post d T):b<f.heap.size:=am h.Z1
theorem ba.free{d:Db}(h:ba f H a D L d T)(i:Nat):f.frozen? (aq H i)=false:=ay h.Z1 i
theorem ba.inlt{d:Db}(h:ba f H a D L d T)(c:eD T z8):z8<f.heap.size:=by have⟨i,b⟩:=c;exact(h.Zad i).lt b
theorem ba.keptP{d:Db}(h:ba f H a D L d T)(e:fq g f k)(j:¬g H)(l:∀c,eD T c->¬g c):ba k H a D L d T :=
  ⟨e.get h.Z1 j,λi=>(h.Zad i).ZS (λc b=>e.block c ((h.Zad i).lt b) (l c ⟨i,b⟩)),h.apart,h.off⟩
theorem ba.Z0{d:Db}{S:Vu}(h:ba f H a D L d T)(e:aa S f k)(c:H∉S)(i:∀b,eD T b->b∉S):ba k H a D L d T :=
  h.keptP (e.toP (P:=(·∈S)) (λ_ g _=>g)) c i
theorem ba.ZN{d:Db}(h:ba f H a D L d T)(b:aW f k):ba k H a D L d T:=h.Z0 b (by simp) (by simp)
theorem Lq(b:zz.length=x)(a:l<zs.length):(zz++(zs++y1)).toArray[x+l]?=zs[l]?:=by grind
theorem Lr(u:Value)(b:zz.length=x)(a:l<zs.length):(zz++(zs++y1)).set (x+l) u=zz++(zs.set l u++y1):=by grind
theorem ba.cellAt{d:Db}(h:ba f H a D L d T)(o:Nat)(c:D.length=o)(i:Nat)(b:i<13):f.cell? (aq H (o+i))=(de d T)[i]? :=
  (ar h.Z1 (o+i)).trans (Lq D (de d T) L o i c b)
theorem ba.cells{d:Db}(h:ba f H a D L d T)(o:Nat)(b:D.length=o) :
    cM f H o (Y (T 0).ao d.ZQ.length (T 0).cap)/\cM f H (o+1) (Y (T 1).ao d.ZK.length (T 1).cap) /\
    cM f H (o+2) (Y (T 2).ao d.ZL.length (T 2).cap)/\cM f H (o+3) (Y (T 3).ao d.ZR.length (T 3).cap) /\
    cM f H (o+4) (Y (T 4).ao d.ZU.length (T 4).cap)/\cM f H (o+5) (Y (T 5).ao d.Z6.length (T 5).cap) /\
    cM f H (o+6) (Y (T 6).ao d.ZZ.length (T 6).cap)/\cM f H (o+7) (Y (T 7).ao d.rbl.length (T 7).cap) /\
    cM f H (o+8) (J d.Z3)/\cM f H (o+9) (an d.Z5)/\cM f H (o+10) (Y (T 8).ao d.ZI.length (T 8).cap) /\
    cM f H (o+11) (bool d.ZM)/\cM f H (o+12) (Y (T 9).ao d.ZT.length (T 9).cap):=by have m:=h.cellAt o b;exact⟨m 0 (by omega),m 1 (by omega),m 2 (by omega),m 3 (by omega),m 4 (by omega),m 5 (by omega),m 6 (by omega),m 7 (by omega),m 8 (by omega),m 9 (by omega),m 10 (by omega),m 11 (by omega),m 12 (by omega)⟩
def aj(b:Nat)(w:World)(H:Nat->Hd)(w':World)(H':Nat->Hd):Prop :=
  fq (λk=>k=b∨eD H k) w w'/\∀k,eD H' k->eD H k∨w.heap.size<=k
theorem aj.refl(H:Nat->Hd):aj x d H d H:=⟨fq.refl ..,λ_ a=>VR a⟩
theorem aj.trans{w1:World}{g:Nat->Hd}(a:aj H f T w1 zn)(c:aj H w1 zn k g):aj H f T k g:=by refine⟨⟨c.1.os.trans a.1.os,c.1.tape.trans a.1.tape,c.1.output.trans a.1.output,V9 a.1.size c.1.size,?_⟩,?_⟩;{intro b d j;rw[<-a.1.block b d j];refine c.1.block b (VW d a.1.size) ?_;rintro (e | i);{omega};{rcases a.2 b i with h | h;{grind};{omega}}};{intro b d;rcases c.2 b d with h | h;{exact a.2 b h};{exact VH (V9 a.1.size h)}}
theorem aj.ZN(a:aj H f T k zn)(c:aW k ze):aj H f T ze zn :=
  a.trans ⟨c.toP (by simp),by grind⟩
theorem aj.first(c:aW f k)(a:aj H k T ze zn):aj H f T ze zn :=
  aj.trans ⟨c.toP (by simp),by grind⟩ a
theorem ba.putG{d d':Db}(h:ba f H a D L d T)(o c:Nat)(M:D.length=o)(i:Nat)(G:i<10)(m:Hd)(N:aD k m (bC d' T i))(n:f.grownBy k (T i).Z1)(b:m.Z1=none∨m.Z1=(T i).Z1∨∃g,m.Z1=some g/\f.heap.size<=g)(w:∀j,j≠i->aD f (T j) (bC d' T j))(u:Value)(F:c<13)(I:(de d T).set c u=de d' (dY T i m)) :
    ba (k.setCell (aq H (o+c)) u) H a D L d' (dY T i m)/\aj H f T (k.setCell (aq H (o+c)) u) (dY T i m):=by (have E:=h.lt;have y:k.heap[H]?=some (aM (D++(de d T++L)).toArray a):=(n.block H E (λe=>h.off i e.symm)).trans h.Z1;have v:∀j,(dY T i m j).Z1≠some H:=by intro j;by_cases e:j=i;{subst e;rw[cV];intro z;rcases b with b | b | ⟨g,b,p⟩;{grind};{exact h.off j (b ▸ z)};grind};{rw[bO _ _ _ _ e];exact h.off j});refine⟨⟨?_,?_,?_,v⟩,⟨n.os,n.tape,n.output,by have:=n.size;simp_all,?_⟩,?_⟩;{rw[ab y,WY,Lr D (de d T) L o c u M F,I]};{intro j;(have q:aD k (dY T i m j) (bC d' (dY T i m) j):=by rw[Rk d' T i m G j];by_cases e:j=i;{subst e;rwa [cV]};{rw[bO _ _ _ _ e];refine(w j e).ZS (λt s=>n.block t ((h.Zad j).lt s) ?_);intro x;rcases h.apart j i e with C | C;{grind};grind});refine q.ZS (λt s=>VN _ _ _ _ ?_);grind};{intro j l r;by_cases e:j=i;{subst e;rw[cV,bO _ _ _ _ (by omega)];rcases b with b | b | ⟨g,b,p⟩;{grind};{rw[b];exact h.apart j l r};{right;rw[b];intro x;have:=(h.Zad l).lt x.symm;omega}};{rw[bO _ _ _ _ e];by_cases A:l=i;{subst A;rw[cV];rcases b with b | b | ⟨g,b,p⟩;{grind};{rw[b];exact h.apart j l r};{cases z:(T j).Z1 with|none=>simp|some t=>right;rw[b];intro x;cases x;have:=(h.Zad j).lt z;omega}};{rw[bO _ _ _ _ A];exact h.apart j l r}}};{intro t s K;rw[VN _ _ _ _ (by grind)];exact n.block t s (λe=>K (VH ⟨i,e.symm⟩))};{intro t s;have⟨j,e⟩:=s;by_cases B:j=i;{subst B;rw[cV]at e;rcases b with b | b | ⟨g,b,p⟩;{grind};{exact VR ⟨j,b ▸ e⟩};grind};{rw[bO _ _ _ _ B]at e;exact VR ⟨j,e⟩}}
theorem ba.put{d d':Db}(h:ba f H a D L d T)(o c:Nat)(s:D.length=o)(i:Nat)(p:i<10)(b:Hd)(t:aD k b (bC d' T i))(n:f.grownBy k (T i).Z1)(m:b.Z1=none∨b.Z1=(T i).Z1∨∃g,b.Z1=some g/\f.heap.size<=g)(e:∀j,j≠i->bC d' T j=bC d T j)(u:Value)(l:c<13)(r:(de d T).set c u=de d' (dY T i b)) :
    ba (k.setCell (aq H (o+c)) u) H a D L d' (dY T i b)/\aj H f T (k.setCell (aq H (o+c)) u) (dY T i b) :=
  h.putG o c s i p b t n m (λj q=>by rw[e j q];exact h.Zad j) u l r
theorem ba.set{d d':Db}(h:ba f H a D L d T)(o c:Nat)(l:D.length=o)(b:∀j,bC d' T j=bC d T j)(u:Value)(e:c<13)(i:(de d T).set c u=de d' T) :
    ba (f.setCell (aq H (o+c)) u) H a D L d' T/\aj H f T (f.setCell (aq H (o+c)) u) T:=by refine⟨⟨?_,?_,h.apart,h.off⟩,(fq.refl ..).setCell (by simp) _,by grind⟩;{rw[ab h.Z1,WY,Lr D (de d T) L o c u l e,i]};{intro j;rw[b j];refine(h.Zad j).ZS (λk g=>VN _ _ _ _ ?_);rintro rfl;exact h.off j g}
theorem ba.app{d d':Db}(h:ba f H a D L d T)(o c:Nat)(x:D.length=o)(i:Nat)(v:i<10)(g b m:Nat)(r:fY)(q:aD k ⟨some (aC g),b⟩ r)(y:r=bC d' T i)(n:f.grownBy k (T i).Z1)(l:(T i).Z1=some g∨f.heap.size<=g)(p:∀j,j≠i->bC d' T j=bC d T j)(u:c<13)(t:Value)(z:(de d T)[c]?=some t)(w:(de d T).set c (Y (some (aC g)) m b)=de d' (dY T i ⟨some (aC g),b⟩)) :
    cM k H (o+c) t/\k.frozen? (aq H (o+c))=false /\
    Z (ba (k.setCell (aq H (o+c)) (Y (some (aC g)) m b)) H a D L d' (dY T i ⟨some (aC g),b⟩) /\
      aj H f T (k.setCell (aq H (o+c)) (Y (some (aC g)) m b)) (dY T i ⟨some (aC g),b⟩)):=by
  have s:=(n.block H h.lt (λe=>h.off i e.symm)).trans h.Z1;subst y;refine⟨((ar s (o+c)).trans (by grind)).trans z,ay s _,?_⟩;exact h.put (d':=d') o c x i v ⟨some (aC g),b⟩ q n
    (by rcases l with e | e
        · exact VH (VR e.symm)
        · exact VH (VH ⟨g,rfl,by omega⟩)) p _ u w
theorem GG(d:Db)(H:Nat->Hd)(l:Vs):∀j,j≠0->bC { d with ZQ:=l } H j=bC d H j:=by
  intro j a
  match j with
  | 0=>omega
  | 1=>rfl
  | 2=>rfl
  | 3=>rfl
  | 4=>rfl
  | 5=>rfl
  | 6=>rfl
  | 7=>rfl
  | 8=>rfl
  | 9=>rfl
  | n+10=>rfl
theorem zH(d:Db)(H:Nat->Hd)(l:Vs):∀j,j≠1->bC { d with ZK:=l } H j=bC d H j:=by
  intro j a
  match j with
  | 0=>rfl
  | 1=>omega
  | 2=>rfl
  | 3=>rfl
  | 4=>rfl
  | 5=>rfl
  | 6=>rfl
  | 7=>rfl
  | 8=>rfl
  | 9=>rfl
  | n+10=>rfl
theorem zK(d:Db)(H:Nat->Hd)(l:Vs):∀j,j≠2->bC { d with ZL:=l } H j=bC d H j:=by
  intro j a
  match j with
  | 0=>rfl
  | 1=>rfl
  | 2=>omega
  | 3=>rfl
  | 4=>rfl
  | 5=>rfl
  | 6=>rfl
  | 7=>rfl
  | 8=>rfl
  | 9=>rfl
  | n+10=>rfl
theorem vW(d:Db)(H:Nat->Hd)(l:Vs):∀j,j≠3->bC { d with ZR:=l } H j=bC d H j:=by
  intro j a
  match j with
  | 0=>rfl
  | 1=>rfl
  | 2=>rfl
  | 3=>omega
  | 4=>rfl
  | 5=>rfl
  | 6=>rfl
  | 7=>rfl
  | 8=>rfl
  | 9=>rfl
  | n+10=>rfl
theorem zJ(d:Db)(H:Nat->Hd)(l:Vs):∀j,j≠4->bC { d with ZU:=l } H j=bC d H j:=by
  intro j a
  match j with
  | 0=>rfl
  | 1=>rfl
  | 2=>rfl
  | 3=>rfl
  | 4=>omega
  | 5=>rfl
  | 6=>rfl
  | 7=>rfl
  | 8=>rfl
  | 9=>rfl
  | n+10=>rfl
theorem vX(d:Db)(H:Nat->Hd)(l:List (Nat×Nat)):∀j,j≠5->bC { d with Z6:=l } H j=bC d H j:=by
  intro j a
  match j with
  | 0=>rfl
  | 1=>rfl
  | 2=>rfl
  | 3=>rfl
  | 4=>rfl
  | 5=>omega
  | 6=>rfl
  | 7=>rfl
  | 8=>rfl
  | 9=>rfl
  | n+10=>rfl
theorem GH(d:Db)(H:Nat->Hd)(l:Vu):∀j,j≠7->bC { d with rbl:=l } H j=bC d H j:=by
  intro j a
  match j with
  | 0=>rfl
  | 1=>rfl
  | 2=>rfl
  | 3=>rfl
  | 4=>rfl
  | 5=>rfl
  | 6=>rfl
  | 7=>omega
  | 8=>rfl
  | 9=>rfl
  | n+10=>rfl
theorem uc(d:Db)(H:Nat->Hd)(l:Vs):∀j,j≠8->bC { d with ZI:=l } H j=bC d H j:=by
  intro j a
  match j with
  | 0=>rfl
  | 1=>rfl
  | 2=>rfl
  | 3=>rfl
  | 4=>rfl
  | 5=>rfl
  | 6=>rfl
  | 7=>rfl
  | 8=>omega
  | 9=>rfl
  | n+10=>rfl
theorem zI(d:Db)(H:Nat->Hd)(l:List (Vq×Pl)):∀j,j≠9->bC { d with ZT:=l } H j=bC d H j:=by
  intro j a
  match j with
  | 0=>rfl
  | 1=>rfl
  | 2=>rfl
  | 3=>rfl
  | 4=>rfl
  | 5=>rfl
  | 6=>rfl
  | 7=>rfl
  | 8=>rfl
  | 9=>omega
  | n+10=>rfl
theorem NQ(d:Db)(H:Nat->Hd)(l:Int):∀j,bC { d with Z3:=l } H j=bC d H j:=by intro j;rfl
theorem JP(d:Db)(H:Nat->Hd)(l:Vq):∀j,bC { d with Z5:=l } H j=bC d H j:=by intro j;rfl
theorem DE(d:Db)(H:Nat->Hd)(l:Bool):∀j,bC { d with ZM:=l } H j=bC d H j:=by intro j;rfl
def bi(l:Vs)(x:Vq):Bool:=l.any (λy=>y.toList==x.toList)
theorem Lj(h:l<y.length)(b:bi y w=bi (y.drop l) w)(a:((y[l]).toList==w.toList)=true):bi y w=true:=by grind [bi]
theorem Ff(h:l<y.length)(a:bi y w=bi (y.drop l) w)(b:((y[l]).toList==w.toList)=false):bi y w=bi (y.drop (l+1)) w:=by rw[a,Wj h];grind [bi]
theorem Fh(h:¬l<y.length)(a:bi y w=bi (y.drop l) w):bi y w=false:=by rw[a,WO (by omega)];rfl
theorem rx(h:l<y.length):(strs y)[l]?=some (an y[l]):=by simp[strs,h]
set_option maxRecDepth 512
theorem fK(n:aD d M (rowS y))(z:y.length<=1073741824) :
  bF 188 #[Y M.ao y.length M.cap,an w] d (ij (bool (bi y w)) d):=by have⟨s,p⟩:=M;rcases n.ZY with ⟨c,r,_⟩ | ⟨g,q,l,_⟩;{have e:y.length=0:=r;have f:=Wx e;subst f;injection c with c u;subst c;go_enter func188,ntmps188;go_wp2;refine Xw 1 ?_;rw[XP];go_wp2;go_ret;exact⟨rfl,rfl⟩};{simp only at l;subst l;go_enter func188,ntmps188;go_wp2;go_loopg [5] y.length (λg i wr=>∃k:Nat,k<=y.length/\g=y.length-k/\i=J k/\Z (bi y w=bi (y.drop k) w)/\wr=d);{exact⟨0,by omega,by omega,rfl,rfl,rfl⟩};obtain⟨k,x,v,rfl,j,rfl⟩:=hrel;by_cases a:k<y.length;{have t:=n.cell rfl k (an y[k]) (rx y k a);cases m:((y[k]).toList==w.toList);{have b:Z _:=Ff y w k a j m;go_wp2;go_roundg (y.length-(k+1));{grind};omega};{have b:Z _:=Lj y w k a j m;go_wp2;go_ret;exact⟨aT b.o.symm,rfl⟩}};{have b:Z _:=Fh y w k a j;go_wp2;go_ret;exact⟨aT b.o.symm,rfl⟩}}
theorem fD:(prog.info? 9).map (λi=>(i.zero,i.size,i.bytes))=some (some (cL),1,16):=by kernel_rfl
theorem Ob:strs (y++[w])=strs y++[an w]:=by simp[strs]
theorem bE:(⟨(rowS y).e,(rowS y).size,(rowS y).n+1,(rowS y).xs++[an w]⟩:fY)=rowS (y++[w]):=by simp[rowS,Ob]
set_option maxRecDepth 100000
theorem Cp(d:Db)(H:Nat->Hd)(b:Vq)(w:World)(h:ba w n x v o d H)(y:v.length=l)(L:d.ZQ.length<=1073741824) :
  bF 201 #[pointer (some (aq n l)),an b] w λe A=>e=dw (tuple #[])/\∃s,ba A n x v o { d with ZQ:=d.ZQ++[b] } s/\aj n w H A s:=by have⟨E,D,p,q,r⟩:=Wh fD;have⟨M,N,O,P,R,S,T,U,V,W,G,I,K⟩:=h.cells l y;have t:=h.ZN ((aa.refl [] w).alloc (aM #[an b] 9));go_enter func201,ntmps201;go_wp2_with (at_builtin;refine aA _ rfl (.tmp 8) (.tmp 10) 22 rfl E (cL) 16 (H 0) (rowS d.ZQ) underlying22 D p q r rfl VL rfl (t.Zad 0) (aC w.heap.size) 1 1 [an b] rfl rfl ?c1 ?c2 VL ?c3 ?c4 ?_);(case c1=>intro j u f;match j,f with | 0,f=>simp at f;subst f;simp[Addr.add]);(case c2=>intro u z;simp at z;subst z;rfl);(case c3=>simp[rowS];unfold maxLen;omega);(case c4=>simp[rowS];omega);{intro g c X m k a;have⟨F,C,i⟩:=t.app (d':={ d with ZQ:=d.ZQ++[b] }) l 0 y 0 (by omega) g c ((rowS d.ZQ).n+1) _ m (bE d.ZQ b) k (by simpa using a) (GG d H _) (by omega) _ rfl (by simp[de,dY,rowS]);simp[Nat.add_zero]at F C i;go_wp2;go_end0;exact⟨rfl,_,i.1,i.2.first ((aa.refl [] w).alloc _)⟩}
theorem Cq(d:Db)(H:Nat->Hd)(b:Vq)(w:World)(h:ba w n x v o d H)(y:v.length=l)(K:d.ZU.length<=1073741824) :
  bF 204 #[pointer (some (aq n l)),an b] w λe A=>e=dw (tuple #[])/\∃r,ba A n x v o { d with ZU:=d.ZU++[b] } r/\aj n w H A r:=by have⟨D,C,m,p,q⟩:=Wh fD;have⟨M,N,O,P,R,S,T,U,V,W,E,F,G⟩:=h.cells l y;have t:=h.ZN ((aa.refl [] w).alloc (aM #[an b] 9));go_enter func204,ntmps204;go_wp2_with (at_builtin;refine aA _ rfl (.tmp 8) (.tmp 10) 22 rfl D (cL) 16 (H 4) (rowS d.ZU) underlying22 C m p q rfl VL rfl (t.Zad 4) (aC w.heap.size) 1 1 [an b] rfl rfl ?c1 ?c2 VL ?c3 ?c4 ?_);(case c1=>intro j u f;match j,f with | 0,f=>simp at f;subst f;simp[Addr.add]);(case c2=>intro u z;simp at z;subst z;rfl);(case c3=>simp[rowS];unfold maxLen;omega);(case c4=>simp[rowS];omega);{intro g c X k i a;have⟨L,I,s⟩:=t.app (d':={ d with ZU:=d.ZU++[b] }) l 4 y 4 (by omega) g c ((rowS d.ZU).n+1) _ k (bE d.ZU b) i (by simpa using a) (zJ d H _) (by omega) _ rfl (by simp[de,dY,rowS]);(skip);go_wp2;go_end0;exact⟨rfl,_,s.1,s.2.first ((aa.refl [] w).alloc _)⟩}
structure gF(d:Db)(N:Nat):Prop where
 ZQ:d.ZQ.length<=N
 ZK:d.ZK.length<=N
 ZL:d.ZL.length<=N
 ZR:d.ZR.length<=N
 ZU:d.ZU.length<=N
 Z6:d.Z6.length<=N
 ZZ:d.ZZ.length<=N
 rbl:d.rbl.length<=N
 ZI:d.ZI.length<=N
 ZT:d.ZT.length<=N
theorem rm:(⟨(rowS I).e,(rowS I).size,(rowS I).n+y.length,(rowS I).xs++strs y⟩:fY)=rowS (I++y):=by simp[rowS,strs]
theorem fI:∀u∈strs y,u.oneCell'=true:=by intro u a;simp[strs,List.mem_map]at a;obtain⟨x,_,rfl⟩:=a;rfl
theorem uo(d:Db)(H:Nat->Hd)(w:World)(h:ba w n x v o d H)(A:v.length=l)(L:0<d.ZI.length)(B:gF d 100000000) :
  bF 202 #[pointer (some (aq n l)),Y (H 8).ao d.ZI.length (H 8).cap] w λe C=>e=dw (tuple #[])/\∃r,ba C n x v o { d with ZK:=d.ZK++d.ZI } r/\aj n w H C r:=by have⟨M,F,m,p,q⟩:=Wh fD;have⟨T,U,V,W,X,q5,q6,q7,q8,q9,N,O,P⟩:=h.cells l A;have f:=h.Zad 8;have I:=B.ZK;have K:=B.ZI;rcases f.ZY with ⟨_,E,_⟩ | ⟨z,t,y,_⟩;{have:d.ZI.length=0:=E;omega};{(rw[y];have c:Z (∀j u,(strs d.ZI)[j]?=some u->w.cell? (((aC z):Addr).add j)=some u):=λj u G=>by rw[bw];exact f.cell y j u G);go_enter func202,ntmps202;go_wp2_with (at_builtin;refine aA _ rfl (.tmp 8) (.tmp 9) 22 rfl M (cL) 16 (H 1) (rowS d.ZK) underlying22 F m p q rfl VL rfl (h.Zad 1) (aC z) d.ZI.length (H 8).cap (strs d.ZI) rfl ?c0 c (fI _) L ?c3 ?c4 ?_);(case c0=>simp[strs,rowS]);(case c3=>simp[rowS];unfold maxLen;omega);(case c4=>simp[rowS];omega);{intro g b w1 k i a;have⟨S,R,s⟩:=h.app (d':={ d with ZK:=d.ZK++d.ZI }) l 1 A 1 (by omega) g b ((rowS d.ZK).n+d.ZI.length) _ k (rm d.ZK d.ZI) i a (zH d H _) (by omega) _ rfl (by simp[de,dY,rowS]);go_wp2;go_end0;exact⟨rfl,_,s.1,s.2⟩}}
def cX(v l:Vs):Vs:=l.foldl (λv x=>if bi v x=true then v else v++[x]) v
def fp(d:Db)(k:Nat):Db:={ d with ZR:=d.ZR++d.ZI,ZL:=cX d.ZL (d.ZI.take k) }
theorem Ou:cX I (y++[w])=if bi (cX I y) w=true then cX I y else cX I y++[w]:=by grind [cX]
theorem Hh(v l:Vs):(cX v l).length<=v.length+l.length:=by induction l generalizing v with|nil=>simp[cX]|cons x l a=>(have:=a (if bi v x=true then v else v++[x]);have e:cX v (x :: l)=cX (if bi v x=true then v else v++[x]) l:=rfl;rw[e];have b:(if bi v x=true then v else v++[x]).length<=v.length+1:=by split <;> simp);simp[List.length_cons];omega
theorem gc{α:Type}(l:List α)(k:Nat)(h:k<l.length):l.take (k+1)=l.take k++[l[k]]:=by simp
theorem up(d:Db)(H:Nat->Hd)(w:World)(h:ba w n x v o d H)(G:v.length=l)(hm:0<d.ZI.length)(hs:gF d 100000000) :
  bF 203 #[pointer (some (aq n l)),Y (H 8).ao d.ZI.length (H 8).cap] w λe w'=>e=dw (tuple #[])/\∃H',ba w' n x v o (fp d d.ZI.length) H'/\aj n w H w' H':=by have⟨i0,hi,K,L,M⟩:=Wh fD;have⟨N,O,q2,P,R,S,U,V,W,X,y,z,A⟩:=h.cells l G;have B:=h.Zad 3;have m:=h.Zad 8;have ah:=hs.ZR;have ai:=hs.ZI;have ak:=hs.ZL;rcases m.ZY with ⟨_,h0,_⟩ | ⟨g8,ad,e8,_⟩;{have:d.ZI.length=0:=h0;omega};{(rw[e8];have C:Z (∀j u,(strs d.ZI)[j]?=some u->w.cell? (((aC g8):Addr).add j)=some u):=λj u hj=>by rw[bw];exact m.cell e8 j u hj);clear m;go_enter func203,ntmps203;go_wp2_with (at_builtin;refine aA _ rfl (.tmp 9) (.tmp 10) 22 rfl i0 (cL) 16 (H 3) (rowS d.ZR) underlying22 hi K L M rfl VL rfl B (aC g8) d.ZI.length (H 8).cap (strs d.ZI) rfl ?c0 C (fI _) hm ?c3 ?c4 ?_);(case c0=>simp[strs,rowS]);(case c3=>simp[rowS];unfold maxLen;omega);(case c4=>simp[rowS];omega);{intro g q w1 s r a;have⟨k0,f0,E⟩:=h.app (d':=fp d 0) l 3 G 3 (by omega) g q ((rowS d.ZR).n+d.ZI.length) _ s (rm d.ZR d.ZI) r a (vW d H _) (by omega) _ rfl (by simp[de,dY,rowS,fp,cX]);clear B N O q2 P R S U V W X y z A s r a C;go_wp2;go_loopg [4] d.ZI.length (λg i wr=>∃(k:Nat) (f:Nat->Hd),k<=d.ZI.length/\g=d.ZI.length-k/\i=J k/\f 8=H 8/\ba wr n x v o (fp d k) f/\aj n w H wr f);{exact⟨0,_,by omega,by omega,rfl,by rfl,E.1,E.2⟩};obtain⟨k,f,hk,hg,rfl,h8,D,T⟩:=hrel;clear E k0 f0;by_cases F:k<d.ZI.length;{(have⟨N,O,q2,P,R,S,U,V,W,X,y,z,A⟩:=D.cells l G;have m:aD wr (H 8) (rowS d.ZI):=(by have:=D.Zad 8;rw[h8]at this;exact this);have c1:=m.cell e8 k (an d.ZI[k]) (rx d.ZI k F);have I:(fp d k).ZL.length<=1073741824:=by have:=Hh d.ZL (d.ZI.take k);simp[List.length_take]at this;(show(cX d.ZL (d.ZI.take k)).length<=_);omega);(have HS:Z (fp d (k+1)=if bi (fp d k).ZL d.ZI[k]=true then fp d k else { fp d k with ZL:=(fp d k).ZL++[d.ZI[k]] }):=by show fp d (k+1)=_;unfold fp;rw[gc d.ZI k F,Ou];simp only;split <;> rfl);generalize fp d k=b at *;generalize d.ZI[k]=c at *;clear N O P R S U V W X y z A m;cases hb:bi b.ZL c;{have HT:Z (fp d (k+1)={ b with ZL:=b.ZL++[c] }):=(by show fp d (k+1)=_;rw[HS.o];simp[hb]);clear HS;go_wp2_with fail;go_quiet ((go_at_call 188;exact Wk (fK (f 2) b.ZL c _ (D.ZN (bN.drewN _) |>.Zad 2) I)));have⟨p,t⟩:∃p,p=wr.drewN nq:=⟨_,rfl⟩;(rw[<-t];have D2:ba p n x v o b f:=by rw[t];exact D.ZN (bN.drewN _));(have T2:aj n w H p f:=(by rw[t];exact T.ZN (bN.drewN _));have af:cM p g8 k (an c):=(by rwa [t]);clear t c1 D T q2;have⟨N,O,q2,P,R,S,U,V,W,X,y,z,A⟩:=D2.cells l G;have ag:=D2.lt;clear N O P R S U V W X y z A;have hD:Z (ba (p.alloc (aM #[an c] 9)).drew n x v o b f):=D2.ZN ((aa.refl [] p).alloc _).drew;have s2:Z (∀j u,([an c]:List Value)[j]?=some u->(p.alloc (aM #[an c] 9)).drew.cell? (((aC p.heap.size):Addr).add j)=some u):=by intro j u hj;have hk:(p.alloc (aM #[an c] 9)).drew.heap[p.heap.size]?=some (aM #[an c] 9):=VB p _;rw[bw,ar hk];simpa using hj);have s3:Z (∀u∈([an c]:List Value),u.oneCell'=true):=(by intro u hu;simp at hu;subst hu;rfl);have s4:Z ((rowS b.ZL).n+1<=maxLen):=(by show _<=_;simp[rowS];unfold maxLen;omega);have s5:Z (((rowS b.ZL).n+1)*16<=140737488355328):=(by show _<=_;simp[rowS];omega);go_wp2_with fail;go_region_law (refine bn rfl (.tmp 34) (.tmp 39) 22 rfl i0 (cL) 16 (f 2) (rowS b.ZL) underlying22 hi K L M rfl VL (by rfl) (hD.o.Zad 2) (aC p.heap.size) 1 1 [an c] (by rfl) rfl s2 s3 VL s4 s5 ?_;intro g q w1 s r a;have⟨k5,f5,E⟩:=hD.o.app (d':={ b with ZL:=b.ZL++[c] }) l 2 G 2 (by omega) g q ((rowS b.ZL).n+1) _ s (bE b.ZL c) r (by omega) (zK b f _) (by omega) _ rfl (by simp[de,dY,rowS]);clear s r a);(all_goals go_wp2);all_goals(go_roundg (d.ZI.length-(k+1));{exact⟨k+1,_,by omega,rfl,by go_num,by simp[dY,h8],by rw[HT.o];exact E.1,T2.trans (E.2.first (bN.alloc _).drew)⟩};omega)};{have HT:Z (fp d (k+1)=b):=(by show fp d (k+1)=_;rw[HS.o];simp[hb]);clear HS;go_wp2_with fail;go_quiet ((go_at_call 188;exact Wk (fK (f 2) b.ZL c _ (D.ZN (bN.drewN _) |>.Zad 2) I)));go_wp2;go_roundg (d.ZI.length-(k+1));{exact⟨k+1,f,by omega,rfl,by go_num,h8,by rw[HT.o];exact D.ZN (bN.drewN _),T.ZN (bN.drewN _)⟩};omega}};{have e:k=d.ZI.length:=(by omega);subst e;go_wp2;go_end0;exact⟨rfl,f,D,T⟩}}}
def jJ(n:Int):Bool:=(decide (97<=n)&&decide (n<=122))||(decide (65<=n)&&decide (n<=90))||(decide (48<=n)&&decide (n<=57))||n==45||n==95||n==46
def cN(s:Vq):Bool:=(List.range s.size).all (λi=>jJ (zeb s i))
set_option maxRecDepth 512
theorem pE(n:Int)(w:World) :
  bF 212 #[int u8 n] w (ij (bool (jJ n)) w):=by by_cases b:(97<=n/\n<=122)∨(65<=n/\n<=90)∨(48<=n/\n<=57);{(have a:Z (jJ n=true):=by show jJ n=true;grind [jJ]);rcases b with b | b | b;all_goals(go_enter func212,ntmps212;go_wp2;go_ret;exact⟨aT a.o.symm,rfl⟩)};{(have a:Z (jJ n=(n==45||n==95||n==46)):=by show jJ n=_;grind [jJ]);go_enter func212,ntmps212;go_wp2;(all_goals go_ret);all_goals (refine⟨aT ?_,rfl⟩;first | rfl | (rw[a.o];done) | (rw[a.o];simp[*];done))}
theorem zaS(h:l<H)(a:zg l=false):(List.range H).all zg=false:=by grind
theorem Ta(h:∀i,i<H->zg i=true):(List.range H).all zg=true:=by grind
theorem mY(p:w.size<=1073741824) :
  bF 200 #[an w] d (ij (bool (cN w)) d):=by go_enter func200,ntmps200;go_wp2;go_loopg [3] w.size (λg i wr=>∃k:Nat,k<=w.size/\g=w.size-k/\i=J k/\Z (∀i,i<k->jJ (zeb w i)=true)/\wr=d);{exact⟨0,by omega,by omega,rfl,λi h=>by omega,rfl⟩};obtain⟨k,n,m,rfl,a,rfl⟩:=hrel;by_cases b:k<w.size;{cases f:jJ (w[k].toNat:Int);{have c:Z (cN w=false):=zaS k b (by rw[aR w k b];exact f);go_wp2_with fail;refine(pE _ _).mono ?_;rintro e l ⟨rfl,rfl⟩;go_wp2;go_ret;exact⟨aT c.o.symm,rfl⟩};{go_wp2_with fail;refine(pE _ _).mono ?_;rintro e l ⟨rfl,rfl⟩;go_wp2;go_roundg (w.size-(k+1));{refine⟨k+1,by omega,rfl,by go_num,?_,rfl⟩;intro i j;by_cases e:i=k;{grind [aR]};{exact a i (by omega)}};omega}};{have c:Z (cN w=true):=Ta (λi j=>a i (by omega));go_wp2;go_ret;exact⟨aT c.o.symm,rfl⟩}
theorem j9(d:Db)(H:Nat->Hd)(a:Vq)(w:World)(h:ba w n x v o d H)(c:v.length=l)(b:d.ZR.length<=1073741824) :
  bF 206 #[pointer (some (aq n l)),an a] w (ij (bool (bi d.ZR a)) w):=by obtain⟨j,k,m,p,q,r,s,t,u,y,f,g,i⟩:=h.cells l c;go_enter func206,ntmps206;go_wp2_with fail;refine(fK (H 3) d.ZR a _ (by exact h.Zad 3) b).mono ?_;rintro e z ⟨rfl,rfl⟩;go_wp2;go_ret;exact⟨rfl,rfl⟩
theorem mw(d:Db)(H:Nat->Hd)(a:Vq)(w:World)(h:ba w n x v o d H)(c:v.length=l)(b:d.ZK.length<=1073741824) :
  bF 207 #[pointer (some (aq n l)),an a] w (ij (bool (bi d.ZK a)) w):=by obtain⟨j,k,m,p,q,r,s,t,u,y,f,g,i⟩:=h.cells l c;go_enter func207,ntmps207;go_wp2_with fail;refine(fK (H 1) d.ZK a _ (by exact h.Zad 1) b).mono ?_;rintro e z ⟨rfl,rfl⟩;go_wp2;go_ret;exact⟨rfl,rfl⟩
theorem mZ(d:Db)(H:Nat->Hd)(a:Vq)(w:World)(h:ba w n x v o d H)(c:v.length=l)(b:d.ZU.length<=1073741824) :
  bF 208 #[pointer (some (aq n l)),an a] w (ij (bool (bi d.ZU a)) w):=by obtain⟨j,k,m,p,q,r,s,t,u,y,f,g,i⟩:=h.cells l c;go_enter func208,ntmps208;go_wp2_with fail;refine(fK (H 4) d.ZU a _ (by exact h.Zad 4) b).mono ?_;rintro e z ⟨rfl,rfl⟩;go_wp2;go_ret;exact⟨rfl,rfl⟩
def dx(d:Db)(x:Vq):Bool:=bi d.ZQ x||bi d.ZK x||bi d.ZL x
def eR(d:Db)(x:Vq):Bool:=bi d.ZQ x||bi d.ZK x||bi d.ZR x
theorem lq(d:Db)(H:Nat->Hd)(a:Vq)(w:World)(h:ba w n x v o d H)(j:v.length=l)(b:gF d 1073741824) :
  bF 189 #[pointer (some (aq n l)),an a] w (ij (bool (dx d a)) w):=by obtain⟨q,r,s,t,u,y,z,A,B,C,k,m,p⟩:=h.cells l j;cases g:bi d.ZQ a;{cases i:bi d.ZK a;{have c:Z (dx d a=bi d.ZL a):=(by show dx d a=_;simp[dx,g,i]);go_enter func189,ntmps189;go_wp2_with fail;refine(fK (H 0) d.ZQ a _ (by exact h.Zad 0) b.ZQ).mono ?_;rintro e f ⟨rfl,rfl⟩;go_wp2_with fail;refine(fK (H 1) d.ZK a _ (by exact h.Zad 1) b.ZK).mono ?_;rintro e f ⟨rfl,rfl⟩;go_wp2_with fail;refine(fK (H 2) d.ZL a _ (by exact h.Zad 2) b.ZL).mono ?_;rintro e f ⟨rfl,rfl⟩;go_wp2;go_ret;exact⟨aT (by rw[c.o]),rfl⟩};{have c:Z (dx d a=true):=(by show dx d a=_;simp[dx,g,i]);go_enter func189,ntmps189;go_wp2_with fail;refine(fK (H 0) d.ZQ a _ (by exact h.Zad 0) b.ZQ).mono ?_;rintro e f ⟨rfl,rfl⟩;go_wp2_with fail;refine(fK (H 1) d.ZK a _ (by exact h.Zad 1) b.ZK).mono ?_;rintro e f ⟨rfl,rfl⟩;go_wp2;go_ret;exact⟨aT (by rw[c.o]),rfl⟩}};{(have c:Z (dx d a=true):=by show dx d a=_;simp[dx,g]);go_enter func189,ntmps189;go_wp2_with fail;refine(fK (H 0) d.ZQ a _ (by exact h.Zad 0) b.ZQ).mono ?_;rintro e f ⟨rfl,rfl⟩;go_wp2;go_ret;exact⟨aT (by rw[c.o]),rfl⟩}
theorem CV(d:Db)(H:Nat->Hd)(a:Vq)(w:World)(h:ba w n x v o d H)(j:v.length=l)(b:gF d 1073741824) :
  bF 190 #[pointer (some (aq n l)),an a] w (ij (bool (eR d a)) w):=by obtain⟨q,r,s,t,u,y,z,A,B,C,k,m,p⟩:=h.cells l j;cases g:bi d.ZQ a;{cases i:bi d.ZK a;{have c:Z (eR d a=bi d.ZR a):=(by show eR d a=_;simp[eR,g,i]);go_enter func190,ntmps190;go_wp2_with fail;refine(fK (H 0) d.ZQ a _ (by exact h.Zad 0) b.ZQ).mono ?_;rintro e f ⟨rfl,rfl⟩;go_wp2_with fail;refine(fK (H 1) d.ZK a _ (by exact h.Zad 1) b.ZK).mono ?_;rintro e f ⟨rfl,rfl⟩;go_wp2_with fail;refine(fK (H 3) d.ZR a _ (by exact h.Zad 3) b.ZR).mono ?_;rintro e f ⟨rfl,rfl⟩;go_wp2;go_ret;exact⟨aT (by rw[c.o]),rfl⟩};{have c:Z (eR d a=true):=(by show eR d a=_;simp[eR,g,i]);go_enter func190,ntmps190;go_wp2_with fail;refine(fK (H 0) d.ZQ a _ (by exact h.Zad 0) b.ZQ).mono ?_;rintro e f ⟨rfl,rfl⟩;go_wp2_with fail;refine(fK (H 1) d.ZK a _ (by exact h.Zad 1) b.ZK).mono ?_;rintro e f ⟨rfl,rfl⟩;go_wp2;go_ret;exact⟨aT (by rw[c.o]),rfl⟩}};{(have c:Z (eR d a=true):=by show eR d a=_;simp[eR,g]);go_enter func190,ntmps190;go_wp2_with fail;refine(fK (H 0) d.ZQ a _ (by exact h.Zad 0) b.ZQ).mono ?_;rintro e f ⟨rfl,rfl⟩;go_wp2;go_ret;exact⟨aT (by rw[c.o]),rfl⟩}
theorem lp(d:Db)(H:Nat->Hd)(w:World)(h:ba w n x v o d H)(a:v.length=l) :
  bF 156 #[pointer (some (aq n l))] w (ij (bool (decide (0<d.Z6.length))) w):=by obtain⟨f,g,i,j,k,m,p,q,r,s,b,c,e⟩:=h.cells l a;go_enter func156,ntmps156;go_wp2;go_ret;exact⟨rfl,rfl⟩
def eP(d:Db):Bool:=d.Z3 != 0||decide (0<d.Z6.length)
theorem tU(d:Db)(H:Nat->Hd)(w:World)(h:ba w n x v o d H)(b:v.length=l) :
  bF 137 #[pointer (some (aq n l))] w (ij (bool (eP d)) w):=by obtain⟨j,k,m,p,q,r,s,t,u,y,c,f,g⟩:=h.cells l b;cases i:(d.Z3 != 0);{(have a:Z (eP d=decide (0<d.Z6.length)):=by show eP d=_;grind [eP]);go_enter func137,ntmps137;go_wp2_with fail;refine(lp n x l v o d H _ h b).mono ?_;rintro e z ⟨rfl,rfl⟩;go_wp2;go_ret;exact⟨aT (by rw[a.o]),rfl⟩};{(have a:Z (eP d=true):=by show eP d=_;grind [eP]);go_enter func137,ntmps137;go_wp2_with fail;go_ret;exact⟨aT (by rw[a.o]),rfl⟩}
def fM(d:Db):Int:=if(d.Z3==1)=true∨(d.Z3==2)=true then 2 else 1
theorem uD(d:Db)(H:Nat->Hd)(w:World)(h:ba w n x v o d H)(e:v.length=l) :
  bF 186 #[pointer (some (aq n l))] w (ij (J (fM d)) w):=by obtain⟨j,k,m,p,q,r,s,t,u,y,f,g,i⟩:=h.cells l e;cases b:(d.Z3==1);{cases c:(d.Z3==2);all_goals(have a:Z (fM d=if(d.Z3==1)=true∨(d.Z3==2)=true then 2 else 1):=rfl;go_enter func186,ntmps186;go_wp2;go_ret;exact⟨aB (by rw[a.o,b,c];simp),rfl⟩)};{(have a:Z (fM d=2):=by show fM d=_;grind [fM]);go_enter func186,ntmps186;go_wp2;go_ret;exact⟨aB (by rw[a.o]),rfl⟩}
theorem MC(n:aD d M (rowS I))(q:x<=1073741824) :
  bF 199 #[Y M.ao I.length M.cap,J x] d (ij (Y M.ao (if x<=I.length then x else I.length) M.cap) d):=by obtain⟨r,c⟩:=M;by_cases a:x<=I.length;{rcases n.ZY with ⟨e,m,_⟩ | ⟨g,o,i,j,k,l,_⟩;{have b:I.length=0:=m;have f:x=0:=(by omega);subst f;injection e with e j;subst e j;simp only[if_pos a];rw[b];clear n m a b q;go_enter func199,ntmps199;go_wp2;go_ret;exact⟨rfl,rfl⟩};{simp only at i k l;have p:I.length<=c:=k;unfold maxLen at l;subst i;simp only[if_pos a];go_enter func199,ntmps199;go_wp2;go_ret;exact⟨rfl,rfl⟩}};{simp only[if_neg a];go_enter func199,ntmps199;go_wp2;go_ret;exact⟨rfl,rfl⟩}
theorem aD.cut(o:aD f z9 (rowS z6))(c:Nat)(t:c<=z6.length):aD f z9 (rowS (z6.take c)):=by (have b:(z6.take c).length=c:=by grind);rcases o.ZY with ⟨k,q,_⟩ | ⟨g,a,e,l,m,i,j,n⟩;{(have r:z6.length=0:=q;have:c=0:=by omega);subst this;subst k;exact⟨by rfl,by grind⟩};{obtain⟨s,d⟩:=z9;simp only at e m i j;subst e;refine⟨by simp[rowS,strs],VH ⟨g,d,a,rfl,WD _,l,?_,i,j,?_⟩⟩;{grind [rowS]};{(have p:a.toList.take (z6.length*1)=strs z6:=n;simp only[rowS,b];have:strs (z6.take c)=(strs z6).take c:=by simp[strs]);grind}}
theorem zcp:(prog.info? 273).map (λi=>(i.zero,i.size,i.bytes))=some (some (agg #[J 0,J 0]),2,16):=by kernel_rfl
theorem sI:pairs (m++[z7])=pairs m++[J z7.1,J z7.2]:=by simp[pairs]
theorem NJ:(⟨(nX m).e,(nX m).size,(nX m).n+1,(nX m).xs++[J z7.1,J z7.2]⟩:fY)=nX (m++[z7]):=by simp[nX,sI]
set_option maxRecDepth 100000
theorem xH(d:Db)(H:Nat->Hd)(w:World)(h:ba w n x v o d H)(s:v.length=l)(P:d.Z6.length<=1073741824) :
  bF 181 #[pointer (some (aq n l))] w λe y=>e=dw (tuple #[])/\∃p,ba y n x v o { d with Z6:=d.Z6++[(d.ZR.length,d.ZU.length)] } p/\aj n w H y p:=by (obtain⟨D,B,i,k,m⟩:=Wh zcp;obtain⟨S,T,U,V,W,X,q6,q7,q8,q9,E,F,G⟩:=h.cells l s;have A:=h.lt;have r:Z (ba (w.alloc (aM #[J d.ZR.length,J d.ZU.length] 273)).drew n x v o d H):=h.ZN ((aa.refl [] w).alloc _).drew;have I:Z (∀j u,([J d.ZR.length,J d.ZU.length]:List Value)[j]?=some u->(w.alloc (aM #[J d.ZR.length,J d.ZU.length] 273)).drew.cell? (((aC w.heap.size):Addr).add j)=some u):=by intro j u O;rw[bw];have C:(w.alloc (aM #[J d.ZR.length,J d.ZU.length] 273)).drew.heap[w.heap.size]?=some (aM #[J d.ZR.length,J d.ZU.length] 273):=VB _ _;rw[ar C];grind);(have K:Z (∀u∈([J d.ZR.length,J d.ZU.length]:List Value),u.oneCell'=true):=by intro u t;simp at t;rcases t with rfl | rfl <;> rfl);(have L:Z ((nX d.Z6).n+1<=maxLen):=by show _<=_;simp only[nX];unfold maxLen;omega);(have M:Z (((nX d.Z6).n+1)*16<=140737488355328):=by show _<=_;simp only[nX];omega);go_enter func181,ntmps181;go_wp2_with fail;go_region_law (refine bn rfl (.tmp 6) (.tmp 18) 180 rfl D (agg #[J 0,J 0]) 16 (H 5) (nX d.Z6) underlying180 B i k m rfl Nat.two_pos (by rfl) (r.o.Zad 5) (aC w.heap.size) 1 1 [J d.ZR.length,J d.ZU.length] (by rfl) rfl I K VL L M ?_;intro g a w1 f c b;obtain⟨R,N,q⟩:=r.o.app (d':={ d with Z6:=d.Z6++[(d.ZR.length,d.ZU.length)] }) l 5 s 5 (by omega) g a ((nX d.Z6).n+1) _ f (NJ d.Z6 (d.ZR.length,d.ZU.length)) c (by omega) (vX d H _) (by omega) _ rfl (by simp[de,dY,nX]));(all_goals go_wp2);(all_goals go_end0);all_goals exact⟨rfl,_,q.1,q.2.first ((aa.refl [] w).alloc _).drew⟩
theorem oN(l:List (Nat×Nat)):(pairs l).length=l.length*2:=by induction l with|nil=>rfl|cons a r b=>grind [pairs]
theorem zp:(pairs (m++[z7]))[m.length*2]?=some (J z7.1)/\(pairs (m++[z7]))[m.length*2+1]?=some (J z7.2):=by grind [sI,oN]
theorem aD.pop{l:List (Nat×Nat)}{x:Nat×Nat}(o:aD f z9 (nX (l++[x]))):aD f z9 (nX l):=by rcases o.ZY with ⟨s,q,_⟩ | ⟨g,b,e,m,i,j,k,n⟩;{have d:(l++[x]).length=0:=q;simp at d};{obtain⟨r,a⟩:=z9;simp only at e i j k;subst e;have c:(l++[x]).length<=a:=i;simp at c;refine⟨by grind [nX,oN],VH ⟨g,a,b,rfl,WD _,m,?_,j,k,?_⟩⟩;{simp only[nX];omega};{(have p:b.toList.take ((l++[x]).length*2)=pairs (l++[x]):=n;simp only[nX];have t:pairs l=(pairs (l++[x])).take (l.length*2):=by grind [sI,oN]);grind}}
def dO(d:Db)(bl:List (Nat×Nat))(x:Nat×Nat):Db:={ d with Z6:=bl,ZR:=d.ZR.take x.1,ZU:=d.ZU.take x.2 }
theorem RU:(y.take l).length=if l<=y.length then l else y.length:=by grind
theorem aD.taken(o:aD f z9 (rowS z6))(c:Nat):aD f z9 (rowS (z6.take c)):=by by_cases a:c<=z6.length;{exact o.cut c a};{rw[Xy (by omega)];exact o}
theorem yk(b:Z ((I.take n).length=x))(c:aD d M (rowS I))(a:n<=1073741824) :
  bF 199 #[Y M.ao I.length M.cap,J n] d (ij (Y M.ao x M.cap) d):=by (have e:x=if n<=I.length then n else I.length:=by rw[<-b.o,RU]);rw[e];exact MC M I n d c a
theorem qY{d d':Db}(h:ba f H a D L d T)(i:D.length=z8)(e:x<10)(k:aD f (T x) (bC d' T x))(b:∀j,j≠x->bC d' T j=bC d T j)(u:Value)(c:l<13)(g:(de d T).set l u=de d' (dY T x (T x))) :
  ba (f.setCell (aq H (z8+l)) u) H a D L d' T/\aj H f T (f.setCell (aq H (z8+l)) u) T:=by have m:=R8 T x;have:=h.put (d':=d') z8 l i x e (T x) k (Y5 _ _) (by simp) b u c g;grind
theorem CB(d:Db)(H:Nat->Hd)(a:List (Nat×Nat))(M:Nat×Nat)(w:World)(h:ba w n x v o d H)(A:v.length=l)(F:d.Z6=a++[M])(hs:gF d 1073741824)(hx:M.1<=1073741824/\M.2<=1073741824) :
  bF 183 #[pointer (some (aq n l))] w λe w'=>e=dw (tuple #[])/\ba w' n x v o (dO d a M) H/\aj n w H w' H:=by (obtain⟨O,P,R,S,T,y,U,V,W,X,p,q,r⟩:=h.cells l A;obtain⟨b,f⟩:=M;simp only at hx;have k:=h.free;have ai:=h.lt;have K:=h.Zad 5;have c:aD w (H 5) (nX (a++[(b,f)])):=by have:=K;simp only[bC,F]at this;exact this);have u:=hs.Z6;rw[F]at u y;simp only[List.length_append,List.length_cons,List.length_nil]at u y;rcases c.ZY with ⟨e0,h0,_⟩ | ⟨g,ah,N,e2,e3,e4,e5,e6⟩;{have ad:(a++[(b,f)]).length=0:=h0;simp at ad};{(have p1:=c.cell N (a.length*2) _ (zp a (b,f)).1;have p2:=c.cell N (a.length*2+1) _ (zp a (b,f)).2;have ag:a.length+1<=(H 5).cap:=by have:(a++[(b,f)]).length<=(H 5).cap:=e3;grind);have P1:=qY 5 5 (d':={ d with Z6:=a }) h A (by omega) c.pop (vX d H a) (Y (some (aC g)) a.length (H 5).cap) (by omega) (by simp[de,dY,N]);obtain⟨s,i⟩:∃s,s=(w.setCell (aq n (l+5)) (Y (some (aC g)) a.length (H 5).cap)).alloc (aM #[J b,J f] 273):=⟨_,rfl⟩;(have z:ba s n x v o { d with Z6:=a } H:=by rw[i];exact P1.1.ZN (bN.alloc _));(have T2:aj n w H s H:=by rw[i];exact P1.2.ZN (bN.alloc _));(have B2:s.heap[w.heap.size]?=some (aM #[J b,J f] 273):=by rw[i];have:=VB (w.setCell (aq n (l+5)) (Y (some (aC g)) a.length (H 5).cap)) (aM #[J b,J f] 273);simpa [World.setCell] using this);have HW:Z ((w.setCell (aq n (l+5)) (Y (some (aC g)) a.length (H 5).cap)).alloc (aM #[J b,J f] 273)=s):=i.symm;rw[N]at y;simp only at p1 p2;clear K c e3 e4 e5 e6 e2 h P1 i;go_enter func183,ntmps183;go_upto_region 4 with fail;(rw[HW.o];obtain⟨c0,c1⟩:=xM B2;have af:w.heap.size≠n:=by omega);clear HW O P R S T y U V W X p q r p1 p2 k;obtain⟨O,P,R,S,T,y,U,V,W,X,p,q,r⟩:=z.cells l A;have k:=z.free;obtain⟨L,G⟩:∃m,Z ((d.ZR.take b).length=m):=⟨_,rfl⟩;obtain⟨m2,I⟩:∃m,Z ((d.ZU.take f).length=m):=⟨_,rfl⟩;have P3:=qY 3 3 (d':={ d with Z6:=a,ZR:=d.ZR.take b }) z A (by omega) ((z.Zad 3).taken b) (vW { d with Z6:=a } H (d.ZR.take b)) (Y (H 3).ao L (H 3).cap) (by omega) (by simp only[de,cV,<-G.o];rfl);obtain⟨t,j⟩:∃t,t=(s.setCell (aq n (l+3)) (Y (H 3).ao L (H 3).cap)).drew:=⟨_,rfl⟩;(have B:Z (ba t n x v o { d with Z6:=a,ZR:=d.ZR.take b } H):=by rw[j];exact P3.1.ZN bN.drew);(have T3:Z (aj n w H t H):=by rw[j];exact T2.trans (P3.2.ZN bN.drew));(have B3:Z (t.heap[w.heap.size]?=some (aM #[J b,J f] 273)):=by show t.heap[w.heap.size]?=_;rw[j];exact(VN s (aq n (l+3)) (Y (H 3).ao L (H 3).cap) w.heap.size af).trans B2);have D:Z ((s.setCell (aq n (l+3)) (Y (H 3).ao L (H 3).cap)).drew=t):=j.symm;clear j P3;go_region_with (go_at_call 199;refine(yk (H 3) d.ZR b L _ G (by exact z.Zad 3) hx.1).mono ?_;rintro e t ⟨rfl,rfl⟩);(all_goals go_upto_region 5 with fail);(all_goals rw[D.o]);all_goals(clear D O P R S T y U V W X p q r k z T2 B2 c0 c1;obtain⟨c0,c1⟩:=xM B3;obtain⟨O,P,R,S,T,y,U,V,W,X,p,q,r⟩:=B.o.cells l A;have k:=B.o.free;have P4:=qY 4 4 (d':=dO d a (b,f)) B A (by omega) ((B.o.Zad 4).taken f) (zJ { d with Z6:=a,ZR:=d.ZR.take b } H (d.ZU.take f)) (Y (H 4).ao m2 (H 4).cap) (by omega) (by simp only[de,dO,cV,<-I.o];rfl);have C:Z _:=P4;clear P4;go_region_with (go_at_call 199;refine(yk (H 4) d.ZU f m2 _ I (by exact B.o.Zad 4) hx.2).mono ?_;rintro e t ⟨rfl,rfl⟩);(all_goals go_wp2);(all_goals go_end0);all_goals exact⟨rfl,C.1.ZN bN.drew,T3.o.trans (C.2.ZN bN.drew)⟩)}
theorem Fa{α:Type}(f:α->List Value)(n:Nat)(b:∀a,(f a).length=n)(l:List α):(l.flatMap f).length=l.length*n:=by induction l with|nil=>simp|cons a l c=>grind
theorem E8{α:Type}(f:α->List Value)(n:Nat)(b:∀a,(f a).length=n)(l:List α)(i j:Nat)(c:i<l.length)(d:j<n):(l.flatMap f)[i*n+j]?=(f l[i])[j]?:=by induction l generalizing i with|nil=>grind|cons a l e=>{rw[Wf];cases i with|zero=>grind|succ i=>grind}
theorem PJ{α:Type}(f:α->List Value)(n:Nat)(d:∀a,(f a).length=n)(l:List α)(i j:Nat)(e:i<l.length)(g:j<n)(b:α)(v:Value)(c:f b=(f l[i]).set j v) :
  (l.flatMap f).set (i*n+j) v=(l.set i b).flatMap f:=by induction l generalizing i with|nil=>rfl|cons a l k=>{cases i with|zero=>grind|succ i=>grind}
theorem RI(l:List Q)(H:Nat->Hd):(ma l H).length=l.length*8:=by unfold ma;rw[Fa _ 8 (λ_=>rfl)];simp
theorem Kr(l:List (Vq×Pl)):(vq l).length=l.length*4:=Fa _ 4 (λ_=>rfl) l
theorem LN(l:List Q)(H:Nat->Hd)(i:Nat)(b:i<l.length)(j:Nat)(a:j<8):(ma l H)[i*8+j]?=(N6 l[i] (H (10+2*i)) (H (11+2*i)))[j]?:=by unfold ma;rw[E8 _ 8 (λ_=>rfl) _ i j (by simp_all) a];simp
theorem OB(l:List (Vq×Pl))(i:Nat)(a:i<l.length)(j:Nat)(b:j<4):(vq l)[i*4+j]?=(se l[i])[j]?:=E8 _ 4 (λ_=>rfl) l i j a b
theorem Oc(l:List Q)(s:Q)(H:Nat->Hd):ma (l++[s]) H=ma l H++N6 s (H (10+2*l.length)) (H (11+2*l.length)):=by grind [ma]
theorem Ku(l:List Q)(i:Nat)(s:Q):(l.set i s).zipIdx=l.zipIdx.set i (s,i):=by apply WZ;intro j;simp only[List.getElem?_zipIdx,List.getElem?_set,List.length_zipIdx];grind
theorem RK(l:List Q)(H:Nat->Hd)(i:Nat)(b:i<l.length)(N:Nat):(ma l H).set (i*8+7) (J N)=ma (l.set i { l[i] with til:=N }) H:=by unfold ma;rw[Ku];exact PJ _ 8 (λ_=>rfl) _ i 7 (by simp_all) (by omega) _ _ (by simp[N6])
theorem G0:(strs y).length=y.length*1:=by simp[strs]
theorem Bz:pM (zc++[l])=pM zc++[J l]:=by simp[pM]
theorem jV:(⟨(rowN zc).e,(rowN zc).size,(rowN zc).n+1,(rowN zc).xs++[J l]⟩:fY)=rowN (zc++[l]):=by simp[rowN,Bz]
theorem pD:(prog.info? 3).map (λi=>(i.zero,i.size,i.bytes))=some (some (J 0),1,8):=by kernel_rfl
def gX(k:Int):Bool:=k==4||k==5
set_option maxRecDepth 512
theorem di(k:Int)(b c d e f g i:Value)(w:World) :
  bF 93 #[agg #[J k,b,c,d,e,f,g,i]] w (mU (bool (gX k)) w):=by cases j:(k==4);{(have a:Z (gX k=(k==5)):=by show gX k=_;grind [gX]);go_enter func93,ntmps93;go_wp2;go_ret;exact⟨aT (by rw[a.o]),(aa.refl _ _).alloc _⟩};{(have a:Z (gX k=true):=by show gX k=_;grind [gX]);go_enter func93,ntmps93;go_wp2;go_ret;exact⟨aT (by rw[a.o]),(aa.refl _ _).alloc _⟩}
set_option maxRecDepth 100000
theorem Dy(d:Db)(H:Nat->Hd)(w:World)(h:ba w n x v o d H)(t:v.length=l)(E:gF d 100000000) :
  bF 182 #[pointer (some (aq n (l+6)))] w λe z=>e=dw (tuple #[])/\∃q,ba z n x v o { d with rbl:=d.rbl++[d.ZZ.length] } q/\aj n w H z q:=by (obtain⟨F,B,i,k,m⟩:=Wh pD;obtain⟨T,U,V,W,X,q5,q6,q7,q8,q9,G,I,K⟩:=h.cells l t;have A:=h.lt;have D:=E.rbl;have s:Z (ba (w.alloc (aM #[J d.ZZ.length] 3)).drew n x v o d H):=h.ZN ((aa.refl [] w).alloc _).drew;have L:Z (∀j u,([J d.ZZ.length]:List Value)[j]?=some u->(w.alloc (aM #[J d.ZZ.length] 3)).drew.cell? (((aC w.heap.size):Addr).add j)=some u):=by intro j u R;have C:(w.alloc (aM #[J d.ZZ.length] 3)).drew.heap[w.heap.size]?=some (aM #[J d.ZZ.length] 3):=VB _ _;rw[bw,ar C];grind);(have M:Z (∀u∈([J d.ZZ.length]:List Value),u.oneCell'=true):=by intro u y;simp at y;subst y;rfl);(have N:Z ((rowN d.rbl).n+1<=maxLen):=by show _<=_;simp only[rowN];unfold maxLen;omega);(have O:Z (((rowN d.rbl).n+1)*8<=140737488355328):=by show _<=_;simp only[rowN];omega);go_enter func182,ntmps182;go_wp2_with fail;go_region_law (refine bn rfl (.tmp 6) (.tmp 12) 46 rfl F (J 0) 8 (H 7) (rowN d.rbl) underlying46 B i k m rfl VL (by rfl) (s.o.Zad 7) (aC w.heap.size) 1 1 [J d.ZZ.length] (by rfl) rfl L M VL N O ?_;intro g a w1 f c b;obtain⟨S,P,r⟩:=s.o.app (d':={ d with rbl:=d.rbl++[d.ZZ.length] }) l 7 t 7 (by omega) g a ((rowN d.rbl).n+1) _ f (jV d.rbl _) c (by omega) (GH d H _) (by omega) _ rfl (by simp[de,dY,rowN]));(all_goals go_wp2);(all_goals go_end0);all_goals exact⟨rfl,_,r.1,r.2.first ((aa.refl [] w).alloc _).drew⟩
end Go.Proofs.YtnbalopedcgpcaaGreat
