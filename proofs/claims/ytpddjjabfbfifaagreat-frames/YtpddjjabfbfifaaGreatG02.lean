import Derived.Deep.LoopGhost
import Derived.Deep.CutRange
import Derived.Deep.CutBlock
import Derived.Deep.RegionLaw
import Derived.Test.YtpddjjabfbfifaaGreatG01
namespace Go.Proofs.YtpddjjabfbfifaaGreat
open Go.RowKit Tryz
set_option maxRecDepth 100000
set_option maxHeartbeats 40000000
variable{l k y0:World}{b a y5:Nat}{M I:ByteArray}{N:List Nat}{y1:Nat->Bool}{y7:rT}{y6:Obj}{g:Nat->Prop}{i D:List Value}{H y2:Nat->Hd}(n S:Nat)(y:ByteArray)(z6:Hd)(z7 T:List ByteArray)(w:ByteArray)(L:Int)(zb:List Value)(x:Nat)(v o:List Value)(y4 f:Nat)(d:World)(zt:List (Nat×Nat))(y3:Nat×Nat)
def l4:Array Value:=#[.string ⟨#[]⟩,.int .i64 0,.bool false,.string ⟨#[]⟩,.int .i64 0,.int .i64 0]
theorem hU(h:l.heap[b]?=some (.cells l4 255 (0,0))) :
  l.cell? ⟨b,0,none⟩=some (.string ⟨#[]⟩)/\l.cell? ⟨b,1,none⟩=some (.int .i64 0)/\l.cell? ⟨b,2,none⟩=some (.bool false) /\
  l.cell? ⟨b,3,none⟩=some (.string ⟨#[]⟩)/\l.cell? ⟨b,4,none⟩=some (.int .i64 0)/\l.cell? ⟨b,5,none⟩=some (.int .i64 0):=by
 refine⟨?_,?_,?_,?_,?_,?_⟩ <;> (rw[aa h];rfl)
theorem gQ(h:bV l b M I y5)(c:b≠a)(d g i e j f:Value) :
  bV ((((((l.setCell ⟨a,0,none⟩ d).setCell ⟨a,1,none⟩ g).setCell ⟨a,2,none⟩ i).setCell ⟨a,3,none⟩ e).setCell ⟨a,4,none⟩ j).setCell ⟨a,5,none⟩ f) b M I y5:=by
 unfold bV;rw[Q4 _ _ _ _ c,Q4 _ _ _ _ c,Q4 _ _ _ _ c,Q4 _ _ _ _ c,Q4 _ _ _ _ c,Q4 _ _ _ _ c];exact h
theorem iu(h:ab N l k)(a:l.heap.size<=b)(c f g d i e:Value) :
  ab N l ((((((k.setCell ⟨b,0,none⟩ c).setCell ⟨b,1,none⟩ f).setCell ⟨b,2,none⟩ g).setCell ⟨b,3,none⟩ d).setCell ⟨b,4,none⟩ i).setCell ⟨b,5,none⟩ e) :=
 (((((h.setCell (QV a) _).setCell (QV a) _).setCell (QV a) _).setCell (QV a) _).setCell (QV a) _).setCell (QV a) _
theorem vv(hd:w.size<=1024)(hk:S<=w.size)(h:bV d n y w S) :
  Calls prog 203 #[.pointer (some ⟨n,0,none⟩)] d fun e w'=>e=.returned (fg y w (bC w S).1)/\bV w' n y w (bC w S).2/\ab [n] d w':=by
 have al:=ae h;go_enter func203,ntmps203;go_upto_block 0 with fail
 go_cut [] from 5 (fun wc=>∃j,S<=j/\j<=w.size/\Hid (j=skip w S)/\bV wc n y w j/\wc.heap[d.heap.size]?=some (.cells l4 255 (0,0))/\ab [n] d wc)
 case first =>
  go_wp2_with fail
  go_loopg [] (w.size-S) (fun g wr=>∃j,S<=j/\j<=w.size/\g=w.size-j/\Hid (skip w j=skip w S)/\bV wr n y w j/\wr.heap[d.heap.size]?=some (.cells l4 255 (0,0))/\ab [n] d wr)
  case atStart=>exact⟨S,QR _,hk,rfl,rfl,bV.kept h ((ab.refl [] d).alloc _) (by simp),QS _ _,(ab.refl _ _).alloc _⟩
  case round =>
   obtain⟨j,K,hj,hg,o,f,m,b⟩:=hrel;obtain⟨L,Q,V,M,P⟩:=f.cells;have r:=ae m;have q:=ae f;have t:d.heap.size∉[n]:=by simp;omega
   by_cases Y:j<w.size/\cO (aF w j)=true
   ·obtain⟨a,p⟩:=Y
    have c:=p;rw[bP w j a]at c;have Z:Hid (skip w (j+1)=skip w S):=(GL w j a p).symm.trans o.out;clear p;go_wp2_with fail
    go_quiet ((go_at_call 226;exact Rd (kl _ _)))
    go_wp2_with fail;refine(C4 n j y w _ hd a (by exact f)).mono ?_;rintro e w1 ⟨rfl,C,l⟩;go_wp2
    go_roundg (w.size-(j+1))
    case measure=>omega
    case rel=>exact⟨j+1,by omega,by omega,rfl,Z,C,l.get (by exact m) t,(b.drewN nq).trans l⟩
   ·have af:Hid (j=skip w S):=(o.out.symm.trans (tw w j Y)).symm
    have H:(j<w.size/\∃h:j<w.size,cO ((w[j]'h).toNat:Int)=false)∨(¬j<w.size/\decide ((j:Int)<(w.size:Int))=false):=by
     by_cases a:j<w.size
     ·refine Q1 ⟨a,a,?_⟩
      rw[<-bP w j a];simpa using fun h=>Y ⟨a,h⟩
     ·exact QV ⟨a,by simp;omega⟩
    clear Y o
    rcases H with ⟨a,ag,c⟩ | ⟨a,c⟩
    all_goals
     go_wp2_with fail
     go_quiet ((go_at_call 226;exact Rd (kl _ _)))
     go_wp2_with fail
     go_meet
     case rel=>exact⟨j,K,hj,af,by exact f,by exact m,b.drewN _⟩
 case rest =>
  obtain⟨j,K,hj,HJ,f,m,b⟩:=hcut;have r:=ae m;have q:=ae f;have t:d.heap.size∉[n]:=by simp;omega
  go_wp2_with fail;refine(yV n j y w _ (by exact f)).mono ?_;rintro e u ⟨rfl,l⟩;have C:bV u n y w j:=bV.kept (by exact f) l (by simp);have A:=l.get (by exact m) (by simp);have s:=b.trans (l.mono (by simp));have an:=ae C;have ar:=ae A;have ax:=s.size;clear f m b l r q;obtain⟨L,Q,V,M,P⟩:=C.cells;go_wp2
  go_loopg [] (w.size-j) (fun g wr=>∃z,j<=z/\z<=w.size/\g=w.size-z/\Hid (cG w z=cG w j)/\bV wr n y w z/\wr.heap[d.heap.size]?=some (.cells l4 255 (0,0)) /\
   wr.heap[u.heap.size]?=some (.cells #[.string y,.int .i64 (aP w j),.int .i64 (bm w j)] 36 (0,0))/\ab [n] d wr)
  case atStart=>exact⟨j,QR _,hj,rfl,rfl,C.kept ((ab.refl [] u).alloc _) (by simp),((ab.refl [] u).alloc _).get A (by simp),QS _ _,s.alloc _⟩
  case round =>
   clear L Q V M P;obtain⟨z,ap,hz,hg,o,f,m,x,b⟩:=hrel;obtain⟨L,Q,V,M,P⟩:=f.cells;have r:=ae m;have q:=ae f;have ad:=ae x;have e0:wr.cell? ⟨u.heap.size,0,none⟩=some (.string y):=by rw[aa x];rfl
   have e1:wr.cell? ⟨u.heap.size,1,none⟩=some (.int .i64 (aP w j)):=by rw[aa x];rfl
   have e2:wr.cell? ⟨u.heap.size,2,none⟩=some (.int .i64 (bm w j)):=by rw[aa x];rfl
   rcases Kd w z with ⟨i,c,D,J⟩ | ⟨i,c,D⟩ | ⟨i,c⟩ | ⟨i,c⟩
   ·have HS:Hid (cG w (z+1)=cG w j):=J.trans o.out
    clear o J;go_wp2_with fail
    go_quiet ((go_at_call 226;exact Rd (kl _ _)))
    go_wp2_with fail
    go_quiet ((go_at_call 229;exact L8 (pi _ _)))
    go_wp2_with fail;refine(C4 n z y w _ hd i (by exact f)).mono ?_;rintro e w3 ⟨rfl,h3,k⟩;go_wp2
    go_roundg (w.size-(z+1))
    case measure=>omega
    case rel=>exact⟨z+1,by omega,by omega,rfl,HS,h3,k.get (by exact m) t,k.get (by exact x) (by simp;omega),((b.drewN _).trans k)⟩
   ·have I:Hid (bC w S=(⟨⟨#[]⟩,1,false,z⟩,z)):=CW w S j z HJ.out o.out i (by rw[bP w z i];exact c) (by rw[bP w z i];exact D)
    clear o;go_wp2_with fail
    go_quiet ((go_at_call 226;exact Rd (kl _ _)))
    go_wp2_with fail
    go_quiet ((go_at_call 229;exact L8 (pi _ _)))
    go_wp2_with fail;refine(yV n z y w _ (by exact f)).mono ?_;rintro e w3 ⟨rfl,k⟩;have h3:bV w3 n y w z:=bV.kept (by exact f) k (by simp);have F:=k.get (by exact m) (by simp);have B:=(b.drewN _).trans (k.mono (by simp));clear L Q V M P f m b k r q x ad e0 e1 e2;obtain⟨T,N,O,U,X,R⟩:=hU F;have ai:=am F;go_wp2
    exact QY (v:=fg y w ⟨⟨#[]⟩,1,false,z⟩) (by simp[results,results203,go_sem,fg,T,N,O,U,X,R]) rfl
     (by rw[I.out];exact⟨rfl,gQ h3 (by omega) _ _ _ _ _ _,iu B (QR _) _ _ _ _ _ _⟩)
   all_goals
    have W:¬(z<w.size/\cO (aF w z)=false):=by
     rintro ⟨E,G⟩
     first
      | (rw[bP w z E,c]at G;cases G)
      | exact i E
    obtain⟨T,N,O,U,X,R⟩:=hU m;have ai:=am m
    by_cases ac:j<z
    ·have I:Hid (bC w S=(⟨w.extract j z,0,false,j⟩,z)):=ze w S j z HJ.out o.out W ac
     have ao:decide ((z:Int)<=(j:Int))=false:=by simp;omega
     clear o W;go_wp2_with fail
     go_quiet ((go_at_call 226;exact Rd (kl _ _)))
     go_wp2_with fail
     go_quiet (fail)
     go_wp2_with fail
     go_region
     all_goals go_wp2
     exact QY (v:=fg y w ⟨w.extract j z,0,false,j⟩) (by simp[results,results203,go_sem,fg,T,N,O,U,X,R]) rfl
      (by rw[I.out];exact⟨rfl,gQ (by exact f) (by omega) _ _ _ _ _ _,iu (b.drewN _) (QR _) _ _ _ _ _ _⟩)
    ·have I:Hid (bC w S=(⟨⟨#[]⟩,0,true,j⟩,z)):=CX w S j z HJ.out o.out W (by omega)
     clear o W;go_wp2_with fail
     go_quiet ((go_at_call 226;exact Rd (kl _ _)))
     go_wp2_with fail
     go_quiet (fail)
     go_wp2
     exact QY (v:=fg y w ⟨⟨#[]⟩,0,true,j⟩) (by simp[results,results203,go_sem,fg,T,N,O,U,X,R]) rfl
      (by rw[I.out];exact⟨rfl,gQ (by exact f) (by omega) _ _ _ _ _ _,iu (b.drewN _) (QR _) _ _ _ _ _ _⟩)
def aI(i:rT):Bool:=i.rule==0 && !i.fin
theorem cK(l c:Int)(f:Bool)(a:World) :
    Calls prog 156 #[.agg #[.string y,.int .i64 L,.bool f,.string w,.int .i64 l,.int .i64 c]] a fun e b=>e=.returned (.bool (L==0 && !f))/\ab [] a b:=by
  cases d:(L==0)
  · go_enter func156,ntmps156
    go_wp2;go_ret;exact⟨aD (by simp),(ab.refl _ _).alloc _⟩
  · go_enter func156,ntmps156
    go_wp2;go_ret;exact⟨aD (by simp),(ab.refl _ _).alloc _⟩
def dA(s:ByteArray):Bool:=(List.range s.size).any (fun i=>aF s i==36)
def kE(s:ByteArray):Bool:=(List.range s.size).any (fun i=>decide (1<=i)&&(aF s (i-1)==36)&&((aF s i==40)||(aF s i==41)))
theorem mZ{p:Nat->Bool}(h:f<b)(a:p f=true):(List.range b).any p=true:=by
  rw[RC];exact⟨f,by simpa using h,a⟩
theorem vH(h:∀i,i<b->y1 i=false):(List.range b).any y1=false:=by
  rw[TH];intro i a;simp[h i (by simpa using a)]
theorem dV(o:w.size<=1073741824) :
    Calls prog 231 #[.string w] d fun e l=>e=.returned (.bool (dA w))/\l=d:=by
  go_enter func231,ntmps231;go_wp2
  go_loopg [3] w.size (fun g i wr=>∃k:Nat,k<=w.size/\g=w.size-k/\i=.int .i64 k/\Hid (∀i,i<k->(aF w i==36)=false)/\wr=d)
  case atStart=>exact⟨0,by omega,by omega,rfl,fun i h=>by omega,rfl⟩
  case round =>
    obtain⟨k,n,m,rfl,a,rfl⟩:=hrel
    by_cases b:k<w.size
    · cases f:((w[k].toNat:Int)==36)
      · go_wp2
        go_roundg (w.size-(k+1))
        case measure=>omega
        case rel =>
          refine⟨k+1,by omega,rfl,by go_num,?_,rfl⟩;intro i j
          by_cases e:i=k
          · subst e;rw[bP w i b];exact f
          · exact a.out i (by omega)
      · have c:Hid (dA w=true):=mZ k b (by rw[bP w k b];exact f)
        go_wp2;go_ret;exact⟨aD c.out.symm,rfl⟩
    · have c:Hid (dA w=false):=vH (fun i j=>a.out i (by omega))
      go_wp2;go_ret;exact⟨aD c.out.symm,rfl⟩
theorem uA(s:w.size<=1073741824) :
    Calls prog 230 #[.string w] d fun e o=>e=.returned (.bool (kE w))/\o=d:=by
  go_enter func230,ntmps230;go_wp2
  go_loopg [3] (w.size-1) (fun g i wr=>∃k:Nat,1<=k/\(k<=w.size∨k=1)/\g=w.size-k/\i=.int .i64 k/\Hid (∀i,i<k->1<=i->((aF w (i-1)==36)&&((aF w i==40)||(aF w i==41)))=false)/\wr=d)
  case atStart=>exact⟨1,by omega,by omega,rfl,rfl,fun i h v=>by omega,rfl⟩
  case round =>
    obtain⟨k,l,t,u,rfl,a,rfl⟩:=hrel
    by_cases c:k<w.size
    · have f:k-1<w.size:=by omega
      have m:∀b:Bool,(((w[k-1].toNat:Int)==36)&&(((w[k].toNat:Int)==40)||((w[k].toNat:Int)==41)))=b->((aF w (k-1)==36)&&((aF w k==40)||(aF w k==41)))=b :=
        fun b h=>by rw[bP w k c,bP w (k-1) f];exact h
      have n:Hid (∀b:Bool,(((w[k-1].toNat:Int)==36)&&(((w[k].toNat:Int)==40)||((w[k].toNat:Int)==41)))=b->((aF w (k-1)==36)&&((aF w k==40)||(aF w k==41)))=b):=m;clear m;go_wp2
      all_goals first
        | (go_ret
           refine⟨aD ?_,rfl⟩;refine(mZ (p:=fun i=>decide (1<=i)&&(aF w (i-1)==36)&&((aF w i==40)||(aF w i==41))) k c ?_).symm;have:=n.out true (by simp_all);simp only[Bool.and_assoc,this];simp[l])
        | (go_roundg (w.size-(k+1))
           case measure=>omega
           case rel =>
             refine⟨k+1,by omega,by omega,rfl,by go_num,?_,rfl⟩;intro i q j
             by_cases e:i=k
             · subst e;exact n.out false (by simp_all)
             · exact a.out i (by omega) j)
    · have r:Hid (kE w=false):=vH (fun i q=>by
        by_cases j:1<=i
        · have:=a.out i (by omega) j;simp only[Bool.and_assoc,this];simp
        · simp[j])
      go_wp2;go_ret;exact⟨aD r.out.symm,rfl⟩
theorem gq(h:f<=w.size):f<=(bC w f).2/\(bC w f).2<=w.size/\(aI (bC w f).1=true->f<(bC w f).2):=by
 have a:=AB w f h;have b:=rQ w (skip w f) a.2;unfold bC;simp only
 split
 ·exact⟨by omega,b.2,by simp[aI]⟩
 ·split
  ·exact⟨by omega,b.2,by simp[aI]⟩
  ·exact⟨by simp only;omega,b.2,fun _=>by simp only;omega⟩
def bX(d:ByteArray):Nat->Nat->rT×Nat
 | 0,k=>(⟨⟨#[]⟩,3,false,k⟩,k)
 | f+1,k =>
  if aI (bC d k).1=true/\¬(bC d k).1.text.toList=[36,41] then
   if kE (bC d k).1.text=true then(⟨⟨#[]⟩,2,false,(bC d k).1.pos⟩,(bC d k).2) else bX d f (bC d k).2
  else if(bC d k).1.fin=true then(⟨⟨#[]⟩,3,false,(bC d k).1.pos⟩,(bC d k).2) else bC d k
def aW(d:ByteArray)(k:Nat):rT×Nat:=bX d (d.size-k+1) k
theorem vR(f k:Nat)(a:k<=w.size)(b:w.size-k+1<=f):bX w f k=aW w k:=by
 unfold aW
 suffices h:∀f g k,k<=w.size->w.size-k+1<=f->w.size-k+1<=g->bX w f k=bX w g k from h _ _ _ a b (QR _)
 clear b a f k;intro f
 induction f with
 | zero=>intro g k _ h;omega
 | succ f d =>
  intro g k a b i
  cases g with
  | zero=>omega
  | succ g =>
   rw[bX,bX]
   split
   ·next h =>
    have c:=gq w k a;have e:=c.2.2 h.1
    split
    ·rfl
    ·exact d g (bC w k).2 c.2.1 (by omega) (by omega)
   ·rfl
theorem vS(e:f<=w.size)(b:aI (bC w f).1=true)(c:((bC w f).1.text.toList == [36,41])=false)(d:kE (bC w f).1.text=false):aW w f=aW w (bC w f).2:=by
 have a:=gq w f e;have g:=a.2.2 b
 conv=>lhs;unfold aW
 rw[bX,QW ⟨b,by simpa using c⟩,QT (by simp[d]),vR w _ _ a.2.1 (by omega)]
theorem sw(c:aI (bC w f).1=true)(a:((bC w f).1.text.toList == [36,41])=false)(b:kE (bC w f).1.text=true):aW w f=(⟨⟨#[]⟩,2,false,(bC w f).1.pos⟩,(bC w f).2):=by
 unfold aW;rw[bX,QW ⟨c,by simpa using a⟩,QW b]
theorem sx(b:aI (bC w f).1=false)(a:(bC w f).1.fin=true):aW w f=(⟨⟨#[]⟩,3,false,(bC w f).1.pos⟩,(bC w f).2):=by
 unfold aW;rw[bX,QT (by simp[b]),QW a]
theorem uE(b:aI (bC w f).1=false)(a:(bC w f).1.fin=false):aW w f=bC w f:=by
 unfold aW;rw[bX,QT (by simp[b]),QT (by simp[a])]
theorem qN(a:aI (bC w f).1=true)(b:((bC w f).1.text.toList == [36,41])=true):aW w f=bC w f:=by
 unfold aW;rw[bX,QT (by intro h;exact h.2 (by simpa using b))];rw[QT (by intro h;simp[aI,h]at a)]
theorem i9(k:Nat)(b:k<=w.size):k<=(aW w k).2/\(aW w k).2<=w.size:=by
 unfold aW
 suffices h:∀f k,k<=w.size->k<=(bX w f k).2/\(bX w f k).2<=w.size from h _ _ b
 clear b k;intro f
 induction f with
 | zero=>intro k b;simp[bX,b]
 | succ f c =>
  intro k b;have a:=gq w k b;rw[bX]
  split
  ·split
   ·exact⟨a.1,a.2.1⟩
   ·have:=c (bC w k).2 a.2.1;omega
  ·split
   ·exact⟨a.1,a.2.1⟩
   ·exact⟨a.1,a.2.1⟩
def dH(d:ByteArray):Nat->Nat->rT×Nat
 | 0,k=>(⟨⟨#[]⟩,0,true,k⟩,k)
 | f+1,k =>
  if aI (bC d k).1=true/\(bC d k).1.text.toList=[36,40] then
   if aI (aW d (bC d k).2).1=true then dH d f (aW d (bC d k).2).2 else aW d (bC d k).2
  else bC d k
def ay(d:ByteArray)(k:Nat):rT×Nat:=dH d (d.size-k+1) k
theorem Cw(f k:Nat)(a:k<=w.size)(b:w.size-k+1<=f):dH w f k=ay w k:=by
 unfold ay
 suffices h:∀f g k,k<=w.size->w.size-k+1<=f->w.size-k+1<=g->dH w f k=dH w g k from h _ _ _ a b (QR _)
 clear b a f k;intro f
 induction f with
 | zero=>intro g k _ h;omega
 | succ f e =>
  intro g k a b j
  cases g with
  | zero=>omega
  | succ g =>
   rw[dH,dH]
   split
   ·next h =>
    have c:=gq w k a;have i:=c.2.2 h.1;have d:=i9 w (bC w k).2 c.2.1
    split
    ·exact e g _ d.2 (by omega) (by omega)
    ·rfl
   ·rfl
theorem Gx(e:f<=w.size)(b:aI (bC w f).1=true)(c:((bC w f).1.text.toList == [36,40])=true)(d:aI (aW w (bC w f).2).1=true) :
  ay w f=ay w (aW w (bC w f).2).2:=by
 have a:=gq w f e;have h:=a.2.2 b;have g:=i9 w (bC w f).2 a.2.1
 conv=>lhs;unfold ay
 rw[dH,QW ⟨b,by simpa using c⟩,QW d,Cw w _ _ g.2 (by omega)]
theorem uM(c:aI (bC w f).1=true)(a:((bC w f).1.text.toList == [36,40])=true)(b:aI (aW w (bC w f).2).1=false) :
  ay w f=aW w (bC w f).2:=by
 unfold ay;rw[dH,QW ⟨c,by simpa using a⟩,QT (by simp[b])]
theorem rG(h:aI (bC w f).1=false∨((bC w f).1.text.toList == [36,40])=false):ay w f=bC w f:=by
 unfold ay;rw[dH,QT (by rintro ⟨a,b⟩;rcases h with h | h;simp[h]at a;simp[b]at h)]
theorem fG(k:Nat)(a:k<=w.size):k<=(ay w k).2/\(ay w k).2<=w.size/\(aI (ay w k).1=true->k<(ay w k).2):=by
 unfold ay
 suffices h:∀f k,k<=w.size->k<=(dH w f k).2/\(dH w f k).2<=w.size/\(aI (dH w f k).1=true->k<(dH w f k).2) from h _ _ a
 clear a k;intro f
 induction f with
 | zero=>intro k a;simp[dH,a,aI]
 | succ f d =>
  intro k a;have b:=gq w k a;have c:=i9 w (bC w k).2 b.2.1;rw[dH]
  split
  ·next h =>
   have e:=b.2.2 h.1
   split
   ·have:=d (aW w (bC w k).2).2 c.2;omega
   ·omega
  ·exact b
def jx(w:World)(r:Nat)(n d:ByteArray)(i:rT):Prop :=
 w.heap[r]?=some (.cells #[.string i.text,.int .i64 i.rule,.bool i.fin,.string n,.int .i64 (aP d i.pos),.int .i64 (bm d i.pos)] 255 (0,0))
theorem jx.cells{t:ByteArray}{u:Int}{f:Bool}(h:jx l b M I ⟨t,u,f,a⟩) :
  l.cell? ⟨b,0,none⟩=some (.string t)/\l.cell? ⟨b,1,none⟩=some (.int .i64 u)/\l.cell? ⟨b,2,none⟩=some (.bool f) /\
  l.cell? ⟨b,3,none⟩=some (.string M)/\l.cell? ⟨b,4,none⟩=some (.int .i64 (aP I a))/\l.cell? ⟨b,5,none⟩=some (.int .i64 (bm I a)):=by
 refine⟨?_,?_,?_,?_,?_,?_⟩ <;> (rw[aa h];rfl)
theorem jx.kept(h:jx l b M I y7)(c:ab N l k)(a:b∉N):jx k b M I y7:=c.get h a
theorem pJ(h:jx l b M I y7)(j:rT) :
  jx ((((((l.setCell ⟨b,0,none⟩ (.string j.text)).setCell ⟨b,1,none⟩ (.int .i64 j.rule)).setCell ⟨b,2,none⟩ (.bool j.fin)).setCell ⟨b,3,none⟩ (.string M)).setCell ⟨b,4,none⟩ (.int .i64 (aP I j.pos))).setCell ⟨b,5,none⟩ (.int .i64 (bm I j.pos))) b M I j:=by
 have:=ah (ah (ah (ah (ah (ah h 0 (.string j.text)) 1 (.int .i64 j.rule)) 2 (.bool j.fin)) 3 (.string M)) 4 (.int .i64 (aP I j.pos))) 5 (.int .i64 (bm I j.pos));unfold jx;rw[this];simp
theorem uj(h:l.heap[b]?=some y6)(c:b≠a)(d g i e j f:Value) :
  ((((((l.setCell ⟨a,0,none⟩ d).setCell ⟨a,1,none⟩ g).setCell ⟨a,2,none⟩ i).setCell ⟨a,3,none⟩ e).setCell ⟨a,4,none⟩ j).setCell ⟨a,5,none⟩ f).heap[b]?=some y6:=by
 rw[Q4 _ _ _ _ c,Q4 _ _ _ _ c,Q4 _ _ _ _ c,Q4 _ _ _ _ c,Q4 _ _ _ _ c,Q4 _ _ _ _ c];exact h
theorem qx(a:w.size<=1024):(bC w f).1.text.size<=1024:=by
 unfold bC;simp only
 split
 ·simp[ByteArray.size]
 ·split
  ·simp[ByteArray.size]
  ·simp;omega
theorem uD(hd:w.size<=1024)(hk:S<=w.size)(h:bV d n y w S) :
  Calls prog 204 #[.pointer (some ⟨n,0,none⟩)] d fun e w'=>e=.returned (fg y w (aW w S).1)/\bV w' n y w (aW w S).2/\ab [n] d w':=by
 have ap:=ae h;go_enter func204,ntmps204;go_wp2_with fail;refine(vv n S y w _ hd hk (by exact h.kept ((ab.refl [] _).alloc _) (by simp))).mono ?_;rintro e w1 ⟨rfl,h1,W⟩;have X:w1.heap[d.heap.size]?=some (.cells l4 255 (0,0)):=W.get (QS _ _) (by simp;omega);have af:ab [n] d w1:=((ab.refl _ _).alloc _).trans W;have ax:=ae h1;have al:=ae X;simp only[fg];go_wp2
 go_loopg [] (w.size-S) (fun g wr=>∃j,j<=w.size/\g=w.size-j/\Hid (aW w S=aW w j)/\bV wr n y w (bC w j).2/\jx wr w1.heap.size y w (bC w j).1/\wr.heap[d.heap.size]?=some (.cells l4 255 (0,0))/\ab [n] d wr)
 case atStart=>exact⟨S,hk,rfl,rfl,h1.kept ((ab.refl [] _).alloc _) (by simp),QS _ _,((ab.refl [] _).alloc _).get X (by simp),af.alloc _⟩
 case round =>
  obtain⟨j,hj,hg,Y,A,m,D,k⟩:=hrel;have E:=gq w j hj;have ag:=qx w j hd;have V:Hid (_->_->_->aW w j=_):=vS w j hj;have R:Hid (_->_->_->aW w j=_):=sw w j;have Q:Hid (_->_->aW w j=_):=sx w j;have U:Hid (_->_->aW w j=_):=uE w j;have T:Hid (_->_->aW w j=_):=qN w j;generalize hrr:bC w j=r at *;obtain⟨⟨t,u,f,p⟩,z⟩:=r;have HR:Hid (bC w j=(⟨t,u,f,p⟩,z)):=hrr;clear hrr;simp only at A m E ag;obtain⟨x,B,q,C,o,s⟩:=m.cells;have ar:=ae D;have ao:=ae A;have an:=ae m
  cases F:(u==0 && !f)
  ·cases M:f
   ·have G:Hid (aW w j=(⟨t,u,false,p⟩,z)):=by have:=U.out (by simpa [aI] using F) M;rw[M]at this;exact this
    subst M;have ai:(u==0)=false:=by simpa using F
    clear V R Q U T;go_wp2_with fail;refine(cK t y u (aP w p) (bm w p) _ _).mono ?_;rintro e w2 ⟨rfl,a⟩;have i:=m.kept a (by simp);have l:=A.kept a (by simp);have c:=a.get D (by simp);have b:=k.trans (a.mono (by simp));clear x B q C o s m A D k a;obtain⟨x,B,q,C,o,s⟩:=i.cells;obtain⟨N,J,K,O,P,L⟩:=hU c;have ac:=am c;go_wp2
    exact QY (v:=fg y w ⟨t,u,false,p⟩) (by simp[results,results204,go_sem,fg,N,J,K,O,P,L]) rfl
     (by rw[Y.out,G.out];exact⟨rfl,gQ l (by omega) _ _ _ _ _ _,iu b (QR _) _ _ _ _ _ _⟩)
   ·have G:Hid (aW w j=(⟨⟨#[]⟩,3,false,p⟩,z)):=Q.out (by simpa [aI] using F) M
    subst M;clear V R Q U T;go_wp2_with fail;refine(cK t y u (aP w p) (bm w p) _ _).mono ?_;rintro e w2 ⟨rfl,a⟩;have i:=m.kept a (by simp);have l:=A.kept a (by simp);have c:=a.get D (by simp);have b:=k.trans (a.mono (by simp));clear x B q C o s m A D k a;obtain⟨x,B,q,C,o,s⟩:=i.cells;obtain⟨N,J,K,O,P,L⟩:=hU c;have ac:=am c;go_wp2
    exact QY (v:=fg y w ⟨⟨#[]⟩,3,false,p⟩) (by simp[results,results204,go_sem,fg,N,J,K,O,P,L]) rfl
     (by rw[Y.out,G.out];exact⟨rfl,gQ l (by omega) _ _ _ _ _ _,iu b (QR _) _ _ _ _ _ _⟩)
  ·cases hx:(t.toList == [36,41])
   ·cases hy:kE t
    ·have G:Hid (aW w j=aW w z):=V.out F hx hy
     clear V R Q U T;go_wp2_with fail;refine(cK t y u (aP w p) (bm w p) _ _).mono ?_;rintro e w2 ⟨rfl,a⟩;have i:=m.kept a (by simp);have l:=A.kept a (by simp);have c:=a.get D (by simp);have b:=k.trans (a.mono (by simp));clear x B q C o s m A D k a;obtain⟨x,B,q,C,o,s⟩:=i.cells;go_wp2_with fail;refine(uA t _ (by omega)).mono ?_;rintro e w3 ⟨rfl,rfl⟩;go_wp2_with fail;refine(vv n z y w _ hd E.2.1 l).mono ?_;rintro e w4 ⟨rfl,h4,I⟩;have H:=i.kept I (by simp;omega);have ad:=I.get c (by simp;omega);have Z:=b.trans I;have yy:=am H;have az:=ae H;clear x B q C o s;obtain⟨x,B,q,C,o,s⟩:=H.cells;simp only[fg];go_wp2
     go_roundg (w.size-z)
     case measure=>have:=E.2.2 F;omega
     case rel=>exact⟨z,E.2.1,rfl,Y.out.trans G.out,gQ h4 (by omega) _ _ _ _ _ _,pJ H _,uj ad (by omega) _ _ _ _ _ _,iu Z (by omega) _ _ _ _ _ _⟩
    ·have G:Hid (aW w j=(⟨⟨#[]⟩,2,false,p⟩,z)):=R.out F hx hy
     clear V R Q U T;go_wp2_with fail;refine(cK t y u (aP w p) (bm w p) _ _).mono ?_;rintro e w2 ⟨rfl,a⟩;have i:=m.kept a (by simp);have l:=A.kept a (by simp);have c:=a.get D (by simp);have b:=k.trans (a.mono (by simp));clear x B q C o s m A D k a;obtain⟨x,B,q,C,o,s⟩:=i.cells;go_wp2_with fail;refine(uA t _ (by omega)).mono ?_;rintro e w3 ⟨rfl,rfl⟩;obtain⟨N,J,K,O,P,L⟩:=hU c;have ac:=am c;go_wp2
     exact QY (v:=fg y w ⟨⟨#[]⟩,2,false,p⟩) (by simp[results,results204,go_sem,fg,N,J,K,O,P,L]) rfl
      (by rw[Y.out,G.out];exact⟨rfl,gQ l (by omega) _ _ _ _ _ _,iu b (QR _) _ _ _ _ _ _⟩)
   ·have G:Hid (aW w j=(⟨t,u,f,p⟩,z)):=T.out F hx
    clear V R Q U T;have M:f=false:=by cases f;rfl;simp at F
    subst M;have ai:(u==0)=true:=by simpa using F
    go_wp2_with fail;refine(cK t y u (aP w p) (bm w p) _ _).mono ?_;rintro e w2 ⟨rfl,a⟩;have i:=m.kept a (by simp);have l:=A.kept a (by simp);have c:=a.get D (by simp);have b:=k.trans (a.mono (by simp));clear x B q C o s m A D k a;obtain⟨x,B,q,C,o,s⟩:=i.cells;obtain⟨N,J,K,O,P,L⟩:=hU c;have ac:=am c;go_wp2
    exact QY (v:=fg y w ⟨t,u,false,p⟩) (by simp[results,results204,go_sem,fg,N,J,K,O,P,L]) rfl
     (by rw[Y.out,G.out];exact⟨rfl,gQ l (by omega) _ _ _ _ _ _,iu b (QR _) _ _ _ _ _ _⟩)
theorem sV(hd:w.size<=1024)(hk:S<=w.size)(h:bV d n y w S) :
  Calls prog 155 #[.pointer (some ⟨n,0,none⟩)] d fun e w'=>e=.returned (fg y w (ay w S).1)/\bV w' n y w (ay w S).2/\ab [n] d w':=by
 have a0:=ae h;go_enter func155,ntmps155;go_wp2_with fail;refine(vv n S y w _ hd hk (by exact h.kept ((ab.refl [] _).alloc _) (by simp))).mono ?_;rintro e w1 ⟨rfl,h1,af⟩;have ag:w1.heap[d.heap.size]?=some (.cells l4 255 (0,0)):=af.get (QS _ _) (by simp;omega);have ax:ab [n] d w1:=((ab.refl _ _).alloc _).trans af;have a4:=ae h1;have a5:=ae ag;simp only[fg];go_wp2
 go_loopg [4] (w.size-S) (fun g _ wr=>∃j,j<=w.size/\g=w.size-j/\Hid (ay w S=ay w j)/\bV wr n y w (bC w j).2/\jx wr w1.heap.size y w (bC w j).1/\wr.heap[d.heap.size]?=some (.cells l4 255 (0,0))/\ab [n] d wr)
 case atStart=>exact⟨S,hk,rfl,rfl,h1.kept ((ab.refl [] _).alloc _) (by simp),QS _ _,((ab.refl [] _).alloc _).get ag (by simp),ax.alloc _⟩
 case round =>
  obtain⟨j,hj,hg,hs,L,G,O,s⟩:=hrel;have I:=gq w j hj;have ai:=qx w j hd;have L1:Hid (_->_->_->ay w j=_):=Gx w j hj;have L2:Hid (_->_->_->ay w j=_):=uM w j;have L3:Hid (_->ay w j=_):=rG w j;generalize hrr:bC w j=r at *;obtain⟨⟨t,u,f,p⟩,z⟩:=r;have HR:Hid (bC w j=(⟨t,u,f,p⟩,z)):=hrr;clear hrr;simp only at L G I ai;obtain⟨F,J,E,K,D,H⟩:=G.cells;have a6:=ae O;have a3:=ae L;have a1:=ae G
  cases hw:(u==0 && !f)
  ·have Y:Hid (ay w j=(⟨t,u,f,p⟩,z)):=L3.out (Q1 hw)
   clear L1 L2 L3;go_wp2_with fail;refine(cK t y u (aP w p) (bm w p) _ _).mono ?_;rintro e w2 ⟨rfl,a⟩;have l:=G.kept a (by simp);have m:=L.kept a (by simp);have k:=a.get O (by simp);have b:=s.trans (a.mono (by simp));clear F J E K D H G L O s a;obtain⟨F,J,E,K,D,H⟩:=l.cells;obtain⟨z0,z1,z2,z3,z4,z5⟩:=hU k;have aT:=am k;go_wp2
   exact QY (v:=fg y w ⟨t,u,f,p⟩) (by simp[results,results155,go_sem,fg,z0,z1,z2,z3,z4,z5]) rfl
    (by rw[hs.out,Y.out];exact⟨rfl,gQ m (by omega) _ _ _ _ _ _,iu b (QR _) _ _ _ _ _ _⟩)
  ·cases hx:(t.toList == [36,40])
   ·have Y:Hid (ay w j=(⟨t,u,f,p⟩,z)):=L3.out (QV hx)
    clear L1 L2 L3;go_wp2_with fail;refine(cK t y u (aP w p) (bm w p) _ _).mono ?_;rintro e w2 ⟨rfl,a⟩;have l:=G.kept a (by simp);have m:=L.kept a (by simp);have k:=a.get O (by simp);have b:=s.trans (a.mono (by simp));clear F J E K D H G L O s a;obtain⟨F,J,E,K,D,H⟩:=l.cells;obtain⟨z0,z1,z2,z3,z4,z5⟩:=hU k;have aT:=am k;go_wp2
    exact QY (v:=fg y w ⟨t,u,f,p⟩) (by simp[results,results155,go_sem,fg,z0,z1,z2,z3,z4,z5]) rfl
     (by rw[hs.out,Y.out];exact⟨rfl,gQ m (by omega) _ _ _ _ _ _,iu b (QR _) _ _ _ _ _ _⟩)
   ·have W:=i9 w z I.2.1
    have L4:Hid (_->ay w j=ay w _):=fun h=>L1.out hw hx h
    have L5:Hid (_->ay w j=_):=fun h=>L2.out hw hx h
    clear L1 L2 L3;generalize hcc:aW w z=c at *;obtain⟨⟨T,R,cf,Q⟩,Z⟩:=c;have HC:Hid (aW w z=(⟨T,R,cf,Q⟩,Z)):=hcc;clear hcc;simp only at W
    cases ad:(R==0 && !cf)
    ·have Y:Hid (ay w j=(⟨T,R,cf,Q⟩,Z)):=L5.out ad
     clear L4 L5;go_wp2_with fail;refine(cK t y u (aP w p) (bm w p) _ _).mono ?_;rintro e w2 ⟨rfl,a⟩;have l:=G.kept a (by simp);have m:=L.kept a (by simp);have k:=a.get O (by simp);have b:=s.trans (a.mono (by simp));clear F J E K D H G L O s a;obtain⟨F,J,E,K,D,H⟩:=l.cells;go_wp2_with fail;refine(uD n z y w _ hd I.2.1 m).mono ?_;rintro e w3 ⟨rfl,V,o⟩;have A:=l.kept o (by simp;omega);have x:=o.get k (by simp;omega);have q:=b.trans o;have ao:=ae V;have aS:=ae A;have an:=ae x;simp only[fg];rw[HC.out];simp only;go_wp2_with fail;refine(cK T y R (aP w Q) (bm w Q) _ _).mono ?_;rintro e w4 ⟨rfl,i⟩;have X:jx w4 w3.heap.size y w ⟨T,R,cf,Q⟩:=i.get (QS _ _) (by simp);have N:=(A.kept ((ab.refl [] _).alloc _) (by simp)).kept i (by simp);have M:=(V.kept ((ab.refl [] _).alloc _) (by simp)).kept i (by simp);have B:=i.get (((ab.refl [] _).alloc _).get x (by simp)) (by simp);have C:=(q.alloc _).trans (i.mono (by simp));rw[HC.out]at M;simp only at M;have az:=ae M;have ar:=ae N;have ap:=ae B;clear F J E K D H l k b i A x q o V m;obtain⟨p0,p1,p2,p3,p4,p5⟩:=X.cells;obtain⟨z0,z1,z2,z3,z4,z5⟩:=hU B;have aT:=am B;go_wp2
     exact QY (v:=fg y w ⟨T,R,cf,Q⟩) (by simp[results,results155,go_sem,fg,z0,z1,z2,z3,z4,z5]) rfl
      (by rw[hs.out,Y.out];exact⟨rfl,gQ M (by omega) _ _ _ _ _ _,iu C (QR _) _ _ _ _ _ _⟩)
    ·have Y:Hid (ay w j=ay w Z):=L4.out ad
     clear L4 L5;go_wp2_with fail;refine(cK t y u (aP w p) (bm w p) _ _).mono ?_;rintro e w2 ⟨rfl,a⟩;have l:=G.kept a (by simp);have m:=L.kept a (by simp);have k:=a.get O (by simp);have b:=s.trans (a.mono (by simp));clear F J E K D H G L O s a;obtain⟨F,J,E,K,D,H⟩:=l.cells;go_wp2_with fail;refine(uD n z y w _ hd I.2.1 m).mono ?_;rintro e w3 ⟨rfl,V,o⟩;have A:=l.kept o (by simp;omega);have x:=o.get k (by simp;omega);have q:=b.trans o;have ao:=ae V;have aS:=ae A;have an:=ae x;simp only[fg];rw[HC.out];simp only;go_wp2_with fail;refine(cK T y R (aP w Q) (bm w Q) _ _).mono ?_;rintro e w4 ⟨rfl,i⟩;have X:jx w4 w3.heap.size y w ⟨T,R,cf,Q⟩:=i.get (QS _ _) (by simp);have N:=(A.kept ((ab.refl [] _).alloc _) (by simp)).kept i (by simp);have M:=(V.kept ((ab.refl [] _).alloc _) (by simp)).kept i (by simp);have B:=i.get (((ab.refl [] _).alloc _).get x (by simp)) (by simp);have C:=(q.alloc _).trans (i.mono (by simp));rw[HC.out]at M;simp only at M;have az:=ae M;have ar:=ae N;have ap:=ae B;clear F J E K D H l k b i A x q o V m;obtain⟨p0,p1,p2,p3,p4,p5⟩:=X.cells;go_wp2_with fail;refine(vv n Z y w _ hd W.2 M).mono ?_;rintro e w5 ⟨rfl,h5,U⟩;have P:=N.kept U (by simp;omega);have al:=U.get B (by simp;omega);have ac:=C.trans U;have yy:=am P;have a2:=ae P;obtain⟨F,J,E,K,D,H⟩:=P.cells;simp only[fg];go_wp2
     go_roundg (w.size-Z)
     case measure=>have:=I.2.2 hw;omega
     case rel=>exact⟨Z,W.2,rfl,hs.out.trans Y.out,gQ h5 (by omega) _ _ _ _ _ _,pJ P _,uj al (by omega) _ _ _ _ _ _,iu ac (by omega) _ _ _ _ _ _⟩
structure Pl where
  file:ByteArray
  line:Int
  col:Int
structure St where
  kind:Int
  label:ByteArray
  U6:List ByteArray
  Vh:List (ByteArray×Pl)
  fin:Pl
  til:Nat
structure Db where
  Ve:List ByteArray
  U8:List ByteArray
  U9:List ByteArray
  Vf:List ByteArray
  Vi:List ByteArray
  blocks:List (Nat×Nat)
  Vn:List St
  rbl:List Nat
  kind:Int
  label:ByteArray
  U6:List ByteArray
  Va:Bool
  Vh:List (ByteArray×Pl)
def cN(l:List ByteArray):List Value:=l.map Value.string
def pairs(l:List (Nat×Nat)):List Value:=l.flatMap (fun p=>[.int .i64 p.1,.int .i64 p.2])
def jX(l:List Nat):List Value:=l.map (fun(n:Nat)=>.int .i64 n)
def qZ(p:ByteArray×Pl):List Value:=[.string p.1,.string p.2.file,.int .i64 p.2.line,.int .i64 p.2.col]
def nD(l:List (ByteArray×Pl)):List Value:=l.flatMap qZ
def JO(s:St)(a b:Hd):List Value :=
  [.int .i64 s.kind,.string s.label,.slice a.ao s.U6.length a.cap,.slice b.ao s.Vh.length b.cap,.string s.fin.file,.int .i64 s.fin.line,.int .i64 s.fin.col,.int .i64 s.til]
def mo(l:List St)(H:Nat->Hd):List Value:=l.zipIdx.flatMap (fun p=>JO p.1 (H (10+2*p.2)) (H (11+2*p.2)))
def aB(l:List ByteArray):dN:=⟨9,1,l.length,cN l⟩
def nZ(l:List (Nat×Nat)):dN:=⟨337,2,l.length,pairs l⟩
def bB(l:List Nat):dN:=⟨3,1,l.length,jX l⟩
def gN(l:List (ByteArray×Pl)):dN:=⟨229,4,l.length,nD l⟩
def iE(l:List St)(H:Nat->Hd):dN:=⟨158,8,l.length,mo l H⟩
def symsAt(l:List St)(i:Nat):List ByteArray:=match l[i]? with | some s=>s.U6 | none=>[]
def ti(l:List St)(i:Nat):List (ByteArray×Pl):=match l[i]? with | some s=>s.Vh | none=>[]
def inner(l:List St)(n:Nat):dN:=if n % 2=0 then aB (symsAt l (n / 2)) else gN (ti l (n / 2))
def aU(d:Db)(H:Nat->Hd):Nat->dN
  | 0=>aB d.Ve
  | 1=>aB d.U8
  | 2=>aB d.U9
  | 3=>aB d.Vf
  | 4=>aB d.Vi
  | 5=>nZ d.blocks
  | 6=>iE d.Vn H
  | 7=>bB d.rbl
  | 8=>aB d.U6
  | 9=>gN d.Vh
  | n+10=>inner d.Vn n
def b9(d:Db)(H:Nat->Hd):List Value :=
  [.slice (H 0).ao d.Ve.length (H 0).cap,.slice (H 1).ao d.U8.length (H 1).cap,.slice (H 2).ao d.U9.length (H 2).cap,.slice (H 3).ao d.Vf.length (H 3).cap,
   .slice (H 4).ao d.Vi.length (H 4).cap,.slice (H 5).ao d.blocks.length (H 5).cap,.slice (H 6).ao d.Vn.length (H 6).cap,.slice (H 7).ao d.rbl.length (H 7).cap,
   .int .i64 d.kind,.string d.label,.slice (H 8).ao d.U6.length (H 8).cap,.bool d.Va,.slice (H 9).ao d.Vh.length (H 9).cap]
def g9{α:Type}(H:Nat->α)(i:Nat)(h:α):Nat->α:=fun j=>if j=i then h else H j
theorem dh{α:Type}(H:Nat->α)(i:Nat)(h:α):g9 H i h i=h:=by simp[g9]
theorem bU{α:Type}(H:Nat->α)(i j:Nat)(h:α)(a:j≠i):g9 H i h j=H j:=by simp[g9,a]
theorem MP{α:Type}(H:Nat->α)(i:Nat):g9 H i (H i)=H:=by funext j;unfold g9;split <;> simp_all
theorem xl(l:List St)(H a:Nat->Hd)(h:∀j,10<=j->a j=H j):mo l a=mo l H:=by
  unfold mo;congr 1;funext p;rw[h _ (by omega),h _ (by omega)]
theorem Mo(d:Db)(H:Nat->Hd)(i:Nat)(h:Hd)(a:i<10)(j:Nat):aU d (g9 H i h) j=aU d H j:=by
  have e:mo d.Vn (g9 H i h)=mo d.Vn H:=xl _ _ _ (fun j b=>bU _ _ _ _ (by omega));unfold aU
  split <;> first | rfl | (simp only[iE,e])
def f9(H:Nat->Hd)(k:Nat):Prop:=∃i,(H i).blk=some k
structure eK(P:Nat->Prop)(w w':World):Prop where
  os:w'.os=w.os
  tape:w'.tape=w.tape
  output:w'.output=w.output
  size:w.heap.size<=w'.heap.size
  block:∀k,k<w.heap.size->¬P k->w'.heap[k]?=w.heap[k]?
theorem eK.refl(P:Nat->Prop)(w:World):eK P w w:=⟨rfl,rfl,rfl,QR _,fun _ _ _=>rfl⟩
theorem ab.toP(h:ab N l k){P:Nat->Prop}(e:∀a,a∈N->a<l.heap.size->P a):eK P l k :=
  ⟨h.os,h.tape,h.output,h.size,fun a b d=>h.block a b (fun c=>d (e a c b))⟩
theorem eK.get(h:eK g l k)(a:l.heap[b]?=some y6)(c:¬g b):k.heap[b]?=some y6:=(h.block b (ae a) c).trans a
theorem eK.Vb(h:eK g l k)(a:ab [] k y0):eK g l y0 :=
  ⟨a.os.trans h.os,a.tape.trans h.tape,a.output.trans h.output,Q3 h.size a.size,fun i b c=>(a.block i (QX b h.size) (by simp)).trans (h.block i b c)⟩
theorem eK.setCell(h:eK g l k){p:Addr}(a:g p.block∨l.heap.size<=p.block)(u:Value):eK g l (k.setCell p u) :=
  ⟨h.os,h.tape,h.output,by have:=h.size;simp[World.setCell];omega,fun c d b=>by
    rw[Q4 _ _ _ _ (by rintro rfl;exact a.elim b (fun a=>by omega))];exact h.block c d b⟩
structure aR(w:World)(b t:Nat)(pre post:List Value)(d:Db)(H:Nat->Hd):Prop where
  blk:w.heap[b]?=some (.cells (pre++(b9 d H++post)).toArray t (0,0))
  own:∀i,aw w (H i) (aU d H i)
  apart:∀i j,i≠j->(H i).blk=none∨(H i).blk≠(H j).blk
  off:∀i,(H i).blk≠some b
theorem aR.lt{d:Db}(h:aR l b a i D d H):b<l.heap.size:=ae h.blk
theorem aR.free{d:Db}(h:aR l b a i D d H)(c:Nat):l.frozen? ⟨b,c,none⟩=false:=am h.blk c
theorem aR.inlt{d:Db}(h:aR l b a i D d H)(e:f9 H y5):y5<l.heap.size:=by
  obtain⟨f,c⟩:=e;exact(h.own f).lt c
theorem aR.keptP{d:Db}(h:aR l b a i D d H)(j:eK g l k)(m:¬g b)(n:∀c,f9 H c->¬g c):aR k b a i D d H :=
  ⟨j.get h.blk m,fun f=>(h.own f).Vg (fun c e=>j.block c ((h.own f).lt e) (n c ⟨f,e⟩)),h.apart,h.off⟩
theorem aR.kept{d:Db}(h:aR l b a i D d H)(f:ab N l k)(g:b∉N)(j:∀c,f9 H c->c∉N):aR k b a i D d H :=
  h.keptP (f.toP (P:=(·∈N)) (fun _ e _=>e)) g j
theorem aR.Vb{d:Db}(h:aR l b a i D d H)(c:ab [] l k):aR k b a i D d H:=h.kept c (by simp) (by simp)
theorem Am(a:zb.length=y4)(b:f<v.length):(zb++(v++o)).toArray[y4+f]?=v[f]?:=by
  subst a;simp[List.getElem?_append_right,List.getElem?_append_left b]
theorem Gw(u:Value)(a:zb.length=y4)(b:f<v.length):(zb++(v++o)).set (y4+f) u=zb++(v.set f u++o):=by
  subst a;rw[SS _ _ (by omega),show zb.length+f-zb.length=f by omega,TM _ _ b]
theorem aR.cellAt{d:Db}(h:aR l b a i D d H)(o:Nat)(f:i.length=o)(c:Nat)(e:c<13):l.cell? ⟨b,o+c,none⟩=(b9 d H)[c]? :=
  (aa h.blk (o+c)).trans (Am i (b9 d H) D o c f e)
theorem aR.cells{d:Db}(h:aR l b a i D d H)(o:Nat)(c:i.length=o) :
    l.cell? ⟨b,o,none⟩=some (.slice (H 0).ao d.Ve.length (H 0).cap)/\l.cell? ⟨b,o+1,none⟩=some (.slice (H 1).ao d.U8.length (H 1).cap) /\
    l.cell? ⟨b,o+2,none⟩=some (.slice (H 2).ao d.U9.length (H 2).cap)/\l.cell? ⟨b,o+3,none⟩=some (.slice (H 3).ao d.Vf.length (H 3).cap) /\
    l.cell? ⟨b,o+4,none⟩=some (.slice (H 4).ao d.Vi.length (H 4).cap)/\l.cell? ⟨b,o+5,none⟩=some (.slice (H 5).ao d.blocks.length (H 5).cap) /\
    l.cell? ⟨b,o+6,none⟩=some (.slice (H 6).ao d.Vn.length (H 6).cap)/\l.cell? ⟨b,o+7,none⟩=some (.slice (H 7).ao d.rbl.length (H 7).cap) /\
    l.cell? ⟨b,o+8,none⟩=some (.int .i64 d.kind)/\l.cell? ⟨b,o+9,none⟩=some (.string d.label)/\l.cell? ⟨b,o+10,none⟩=some (.slice (H 8).ao d.U6.length (H 8).cap) /\
    l.cell? ⟨b,o+11,none⟩=some (.bool d.Va)/\l.cell? ⟨b,o+12,none⟩=some (.slice (H 9).ao d.Vh.length (H 9).cap):=by
  have m:=h.cellAt o c;exact⟨m 0 (by omega),m 1 (by omega),m 2 (by omega),m 3 (by omega),m 4 (by omega),m 5 (by omega),m 6 (by omega),m 7 (by omega),m 8 (by omega),m 9 (by omega),m 10 (by omega),m 11 (by omega),m 12 (by omega)⟩
def aA(b:Nat)(w:World)(H:Nat->Hd)(w':World)(H':Nat->Hd):Prop :=
  eK (fun k=>k=b∨f9 H k) w w'/\∀k,f9 H' k->f9 H k∨w.heap.size<=k
theorem aA.refl(H:Nat->Hd):aA f d H d H:=⟨eK.refl _ _,fun _ a=>Q1 a⟩
theorem aA.trans{w1:World}{i:Nat->Hd}(a:aA b l H w1 y2)(c:aA b w1 y2 k i):aA b l H k i:=by
  refine⟨⟨c.1.os.trans a.1.os,c.1.tape.trans a.1.tape,c.1.output.trans a.1.output,Q3 a.1.size c.1.size,?_⟩,?_⟩
  · intro d f g
    rw[<-a.1.block d f g];refine c.1.block d (QX f a.1.size) ?_;rintro (e | j)
    · exact g (Q1 e)
    · rcases a.2 d j with h | h
      · exact g (QV h)
      · omega
  · intro d f
    rcases c.2 d f with h | h
    · exact a.2 d h
    · exact QV (Q3 a.1.size h)
theorem aA.Vb(a:aA b l H k y2)(c:ab [] k y0):aA b l H y0 y2 :=
  a.trans ⟨c.toP (by simp),fun _ d=>Q1 d⟩
theorem aA.first(c:ab [] l k)(a:aA b k H y0 y2):aA b l H y0 y2 :=
  aA.trans ⟨c.toP (by simp),fun _ d=>Q1 d⟩ a
theorem aR.putG{d d':Db}(h:aR l b a i D d H)(o c:Nat)(L:i.length=o)(m:Nat)(K:m<10)(n:Hd)(N:aw k n (aU d' H m))(v:l.grownBy k (H m).blk)(f:n.blk=none∨n.blk=(H m).blk∨∃g,n.blk=some g/\l.heap.size<=g)(y:∀j,j≠m->aw l (H j) (aU d' H j))(u:Value)(M:c<13)(I:(b9 d H).set c u=b9 d' (g9 H m n)) :
    aR (k.setCell ⟨b,o+c,none⟩ u) b a i D d' (g9 H m n)/\aA b l H (k.setCell ⟨b,o+c,none⟩ u) (g9 H m n):=by
  have J:=h.lt;have C:k.heap[b]?=some (.cells (i++(b9 d H++D)).toArray a (0,0)):=(v.block b J (fun e=>h.off m e.symm)).trans h.blk
  have t:∀j,(g9 H m n j).blk≠some b:=by
    intro j
    by_cases e:j=m
    · subst e;rw[dh];intro w
      rcases f with f | f | ⟨g,f,r⟩
      · rw[f]at w;cases w
      · exact h.off j (f ▸ w)
      · rw[f]at w;cases w;omega
    · rw[bU _ _ _ _ e];exact h.off j
  refine⟨⟨?_,?_,?_,t⟩,⟨v.os,v.tape,v.output,by have:=v.size;simp[World.setCell];omega,?_⟩,?_⟩
  · rw[ah C,Ru,Gw i (b9 d H) D o c u L M,I]
  · intro j
    have q:aw k (g9 H m n j) (aU d' (g9 H m n) j):=by
      rw[Mo d' H m n K j]
      by_cases e:j=m
      · subst e;rw[dh];exact N
      · rw[bU _ _ _ _ e]
        refine(y j e).Vg (fun x p=>v.block x ((h.own j).lt p) ?_);intro A
        rcases h.apart j m e with B | B
        · rw[B]at p;cases p
        · exact B (p.trans A)
    refine q.Vg (fun x p=>Q4 _ _ _ _ ?_);rintro rfl;exact t j p
  · intro j z s
    by_cases e:j=m
    · subst e
      rw[dh,bU _ _ _ _ (fun e=>s e.symm)]
      rcases f with f | f | ⟨g,f,r⟩
      · exact Q1 f
      · rw[f];exact h.apart j z s
      · right;rw[f];intro A;have:=(h.own z).lt A.symm;omega
    · rw[bU _ _ _ _ e]
      by_cases E:z=m
      · subst E
        rw[dh]
        rcases f with f | f | ⟨g,f,r⟩
        · rw[f];cases (H j).blk <;> simp
        · rw[f];exact h.apart j z s
        · cases w:(H j).blk with
          | none=>exact Q1 rfl
          | some x=>right;rw[f];intro A;cases A;have:=(h.own j).lt w;omega
      · rw[bU _ _ _ _ E];exact h.apart j z s
  · intro x p G
    rw[Q4 _ _ _ _ (fun e=>G (Q1 e))];exact v.block x p (fun e=>G (QV ⟨m,e.symm⟩))
  · intro x p
    obtain⟨j,e⟩:=p
    by_cases F:j=m
    · subst F
      rw[dh]at e
      rcases f with f | f | ⟨g,f,r⟩
      · rw[f]at e;cases e
      · exact Q1 ⟨j,f ▸ e⟩
      · rw[f]at e;cases e;exact QV r
    · rw[bU _ _ _ _ F]at e
      exact Q1 ⟨j,e⟩
theorem aR.put{d d':Db}(h:aR l b a i D d H)(o c:Nat)(t:i.length=o)(e:Nat)(q:e<10)(f:Hd)(s:aw k f (aU d' H e))(p:l.grownBy k (H e).blk)(v:f.blk=none∨f.blk=(H e).blk∨∃g,f.blk=some g/\l.heap.size<=g)(m:∀j,j≠e->aU d' H j=aU d H j)(u:Value)(r:c<13)(n:(b9 d H).set c u=b9 d' (g9 H e f)) :
    aR (k.setCell ⟨b,o+c,none⟩ u) b a i D d' (g9 H e f)/\aA b l H (k.setCell ⟨b,o+c,none⟩ u) (g9 H e f) :=
  h.putG o c t e q f s p v (fun j w=>by rw[m j w];exact h.own j) u r n
theorem aR.set{d d':Db}(h:aR l b a i D d H)(o c:Nat)(n:i.length=o)(e:∀j,aU d' H j=aU d H j)(u:Value)(m:c<13)(g:(b9 d H).set c u=b9 d' H) :
    aR (l.setCell ⟨b,o+c,none⟩ u) b a i D d' H/\aA b l H (l.setCell ⟨b,o+c,none⟩ u) H:=by
  refine⟨⟨?_,?_,h.apart,h.off⟩,(eK.refl _ _).setCell (Q1 (Q1 rfl)) _,fun _ f=>Q1 f⟩
  · rw[ah h.blk,Ru,Gw i (b9 d H) D o c u n m,g]
  · intro j
    rw[e j];refine(h.own j).Vg (fun k f=>Q4 _ _ _ _ ?_);rintro rfl;exact h.off j f
theorem aR.app{d d':Db}(h:aR l b a i D d H)(o c:Nat)(w:i.length=o)(n:Nat)(A:n<10)(g f m:Nat)(r:dN)(t:aw k ⟨some ⟨g,0,none⟩,f⟩ r)(B:r=aU d' H n)(q:l.grownBy k (H n).blk)(p:(H n).blk=some g∨l.heap.size<=g)(s:∀j,j≠n->aU d' H j=aU d H j)(x:c<13)(u:Value)(z:(b9 d H)[c]?=some u)(y:(b9 d H).set c (.slice (some ⟨g,0,none⟩) m f)=b9 d' (g9 H n ⟨some ⟨g,0,none⟩,f⟩)) :
    k.cell? ⟨b,o+c,none⟩=some u/\k.frozen? ⟨b,o+c,none⟩=false /\
    Hid (aR (k.setCell ⟨b,o+c,none⟩ (.slice (some ⟨g,0,none⟩) m f)) b a i D d' (g9 H n ⟨some ⟨g,0,none⟩,f⟩) /\
      aA b l H (k.setCell ⟨b,o+c,none⟩ (.slice (some ⟨g,0,none⟩) m f)) (g9 H n ⟨some ⟨g,0,none⟩,f⟩)):=by
  have v:=(q.block b h.lt (fun e=>h.off n e.symm)).trans h.blk;subst B;refine⟨((aa v (o+c)).trans (Am i (b9 d H) D o c w x)).trans z,am v _,?_⟩
  exact h.put (d':=d') o c w n A ⟨some ⟨g,0,none⟩,f⟩ t q
    (by rcases p with e | e
        · exact QV (Q1 e.symm)
        · exact QV (QV ⟨g,rfl,by simpa using e⟩)) s _ x y
theorem CU(d:Db)(H:Nat->Hd)(l:List ByteArray):∀j,j≠0->aU { d with Ve:=l } H j=aU d H j:=by
  intro j a
  match j with
  | 0=>exact absurd rfl a
  | 1=>rfl
  | 2=>rfl
  | 3=>rfl
  | 4=>rfl
  | 5=>rfl
  | 6=>rfl
  | 7=>rfl
  | 8=>rfl
  | 9=>rfl
  | n+10=>rfl
theorem wY(d:Db)(H:Nat->Hd)(l:List ByteArray):∀j,j≠1->aU { d with U8:=l } H j=aU d H j:=by
  intro j a
  match j with
  | 0=>rfl
  | 1=>exact absurd rfl a
  | 2=>rfl
  | 3=>rfl
  | 4=>rfl
  | 5=>rfl
  | 6=>rfl
  | 7=>rfl
  | 8=>rfl
  | 9=>rfl
  | n+10=>rfl
theorem xb(d:Db)(H:Nat->Hd)(l:List ByteArray):∀j,j≠2->aU { d with U9:=l } H j=aU d H j:=by
  intro j a
  match j with
  | 0=>rfl
  | 1=>rfl
  | 2=>exact absurd rfl a
  | 3=>rfl
  | 4=>rfl
  | 5=>rfl
  | 6=>rfl
  | 7=>rfl
  | 8=>rfl
  | 9=>rfl
  | n+10=>rfl
theorem uP(d:Db)(H:Nat->Hd)(l:List ByteArray):∀j,j≠3->aU { d with Vf:=l } H j=aU d H j:=by
  intro j a
  match j with
  | 0=>rfl
  | 1=>rfl
  | 2=>rfl
  | 3=>exact absurd rfl a
  | 4=>rfl
  | 5=>rfl
  | 6=>rfl
  | 7=>rfl
  | 8=>rfl
  | 9=>rfl
  | n+10=>rfl
theorem xa(d:Db)(H:Nat->Hd)(l:List ByteArray):∀j,j≠4->aU { d with Vi:=l } H j=aU d H j:=by
  intro j a
  match j with
  | 0=>rfl
  | 1=>rfl
  | 2=>rfl
  | 3=>rfl
  | 4=>exact absurd rfl a
  | 5=>rfl
  | 6=>rfl
  | 7=>rfl
  | 8=>rfl
  | 9=>rfl
  | n+10=>rfl
theorem uQ(d:Db)(H:Nat->Hd)(l:List (Nat×Nat)):∀j,j≠5->aU { d with blocks:=l } H j=aU d H j:=by
  intro j b
  match j with
  | 0=>rfl
  | 1=>rfl
  | 2=>rfl
  | 3=>rfl
  | 4=>rfl
  | 5=>exact absurd rfl b
  | 6=>rfl
  | 7=>rfl
  | 8=>rfl
  | 9=>rfl
  | n+10=>rfl
theorem CV(d:Db)(H:Nat->Hd)(l:List Nat):∀j,j≠7->aU { d with rbl:=l } H j=aU d H j:=by
  intro j a
  match j with
  | 0=>rfl
  | 1=>rfl
  | 2=>rfl
  | 3=>rfl
  | 4=>rfl
  | 5=>rfl
  | 6=>rfl
  | 7=>exact absurd rfl a
  | 8=>rfl
  | 9=>rfl
  | n+10=>rfl
theorem tq(d:Db)(H:Nat->Hd)(l:List ByteArray):∀j,j≠8->aU { d with U6:=l } H j=aU d H j:=by
  intro j a
  match j with
  | 0=>rfl
  | 1=>rfl
  | 2=>rfl
  | 3=>rfl
  | 4=>rfl
  | 5=>rfl
  | 6=>rfl
  | 7=>rfl
  | 8=>exact absurd rfl a
  | 9=>rfl
  | n+10=>rfl
theorem wZ(d:Db)(H:Nat->Hd)(l:List (ByteArray×Pl)):∀j,j≠9->aU { d with Vh:=l } H j=aU d H j:=by
  intro j a
  match j with
  | 0=>rfl
  | 1=>rfl
  | 2=>rfl
  | 3=>rfl
  | 4=>rfl
  | 5=>rfl
  | 6=>rfl
  | 7=>rfl
  | 8=>rfl
  | 9=>exact absurd rfl a
  | n+10=>rfl
theorem JI(d:Db)(H:Nat->Hd)(l:Int):∀j,aU { d with kind:=l } H j=aU d H j:=by
  intro j
  match j with
  | 0=>rfl
  | 1=>rfl
  | 2=>rfl
  | 3=>rfl
  | 4=>rfl
  | 5=>rfl
  | 6=>rfl
  | 7=>rfl
  | 8=>rfl
  | 9=>rfl
  | n+10=>rfl
theorem E8(d:Db)(H:Nat->Hd)(l:ByteArray):∀j,aU { d with label:=l } H j=aU d H j:=by
  intro j
  match j with
  | 0=>rfl
  | 1=>rfl
  | 2=>rfl
  | 3=>rfl
  | 4=>rfl
  | 5=>rfl
  | 6=>rfl
  | 7=>rfl
  | 8=>rfl
  | 9=>rfl
  | n+10=>rfl
theorem Ay(d:Db)(H:Nat->Hd)(l:Bool):∀j,aU { d with Va:=l } H j=aU d H j:=by
  intro j
  match j with
  | 0=>rfl
  | 1=>rfl
  | 2=>rfl
  | 3=>rfl
  | 4=>rfl
  | 5=>rfl
  | 6=>rfl
  | 7=>rfl
  | 8=>rfl
  | 9=>rfl
  | n+10=>rfl
def aJ(l:List ByteArray)(x:ByteArray):Bool:=l.any (fun y=>y.toList==x.toList)
theorem Gn(h:f<T.length)(b:aJ T w=aJ (T.drop f) w)(a:((T[f]).toList==w.toList)=true):aJ T w=true:=by
 rw[b,Rf h];simp only[aJ,List.any_cons,a,Bool.true_or]
theorem BU(h:f<T.length)(b:aJ T w=aJ (T.drop f) w)(a:((T[f]).toList==w.toList)=false):aJ T w=aJ (T.drop (f+1)) w:=by
 rw[b,Rf h];simp only[aJ,List.any_cons,a,Bool.false_or]
theorem BZ(h:¬f<T.length)(a:aJ T w=aJ (T.drop f) w):aJ T w=false:=by
 rw[a,R8 (by omega)];rfl
theorem tC(h:f<T.length):(cN T)[f]?=some (.string T[f]):=by simp[cN,h]
theorem eN(c:aw d z6 (aB T))(p:T.length<=1073741824) :
  Calls prog 253 #[.slice z6.ao T.length z6.cap,.string w] d fun e r=>e=.returned (.bool (aJ T w))/\r=d:=by
 obtain⟨y,t⟩:=z6
 rcases c.Vm with ⟨l,o,_⟩ | ⟨g,q,n,_⟩
 ·have f:T.length=0:=o
  have j:T=[]:=Rk f;subst j
  injection l with l s
  subst l;clear c o f p s;go_enter func253,ntmps253;go_wp2;refine SZ 1 ?_;rw[Tr];go_wp2;go_ret;exact⟨rfl,rfl⟩
 ·simp only at n
  subst n;go_enter func253,ntmps253;go_wp2
  go_loopg [5] T.length (fun g i wr=>∃k:Nat,k<=T.length/\g=T.length-k/\i=.int .i64 k/\Hid (aJ T w=aJ (T.drop k) w)/\wr=d)
  case atStart=>exact⟨0,by omega,by omega,rfl,rfl,rfl⟩
  case round =>
   obtain⟨k,v,x,rfl,b,rfl⟩:=hrel
   by_cases a:k<T.length
   ·have u:=c.cell rfl k (.string T[k]) (tC T k a)
    cases m:((T[k]).toList==w.toList)
    ·have h:Hid (aJ T w=aJ (T.drop (k+1)) w):=BU T w k a b.out m
     clear b c;go_wp2
     go_roundg (T.length-(k+1))
     case measure=>omega
     case rel=>exact⟨k+1,by omega,rfl,by go_num,h,rfl⟩
    ·have h:Hid (aJ T w=true):=Gn T w k a b.out m
     clear b c;go_wp2;go_ret;exact⟨aD h.out.symm,rfl⟩
   ·have h:Hid (aJ T w=false):=BZ T w k a b.out
    clear b c;go_wp2;go_ret;exact⟨aD h.out.symm,rfl⟩
theorem js:(prog.info? 9).map (fun i=>(i.zero,i.size,i.bytes))=some (some (.string ⟨#[]⟩),1,16):=by kernel_rfl
theorem JY:cN (T++[w])=cN T++[.string w]:=by simp[cN]
theorem dr:(⟨(aB T).e,(aB T).size,(aB T).n+1,(aB T).xs++[.string w]⟩:dN)=aB (T++[w]):=by
 simp[aB,JY]
theorem zA(d:Db)(H:Nat->Hd)(c:ByteArray)(w:World)(h:aR w n S v o d H)(D:v.length=x)(X:d.Ve.length<=1073741824) :
  Calls prog 264 #[.pointer (some ⟨n,x,none⟩),.string c] w fun e C=>e=.returned (.tuple #[])/\∃E,aR C n S v o { d with Ve:=d.Ve++[c] } E/\aA n w H C E:=by
 obtain⟨W,Q,A,m,s⟩:=Re js;obtain⟨L,P,G,R,F,M,O,J,N,T,y,t,z⟩:=h.cells x D;have q:=h.free;have K:=h.lt;have p:=h.Vb ((ab.refl [] w).alloc (.cells #[.string c] 9));have b:=p.own 0;go_enter func264,ntmps264;go_wp2_with (at_builtin;refine aM _ rfl (.tmp 8) (.tmp 10) 61 rfl W (.string ⟨#[]⟩) 16 (H 0) (aB d.Ve) underlying61 Q A m s rfl Rc rfl b ⟨w.heap.size,0,none⟩ 1 1 [.string c] rfl rfl ?c1 ?c2 Rc ?c3 ?c4 ?_)
 case c1=>intro j u l;match j,l with | 0,l=>simp at l;subst l;simp[Addr.add]
 case c2=>intro u B;simp at B;subst B;rfl
 case c3=>simp only[aB];unfold maxLen;omega
 case c4=>simp only[aB];omega
 ·intro g i Y k f a
  obtain⟨I,V,r⟩:=p.app (d':={ d with Ve:=d.Ve++[c] }) x 0 D 0 (by omega) g i ((aB d.Ve).n+1) _ k (dr d.Ve c) f (by simpa using a) (CU d H _) (by omega) _ rfl (by simp[b9,g9,aB]);simp only[Nat.add_zero]at I V r;clear p b L P G R F M O J N T y t z k f a q;go_wp2;go_end0;exact⟨rfl,_,r.out.1,r.out.2.first ((ab.refl [] w).alloc _)⟩
theorem zB(d:Db)(H:Nat->Hd)(c:ByteArray)(w:World)(h:aR w n S v o d H)(D:v.length=x)(V:d.Vi.length<=1073741824) :
  Calls prog 267 #[.pointer (some ⟨n,x,none⟩),.string c] w fun e B=>e=.returned (.tuple #[])/\∃E,aR B n S v o { d with Vi:=d.Vi++[c] } E/\aA n w H B E:=by
 obtain⟨U,P,z,m,r⟩:=Re js;obtain⟨K,O,G,Q,F,L,N,I,M,R,t,s,y⟩:=h.cells x D;have q:=h.free;have J:=h.lt;have p:=h.Vb ((ab.refl [] w).alloc (.cells #[.string c] 9));have b:=p.own 4;go_enter func267,ntmps267;go_wp2_with (at_builtin;refine aM _ rfl (.tmp 8) (.tmp 10) 61 rfl U (.string ⟨#[]⟩) 16 (H 4) (aB d.Vi) underlying61 P z m r rfl Rc rfl b ⟨w.heap.size,0,none⟩ 1 1 [.string c] rfl rfl ?c1 ?c2 Rc ?c3 ?c4 ?_)
 case c1=>intro j u l;match j,l with | 0,l=>simp at l;subst l;simp[Addr.add]
 case c2=>intro u A;simp at A;subst A;rfl
 case c3=>simp only[aB];unfold maxLen;omega
 case c4=>simp only[aB];omega
 ·intro g i X k f a
  obtain⟨W,Y,C⟩:=p.app (d':={ d with Vi:=d.Vi++[c] }) x 4 D 4 (by omega) g i ((aB d.Vi).n+1) _ k (dr d.Vi c) f (by simpa using a) (xa d H _) (by omega) _ rfl (by simp[b9,g9,aB])
  skip
  clear p b K O G Q F L N I M R t s y k f a q;go_wp2;go_end0;exact⟨rfl,_,C.out.1,C.out.2.first ((ab.refl [] w).alloc _)⟩
structure fK(d:Db)(N:Nat):Prop where
 Ve:d.Ve.length<=N
 U8:d.U8.length<=N
 U9:d.U9.length<=N
 Vf:d.Vf.length<=N
 Vi:d.Vi.length<=N
 blocks:d.blocks.length<=N
 Vn:d.Vn.length<=N
 rbl:d.rbl.length<=N
 U6:d.U6.length<=N
 Vh:d.Vh.length<=N
theorem qu:(⟨(aB z7).e,(aB z7).size,(aB z7).n+T.length,(aB z7).xs++cN T⟩:dN)=aB (z7++T):=by
 simp[aB,cN]
theorem lY:∀u∈cN T,u.oneCell'=true:=by
 intro u a;simp only[cN,List.mem_map]at a;obtain⟨x,_,rfl⟩:=a;rfl
theorem tG(d:Db)(H:Nat->Hd)(w:World)(h:aR w n S v o d H)(F:v.length=x)(K:0<d.U6.length)(D:fK d 100000000) :
  Calls prog 265 #[.pointer (some ⟨n,x,none⟩),.slice (H 8).ao d.U6.length (H 8).cap] w fun e B=>e=.returned (.tuple #[])/\∃G,aR B n S v o { d with U8:=d.U8++d.U6 } G/\aA n w H B G:=by
 obtain⟨i0,W,y,m,q⟩:=Re js;obtain⟨N,U,J,X,I,O,T,L,P,Y,s,r,t⟩:=h.cells x F;have p:=h.free;have M:=h.lt;have b:=h.own 1;have f:aw w (H 8) (aB d.U6):=h.own 8;have R:=D.U8;have V:=D.U6
 rcases f.Vm with ⟨_,h0,_⟩ | ⟨E,z,A,_⟩
 ·have:d.U6.length=0:=h0
  omega
 ·rw[A]
  have c:Hid (∀j u,(cN d.U6)[j]?=some u->w.cell? ((⟨E,0,none⟩:Addr).add j)=some u):=fun j u Z=>by rw[bL];exact f.cell A j u Z
  clear f;go_enter func265,ntmps265;go_wp2_with (at_builtin;refine aM _ rfl (.tmp 8) (.tmp 9) 61 rfl i0 (.string ⟨#[]⟩) 16 (H 1) (aB d.U8) underlying61 W y m q rfl Rc rfl b ⟨E,0,none⟩ d.U6.length (H 8).cap (cN d.U6) rfl ?c0 c.out (lY _) K ?c3 ?c4 ?_)
  case c0=>simp[cN,aB]
  case c3=>simp only[aB];unfold maxLen;omega
  case c4=>simp only[aB];omega
  ·intro g k w1 l i a
   obtain⟨k0,f0,C⟩:=h.app (d':={ d with U8:=d.U8++d.U6 }) x 1 F 1 (by omega) g k ((aB d.U8).n+d.U6.length) _ l (qu d.U8 d.U6) i a (wY d H _) (by omega) _ rfl (by simp[b9,g9,aB]);clear b N U J X I O T L P Y s r t l i a p c;go_wp2;go_end0;exact⟨rfl,_,C.out.1,C.out.2⟩
def dR(v l:List ByteArray):List ByteArray:=l.foldl (fun v x=>if aJ v x=true then v else v++[x]) v
def dO(d:Db)(k:Nat):Db:={ d with Vf:=d.Vf++d.U6,U9:=dR d.U9 (d.U6.take k) }
theorem J5:dR z7 (T++[w])=if aJ (dR z7 T) w=true then dR z7 T else dR z7 T++[w]:=by
 unfold dR;rw[Sw];rfl
theorem Dl(v l:List ByteArray):(dR v l).length<=v.length+l.length:=by
 induction l generalizing v with
 | nil=>simp[dR]
 | cons x l a =>
  have:=a (if aJ v x=true then v else v++[x]);have e:dR v (x :: l)=dR (if aJ v x=true then v else v++[x]) l:=rfl;rw[e];have b:(if aJ v x=true then v else v++[x]).length<=v.length+1:=by split <;> simp
  simp only[List.length_cons];omega
theorem jo{α:Type}(l:List α)(k:Nat)(h:k<l.length):l.take (k+1)=l.take k++[l[k]]:=by simp
theorem tH(d:Db)(H:Nat->Hd)(w:World)(h:aR w n S v o d H)(N:v.length=x)(hm:0<d.U6.length)(hs:fK d 100000000) :
  Calls prog 266 #[.pointer (some ⟨n,x,none⟩),.slice (H 8).ao d.U6.length (H 8).cap] w fun e w'=>e=.returned (.tuple #[])/\∃H',aR w' n S v o (dO d d.U6.length) H'/\aA n w H w' H':=by
 obtain⟨i0,hi,K,L,J⟩:=Re js;obtain⟨I,V,X,W,F,Q,U,G,R,O,y,p,z⟩:=h.cells x N;have A:=h.free;have ad:=h.lt;have B:=h.own 3;have m:aw w (H 8) (aB d.U6):=h.own 8;have ai:=hs.Vf;have af:=hs.U6;have al:=hs.U9
 rcases m.Vm with ⟨_,h0,_⟩ | ⟨g8,ac,e8,_⟩
 ·have:d.U6.length=0:=h0
  omega
 ·rw[e8]
  have C:Hid (∀j u,(cN d.U6)[j]?=some u->w.cell? ((⟨g8,0,none⟩:Addr).add j)=some u):=fun j u hj=>by rw[bL];exact m.cell e8 j u hj
  clear m;go_enter func266,ntmps266;go_wp2_with (at_builtin;refine aM _ rfl (.tmp 9) (.tmp 10) 61 rfl i0 (.string ⟨#[]⟩) 16 (H 3) (aB d.Vf) underlying61 hi K L J rfl Rc rfl B ⟨g8,0,none⟩ d.U6.length (H 8).cap (cN d.U6) rfl ?c0 C.out (lY _) hm ?c3 ?c4 ?_)
  case c0=>simp[cN,aB]
  case c3=>simp only[aB];unfold maxLen;omega
  case c4=>simp only[aB];omega
  ·intro g t w1 r s a
   obtain⟨k0,f0,E⟩:=h.app (d':=dO d 0) x 3 N 3 (by omega) g t ((aB d.Vf).n+d.U6.length) _ r (qu d.Vf d.U6) s a (uP d H _) (by omega) _ rfl (by simp[b9,g9,aB,dO,dR]);clear B I V X W F Q U G R O y p z r s a A C;go_wp2
   go_loopg [4] d.U6.length (fun g i wr=>∃(k:Nat) (l:Nat->Hd),k<=d.U6.length/\g=d.U6.length-k/\i=.int .i64 k/\l 8=H 8/\aR wr n S v o (dO d k) l/\aA n w H wr l)
   case atStart=>exact⟨0,_,by omega,by omega,rfl,by simp[g9],E.out.1,E.out.2⟩
   case round =>
    obtain⟨k,l,hk,hg,rfl,h8,D,T⟩:=hrel;clear E k0 f0
    by_cases M:k<d.U6.length
    ·obtain⟨I,V,X,W,F,Q,U,G,R,O,y,p,z⟩:=D.cells x N
     have m:aw wr (H 8) (aB d.U6):=by have:=D.own 8;rw[h8]at this;exact this
     have c1:=m.cell e8 k (.string d.U6[k]) (tC d.U6 k M)
     have P:(dO d k).U9.length<=1073741824:=by
      have:=Dl d.U9 (d.U6.take k);simp only[List.length_take]at this
      show(dR d.U9 (d.U6.take k)).length<=_
      omega
     have A:=D.free
     have Z:Hid (dO d (k+1)=if aJ (dO d k).U9 d.U6[k]=true then dO d k else { dO d k with U9:=(dO d k).U9++[d.U6[k]] }):=by
      show dO d (k+1)=_
      unfold dO;rw[jo d.U6 k M,J5];simp only
      split <;> rfl
     generalize dO d k=b at *;generalize d.U6[k]=c at *;clear I V W F Q U G R O y p z m
     cases hb:aJ b.U9 c
     ·have HT:Hid (dO d (k+1)={ b with U9:=b.U9++[c] }):=by show dO d (k+1)=_;rw[Z.out];simp[hb]
      clear Z;go_wp2_with fail
      go_quiet ((go_at_call 253;exact Rd (eN (l 2) b.U9 c _ (D.Vb ((ab.refl [] _).drewN _) |>.own 2) P)))
      obtain⟨f,q⟩:∃f,f=wr.drewN nq:=⟨_,rfl⟩
      rw[<-q];have Y:aR f n S v o b l:=by rw[q];exact D.Vb ((ab.refl [] _).drewN _)
      have T2:aA n w H f l:=by rw[q];exact T.Vb ((ab.refl [] _).drewN _)
      have an:f.cell? ⟨g8,k,none⟩=some (.string c):=by rw[q];exact c1
      clear q c1 D T A X;obtain⟨I,V,X,W,F,Q,U,G,R,O,y,p,z⟩:=Y.cells x N;have A:=Y.free;have ag:=Y.lt;clear I V W F Q U G R O y p z;have hD:Hid (aR (f.alloc (.cells #[.string c] 9)).drew n S v o b l):=Y.Vb ((ab.refl [] f).alloc _).drew
      have s2:Hid (∀j u,([.string c]:List Value)[j]?=some u->(f.alloc (.cells #[.string c] 9)).drew.cell? ((⟨f.heap.size,0,none⟩:Addr).add j)=some u):=by
       intro j u hj;have hk:(f.alloc (.cells #[.string c] 9)).drew.heap[f.heap.size]?=some (.cells #[.string c] 9 (0,0)):=QS f _;rw[bL,aa hk];simpa using hj
      have s3:Hid (∀u∈([.string c]:List Value),u.oneCell'=true):=by intro u hu;simp at hu;subst hu;rfl
      have s4:Hid ((aB b.U9).n+1<=maxLen):=by show _<=_;simp only[aB];unfold maxLen;omega
      have s5:Hid (((aB b.U9).n+1)*16<=140737488355328):=by show _<=_;simp only[aB];omega
      go_wp2_with fail
      go_region_law (refine cd rfl (.tmp 34) (.tmp 39) 61 rfl i0 (.string ⟨#[]⟩) 16 (l 2) (aB b.U9) underlying61 hi K L J rfl Rc (by simp[Act.eval] <;> rfl) (hD.out.own 2) ⟨f.heap.size,0,none⟩ 1 1 [.string c] (by simp[Act.eval]) rfl s2.out s3.out Rc s4.out s5.out ?_;intro g t w1 r s a;obtain⟨k5,f5,E⟩:=hD.out.app (d':={ b with U9:=b.U9++[c] }) x 2 N 2 (by omega) g t ((aB b.U9).n+1) _ r (dr b.U9 c) s (by simpa using a) (xb b l _) (by omega) _ rfl (by simp[b9,g9,aB]);clear r s a)
      all_goals go_wp2
      all_goals
       go_roundg (d.U6.length-(k+1))
       case measure=>omega
       case rel=>exact⟨k+1,_,by omega,rfl,by go_num,by simp[g9,h8],by rw[HT.out];exact E.out.1,T2.trans (E.out.2.first ((ab.refl [] _).alloc _).drew)⟩
     ·have HT:Hid (dO d (k+1)=b):=by show dO d (k+1)=_;rw[Z.out];simp[hb]
      clear Z;go_wp2_with fail
      go_quiet ((go_at_call 253;exact Rd (eN (l 2) b.U9 c _ (D.Vb ((ab.refl [] _).drewN _) |>.own 2) P)))
      go_wp2
      go_roundg (d.U6.length-(k+1))
      case measure=>omega
      case rel=>exact⟨k+1,l,by omega,rfl,by go_num,h8,by rw[HT.out];exact D.Vb ((ab.refl [] _).drewN _),T.Vb ((ab.refl [] _).drewN _)⟩
    ·have e:k=d.U6.length:=by omega
     subst e;go_wp2;go_end0;exact⟨rfl,l,D,T⟩
def jA(n:Int):Bool:=(decide (97<=n)&&decide (n<=122))||(decide (65<=n)&&decide (n<=90))||(decide (48<=n)&&decide (n<=57))||n==45||n==95||n==46
def gG(s:ByteArray):Bool:=(List.range s.size).all (fun i=>jA (aF s i))
theorem ph :
  Calls prog 275 #[.int .u8 L] d fun e g=>e=.returned (.bool (jA L))/\g=d:=by
 by_cases a:(97<=L/\L<=122)∨(65<=L/\L<=90)∨(48<=L/\L<=57)
 ·have b:Hid (jA L=true):=by show jA L=true;simp only[jA,Bool.or_eq_true,Bool.and_eq_true,decide_eq_true_eq];omega
  rcases a with a | a | a
  all_goals
   go_enter func275,ntmps275;go_wp2;go_ret;exact⟨aD b.out.symm,rfl⟩
 ·have b:Hid (jA L=(L==45||L==95||L==46)):=by
   show jA L=_
   have c:(decide (97<=L)&&decide (L<=122))=false:=by simp;omega
   have f:(decide (65<=L)&&decide (L<=90))=false:=by simp;omega
   have h:(decide (48<=L)&&decide (L<=57))=false:=by simp;omega
   simp only[jA,c,f,h,Bool.false_or]
  go_enter func275,ntmps275;go_wp2
  all_goals go_ret
  all_goals (refine⟨aD ?_,rfl⟩;first | rfl | (rw[b.out];done) | (rw[b.out];simp[*];done))
theorem DF(h:f<b)(a:y1 f=false):(List.range b).all y1=false:=by
 rw[Ue];exact⟨f,by simpa using h,by simp[a]⟩
theorem zC(h:∀i,i<b->y1 i=true):(List.range b).all y1=true:=by
 rw[Sn];intro i a;exact h i (by simpa using a)
theorem nc(p:w.size<=1073741824) :
  Calls prog 263 #[.string w] d fun e m=>e=.returned (.bool (gG w))/\m=d:=by
 go_enter func263,ntmps263;go_wp2
 go_loopg [3] w.size (fun g i wr=>∃k:Nat,k<=w.size/\g=w.size-k/\i=.int .i64 k/\Hid (∀i,i<k->jA (aF w i)=true)/\wr=d)
 case atStart=>exact⟨0,by omega,by omega,rfl,fun i h=>by omega,rfl⟩
 case round =>
  obtain⟨k,o,n,rfl,a,rfl⟩:=hrel
  by_cases b:k<w.size
  ·cases f:jA (w[k].toNat:Int)
   ·have c:Hid (gG w=false):=DF k b (by rw[bP w k b];exact f)
    go_wp2_with fail;refine(ph _ _).mono ?_;rintro e l ⟨rfl,rfl⟩;go_wp2;go_ret;exact⟨aD c.out.symm,rfl⟩
   ·go_wp2_with fail
    refine(ph _ _).mono ?_;rintro e l ⟨rfl,rfl⟩;go_wp2
    go_roundg (w.size-(k+1))
    case measure=>omega
    case rel =>
     refine⟨k+1,by omega,rfl,by go_num,?_,rfl⟩;intro i j
     by_cases e:i=k
     ·subst e;rw[bP w i b];exact f
     ·exact a.out i (by omega)
  ·have c:Hid (gG w=true):=zC (fun i j=>a.out i (by omega))
   go_wp2;go_ret;exact⟨aD c.out.symm,rfl⟩
theorem kG(d:Db)(H:Nat->Hd)(a:ByteArray)(w:World)(h:aR w n S v o d H)(g:v.length=x)(b:d.Vf.length<=1073741824) :
  Calls prog 269 #[.pointer (some ⟨n,x,none⟩),.string a] w fun e c=>e=.returned (.bool (aJ d.Vf a))/\c=w:=by
 obtain⟨q,u,k,y,l,p,t,m,r,z,i,f,j⟩:=h.cells x g;go_enter func269,ntmps269;go_wp2_with fail;refine(eN (H 3) d.Vf a _ (by exact h.own 3) b).mono ?_;rintro e s ⟨rfl,rfl⟩;go_wp2;go_ret;exact⟨rfl,rfl⟩
theorem mB(d:Db)(H:Nat->Hd)(a:ByteArray)(w:World)(h:aR w n S v o d H)(g:v.length=x)(b:d.U8.length<=1073741824) :
  Calls prog 270 #[.pointer (some ⟨n,x,none⟩),.string a] w fun e c=>e=.returned (.bool (aJ d.U8 a))/\c=w:=by
 obtain⟨q,u,k,y,l,p,t,m,r,z,i,f,j⟩:=h.cells x g;go_enter func270,ntmps270;go_wp2_with fail;refine(eN (H 1) d.U8 a _ (by exact h.own 1) b).mono ?_;rintro e s ⟨rfl,rfl⟩;go_wp2;go_ret;exact⟨rfl,rfl⟩
theorem nf(d:Db)(H:Nat->Hd)(a:ByteArray)(w:World)(h:aR w n S v o d H)(g:v.length=x)(b:d.Vi.length<=1073741824) :
  Calls prog 271 #[.pointer (some ⟨n,x,none⟩),.string a] w fun e c=>e=.returned (.bool (aJ d.Vi a))/\c=w:=by
 obtain⟨q,u,k,y,l,p,t,m,r,z,i,f,j⟩:=h.cells x g;go_enter func271,ntmps271;go_wp2_with fail;refine(eN (H 4) d.Vi a _ (by exact h.own 4) b).mono ?_;rintro e s ⟨rfl,rfl⟩;go_wp2;go_ret;exact⟨rfl,rfl⟩
def dK(d:Db)(x:ByteArray):Bool:=aJ d.Ve x||aJ d.U8 x||aJ d.U9 x
def dX(d:Db)(x:ByteArray):Bool:=aJ d.Ve x||aJ d.U8 x||aJ d.Vf x
theorem lQ(d:Db)(H:Nat->Hd)(a:ByteArray)(w:World)(h:aR w n S v o d H)(l:v.length=x)(b:fK d 1073741824) :
  Calls prog 254 #[.pointer (some ⟨n,x,none⟩),.string a] w fun e j=>e=.returned (.bool (dK d a))/\j=w:=by
 obtain⟨u,A,q,B,r,t,z,s,y,C,m,k,p⟩:=h.cells x l
 cases g:aJ d.Ve a
 ·cases i:aJ d.U8 a
  ·have c:Hid (dK d a=aJ d.U9 a):=by show dK d a=_;simp[dK,g,i]
   go_enter func254,ntmps254;go_wp2_with fail;refine(eN (H 0) d.Ve a _ (by exact h.own 0) b.Ve).mono ?_;rintro e f ⟨rfl,rfl⟩;go_wp2_with fail;refine(eN (H 1) d.U8 a _ (by exact h.own 1) b.U8).mono ?_;rintro e f ⟨rfl,rfl⟩;go_wp2_with fail;refine(eN (H 2) d.U9 a _ (by exact h.own 2) b.U9).mono ?_;rintro e f ⟨rfl,rfl⟩;go_wp2;go_ret;exact⟨aD (by rw[c.out]),rfl⟩
  ·have c:Hid (dK d a=true):=by show dK d a=_;simp[dK,g,i]
   go_enter func254,ntmps254;go_wp2_with fail;refine(eN (H 0) d.Ve a _ (by exact h.own 0) b.Ve).mono ?_;rintro e f ⟨rfl,rfl⟩;go_wp2_with fail;refine(eN (H 1) d.U8 a _ (by exact h.own 1) b.U8).mono ?_;rintro e f ⟨rfl,rfl⟩;go_wp2;go_ret;exact⟨aD (by rw[c.out]),rfl⟩
 ·have c:Hid (dK d a=true):=by show dK d a=_;simp[dK,g]
  go_enter func254,ntmps254;go_wp2_with fail;refine(eN (H 0) d.Ve a _ (by exact h.own 0) b.Ve).mono ?_;rintro e f ⟨rfl,rfl⟩;go_wp2;go_ret;exact⟨aD (by rw[c.out]),rfl⟩
theorem Ab(d:Db)(H:Nat->Hd)(a:ByteArray)(w:World)(h:aR w n S v o d H)(l:v.length=x)(b:fK d 1073741824) :
  Calls prog 255 #[.pointer (some ⟨n,x,none⟩),.string a] w fun e j=>e=.returned (.bool (dX d a))/\j=w:=by
 obtain⟨u,A,q,B,r,t,z,s,y,C,m,k,p⟩:=h.cells x l
 cases g:aJ d.Ve a
 ·cases i:aJ d.U8 a
  ·have c:Hid (dX d a=aJ d.Vf a):=by show dX d a=_;simp[dX,g,i]
   go_enter func255,ntmps255;go_wp2_with fail;refine(eN (H 0) d.Ve a _ (by exact h.own 0) b.Ve).mono ?_;rintro e f ⟨rfl,rfl⟩;go_wp2_with fail;refine(eN (H 1) d.U8 a _ (by exact h.own 1) b.U8).mono ?_;rintro e f ⟨rfl,rfl⟩;go_wp2_with fail;refine(eN (H 3) d.Vf a _ (by exact h.own 3) b.Vf).mono ?_;rintro e f ⟨rfl,rfl⟩;go_wp2;go_ret;exact⟨aD (by rw[c.out]),rfl⟩
  ·have c:Hid (dX d a=true):=by show dX d a=_;simp[dX,g,i]
   go_enter func255,ntmps255;go_wp2_with fail;refine(eN (H 0) d.Ve a _ (by exact h.own 0) b.Ve).mono ?_;rintro e f ⟨rfl,rfl⟩;go_wp2_with fail;refine(eN (H 1) d.U8 a _ (by exact h.own 1) b.U8).mono ?_;rintro e f ⟨rfl,rfl⟩;go_wp2;go_ret;exact⟨aD (by rw[c.out]),rfl⟩
 ·have c:Hid (dX d a=true):=by show dX d a=_;simp[dX,g]
  go_enter func255,ntmps255;go_wp2_with fail;refine(eN (H 0) d.Ve a _ (by exact h.own 0) b.Ve).mono ?_;rintro e f ⟨rfl,rfl⟩;go_wp2;go_ret;exact⟨aD (by rw[c.out]),rfl⟩
theorem lP(d:Db)(H:Nat->Hd)(w:World)(h:aR w n S v o d H)(c:v.length=x) :
  Calls prog 207 #[.pointer (some ⟨n,x,none⟩)] w fun e a=>e=.returned (.bool (decide (0<d.blocks.length)))/\a=w:=by
 obtain⟨m,r,i,s,j,l,q,k,p,t,f,b,g⟩:=h.cells x c;go_enter func207,ntmps207;go_wp2;go_ret;exact⟨rfl,rfl⟩
def kp(d:Db):Bool:=d.kind != 0||decide (0<d.blocks.length)
theorem sX(d:Db)(H:Nat->Hd)(w:World)(h:aR w n S v o d H)(c:v.length=x) :
  Calls prog 158 #[.pointer (some ⟨n,x,none⟩)] w fun e f=>e=.returned (.bool (kp d))/\f=w:=by
 obtain⟨q,u,k,y,l,p,t,m,r,z,i,g,j⟩:=h.cells x c
 cases b:(d.kind != 0)
 ·have a:Hid (kp d=decide (0<d.blocks.length)):=by show kp d=_;simp only[kp,b,Bool.false_or]
  go_enter func158,ntmps158;go_wp2_with fail;refine(lP n S x v o d H _ h c).mono ?_;rintro e s ⟨rfl,rfl⟩;go_wp2;go_ret;exact⟨aD (by rw[a.out]),rfl⟩
 ·have a:Hid (kp d=true):=by show kp d=_;simp only[kp,b,Bool.true_or]
  go_enter func158,ntmps158;go_wp2_with fail;go_ret;exact⟨aD (by rw[a.out]),rfl⟩
def l5(d:Db):Int:=if(d.kind==1)=true∨(d.kind==2)=true then 2 else 1
theorem t7(d:Db)(H:Nat->Hd)(w:World)(h:aR w n S v o d H)(g:v.length=x) :
  Calls prog 251 #[.pointer (some ⟨n,x,none⟩)] w fun e c=>e=.returned (.int .i64 (l5 d))/\c=w:=by
 obtain⟨r,u,l,y,m,q,t,p,s,z,i,f,j⟩:=h.cells x g
 cases b:(d.kind==1)
 ·cases k:(d.kind==2)
  all_goals
   have a:Hid (l5 d=if(d.kind==1)=true∨(d.kind==2)=true then 2 else 1):=rfl;go_enter func251,ntmps251;go_wp2;go_ret;exact⟨QN (by rw[a.out,b,k];simp),rfl⟩
 ·have a:Hid (l5 d=2):=by show l5 d=_;simp only[l5,b];simp
  go_enter func251,ntmps251;go_wp2;go_ret;exact⟨QN (by rw[a.out]),rfl⟩
theorem Ig(m:aw d z6 (aB T))(s:f<=1073741824) :
  Calls prog 262 #[.slice z6.ao T.length z6.cap,.int .i64 f] d fun e r=>e=.returned (.slice z6.ao (if f<=T.length then f else T.length) z6.cap)/\r=d:=by
 obtain⟨t,c⟩:=z6
 by_cases a:f<=T.length
 ·rcases m.Vm with ⟨h,o,_⟩ | ⟨g,q,n,l,k,j,_⟩
  ·have b:T.length=0:=o
   have i:f=0:=by omega
   subst i
   injection h with h l
   subst h l;simp only[if_pos a];rw[b];clear m o a b s;go_enter func262,ntmps262;go_wp2;go_ret;exact⟨rfl,rfl⟩
  ·simp only at n k j
   have p:T.length<=c:=k;unfold maxLen at j;subst n;simp only[if_pos a];go_enter func262,ntmps262;go_wp2;go_ret;exact⟨rfl,rfl⟩
 ·simp only[if_neg a]
  go_enter func262,ntmps262;go_wp2;go_ret;exact⟨rfl,rfl⟩
theorem aw.cut{h:Hd}{a:List ByteArray}(o:aw l h (aB a))(c:Nat)(t:c<=a.length):aw l h (aB (a.take c)):=by
 have d:(a.take c).length=c:=by simp;omega
 rcases o.Vm with ⟨r,s,_⟩ | ⟨g,b,m,q,j,i,k,n⟩
 ·have p:a.length=0:=s
  have:c=0:=by omega
  subst this;subst r;exact⟨by simp[aB,cN],Q1 ⟨by simp[aB],by simp[aB]⟩⟩
 ·obtain⟨u,e⟩:=h
  simp only at m j i k;subst m;refine⟨by simp[aB,cN],QV ⟨g,e,b,rfl,Ro _,q,?_,i,k,?_⟩⟩
  ·have:a.length<=e:=j
   simp only[aB];omega
  ·have f:b.toList.take (a.length*1)=cN a:=n
   simp only[aB,d];have:cN (a.take c)=(cN a).take c:=by simp[cN,List.map_take]
   rw[this,<-f,UC]
   congr 1
   omega
theorem P9:(prog.info? 337).map (fun i=>(i.zero,i.size,i.bytes))=some (some (.agg #[.int .i64 0,.int .i64 0]),2,16):=by kernel_rfl
theorem rH:pairs (zt++[y3])=pairs zt++[.int .i64 y3.1,.int .i64 y3.2]:=by simp[pairs]
theorem JB:(⟨(nZ zt).e,(nZ zt).size,(nZ zt).n+1,(nZ zt).xs++[.int .i64 y3.1,.int .i64 y3.2]⟩:dN)=nZ (zt++[y3]):=by
 simp[nZ,rH]
theorem vK(d:Db)(H:Nat->Hd)(w:World)(h:aR w n S v o d H)(t:v.length=x)(N:d.blocks.length<=1073741824) :
  Calls prog 246 #[.pointer (some ⟨n,x,none⟩)] w fun e q=>e=.returned (.tuple #[])/\∃y,aR q n S v o { d with blocks:=d.blocks++[(d.Vf.length,d.Vi.length)] } y/\aA n w H q y:=by
 obtain⟨M,E,m,k,l⟩:=Re P9;obtain⟨T,Y,P,q3,O,U,X,Q,V,q9,K,F,L⟩:=h.cells x t;have z:=h.free;have A:=h.lt;have s:Hid (aR (w.alloc (.cells #[.int .i64 d.Vf.length,.int .i64 d.Vi.length] 337)).drew n S v o d H):=h.Vb ((ab.refl [] w).alloc _).drew
 have B:Hid (∀j u,([.int .i64 d.Vf.length,.int .i64 d.Vi.length]:List Value)[j]?=some u->(w.alloc (.cells #[.int .i64 d.Vf.length,.int .i64 d.Vi.length] 337)).drew.cell? ((⟨w.heap.size,0,none⟩:Addr).add j)=some u):=by
  intro j u J;rw[bL];have G:(w.alloc (.cells #[.int .i64 d.Vf.length,.int .i64 d.Vi.length] 337)).drew.heap[w.heap.size]?=some (.cells #[.int .i64 d.Vf.length,.int .i64 d.Vi.length] 337 (0,0)):=QS _ _;rw[aa G];simpa using J
 have C:Hid (∀u∈([.int .i64 d.Vf.length,.int .i64 d.Vi.length]:List Value),u.oneCell'=true):=by
  intro u p;simp at p
  rcases p with rfl | rfl <;> rfl
 have D:Hid ((nZ d.blocks).n+1<=maxLen):=by show _<=_;simp only[nZ];unfold maxLen;omega
 have I:Hid (((nZ d.blocks).n+1)*16<=140737488355328):=by show _<=_;simp only[nZ];omega
 clear h;go_enter func246,ntmps246;go_wp2_with fail
 go_region_law (refine cd rfl (.tmp 6) (.tmp 18) 194 rfl M (.agg #[.int .i64 0,.int .i64 0]) 16 (H 5) (nZ d.blocks) underlying194 E m k l rfl Uq (by simp[Act.eval] <;> rfl) (s.out.own 5) ⟨w.heap.size,0,none⟩ 1 1 [.int .i64 d.Vf.length,.int .i64 d.Vi.length] (by simp[Act.eval]) rfl B.out C.out Rc D.out I.out ?_;intro g f W i c a;obtain⟨Z,R,r⟩:=s.out.app (d':={ d with blocks:=d.blocks++[(d.Vf.length,d.Vi.length)] }) x 5 t 5 (by omega) g f ((nZ d.blocks).n+1) _ i (JB d.blocks (d.Vf.length,d.Vi.length)) c (by simpa using a) (uQ d H _) (by omega) _ rfl (by simp[b9,g9,nZ]);clear i c a)
 all_goals go_wp2
 all_goals go_end0
 all_goals exact⟨rfl,_,r.out.1,r.out.2.first ((ab.refl [] w).alloc _).drew⟩
end Go.Proofs.YtpddjjabfbfifaaGreat
