import Derived.Deep.LoopGhost
import Derived.Deep.CutRange
import Derived.Deep.CutBlock
import Derived.Deep.RegionLaw
import Derived.Test.YtpddjjabfbfifaaGreatG01
namespace Go.Proofs.YtpddjjabfbfifaaGreat
open Go.RowKit Tryz
set_option maxRecDepth 100000
set_option maxHeartbeats 40000000
variable{H k y1:World}{l a y5:Nat}{g N:ByteArray}{z6:List Nat}{y2:Nat->Bool}{y7:rS}{y6:Obj}{y8:Type}{z7:Nat->Prop}{i D:List Value}{f y3:Nat->Hd}(n S:Nat)(y:ByteArray)(zb:Hd)(L T:List ByteArray)(w:ByteArray)(I:Int)(zt:List Value)(x:Nat)(v o:List Value)(M b:Nat)(d:World)(y0:List (Nat×Nat))(y4:Nat×Nat)
def lZ:Array Value:=#[.string ⟨#[]⟩,.int .i64 0,.bool false,.string ⟨#[]⟩,.int .i64 0,.int .i64 0]
theorem hU(h:H.heap[l]?=some (.cells lZ 255 (0,0))) :
  H.cell? ⟨l,0,none⟩=some (.string ⟨#[]⟩)/\H.cell? ⟨l,1,none⟩=some (.int .i64 0)/\H.cell? ⟨l,2,none⟩=some (.bool false) /\
  H.cell? ⟨l,3,none⟩=some (.string ⟨#[]⟩)/\H.cell? ⟨l,4,none⟩=some (.int .i64 0)/\H.cell? ⟨l,5,none⟩=some (.int .i64 0):=by
 refine⟨?_,?_,?_,?_,?_,?_⟩ <;> (rw[aa h];rfl)
theorem gQ(h:bV H l g N y5)(b:l≠a)(f c j e i d:Value) :
  bV ((((((H.setCell ⟨a,0,none⟩ f).setCell ⟨a,1,none⟩ c).setCell ⟨a,2,none⟩ j).setCell ⟨a,3,none⟩ e).setCell ⟨a,4,none⟩ i).setCell ⟨a,5,none⟩ d) l g N y5:=by
 unfold bV;rw[Q3 _ _ _ _ b,Q3 _ _ _ _ b,Q3 _ _ _ _ b,Q3 _ _ _ _ b,Q3 _ _ _ _ b,Q3 _ _ _ _ b];exact h
theorem iu(h:ab z6 H k)(a:H.heap.size<=l)(e b g d f c:Value) :
  ab z6 H ((((((k.setCell ⟨l,0,none⟩ e).setCell ⟨l,1,none⟩ b).setCell ⟨l,2,none⟩ g).setCell ⟨l,3,none⟩ d).setCell ⟨l,4,none⟩ f).setCell ⟨l,5,none⟩ c) :=
 (((((h.setCell (QU a) _).setCell (QU a) _).setCell (QU a) _).setCell (QU a) _).setCell (QU a) _).setCell (QU a) _
theorem vu(hd:w.size<=1024)(hk:S<=w.size)(h:bV d n y w S) :
  Calls prog 203 #[.pointer (some ⟨n,0,none⟩)] d fun e w'=>e=.returned (fg y w (bC w S).1)/\bV w' n y w (bC w S).2/\ab [n] d w':=by
 have ar:=ae h;go_enter func203,ntmps203;go_upto_block 0 with fail
 go_cut [] from 5 (fun wc=>∃j,S<=j/\j<=w.size/\Hid (j=skip w S)/\bV wc n y w j/\wc.heap[d.heap.size]?=some (.cells lZ 255 (0,0))/\ab [n] d wc)
 case first =>
  go_wp2_with fail
  go_loopg [] (w.size-S) (fun g wr=>∃j,S<=j/\j<=w.size/\g=w.size-j/\Hid (skip w j=skip w S)/\bV wr n y w j/\wr.heap[d.heap.size]?=some (.cells lZ 255 (0,0))/\ab [n] d wr)
  case atStart=>exact⟨S,QQ _,hk,rfl,rfl,bV.kept h ((ab.refl [] d).alloc _) (by simp),QR _ _,(ab.refl _ _).alloc _⟩
  case round =>
   obtain⟨j,F,hj,hg,o,f,m,b⟩:=hrel;obtain⟨O,U,V,R,M⟩:=f.cells;have r:=ae m;have q:=ae f;have t:d.heap.size∉[n]:=by simp;omega
   by_cases L:j<w.size/\cO (aF w j)=true
   ·obtain⟨a,p⟩:=L
    have c:=p;rw[bP w j a]at c;have af:Hid (skip w (j+1)=skip w S):=(GJ w j a p).symm.trans o.out;clear p;go_wp2_with fail
    go_quiet ((go_at_call 226;exact Rc (kj _ _)))
    go_wp2_with fail;refine(C2 n j y w _ hd a (by exact f)).mono ?_;rintro e w1 ⟨rfl,C,l⟩;go_wp2
    go_roundg (w.size-(j+1))
    case measure=>omega
    case rel=>exact⟨j+1,by omega,by omega,rfl,af,C,l.get (by exact m) t,(b.drewN nq).trans l⟩
   ·have ac:Hid (j=skip w S):=(o.out.symm.trans (tu w j L)).symm
    have D:(j<w.size/\∃h:j<w.size,cO ((w[j]'h).toNat:Int)=false)∨(¬j<w.size/\decide ((j:Int)<(w.size:Int))=false):=by
     by_cases a:j<w.size
     ·refine Q0 ⟨a,a,?_⟩
      rw[<-bP w j a];simpa using fun h=>L ⟨a,h⟩
     ·exact QU ⟨a,by simp;omega⟩
    clear L o
    rcases D with ⟨a,ai,c⟩ | ⟨a,c⟩
    all_goals
     go_wp2_with fail
     go_quiet ((go_at_call 226;exact Rc (kj _ _)))
     go_wp2_with fail
     go_meet
     case rel=>exact⟨j,F,hj,ac,by exact f,by exact m,b.drewN _⟩
 case rest =>
  obtain⟨j,F,hj,Z,f,m,b⟩:=hcut;have r:=ae m;have q:=ae f;have t:d.heap.size∉[n]:=by simp;omega
  go_wp2_with fail;refine(yT n j y w _ (by exact f)).mono ?_;rintro e u ⟨rfl,l⟩;have C:bV u n y w j:=bV.kept (by exact f) l (by simp);have G:=l.get (by exact m) (by simp);have s:=b.trans (l.mono (by simp));have ax:=ae C;have al:=ae G;have az:=s.size;clear f m b l r q;obtain⟨O,U,V,R,M⟩:=C.cells;go_wp2
  go_loopg [] (w.size-j) (fun g wr=>∃z,j<=z/\z<=w.size/\g=w.size-z/\Hid (cG w z=cG w j)/\bV wr n y w z/\wr.heap[d.heap.size]?=some (.cells lZ 255 (0,0)) /\
   wr.heap[u.heap.size]?=some (.cells #[.string y,.int .i64 (aP w j),.int .i64 (bm w j)] 36 (0,0))/\ab [n] d wr)
  case atStart=>exact⟨j,QQ _,hj,rfl,rfl,C.kept ((ab.refl [] u).alloc _) (by simp),((ab.refl [] u).alloc _).get G (by simp),QR _ _,s.alloc _⟩
  case round =>
   clear O U V R M;obtain⟨z,an,hz,hg,o,f,m,x,b⟩:=hrel;obtain⟨O,U,V,R,M⟩:=f.cells;have r:=ae m;have q:=ae f;have ag:=ae x;have e0:wr.cell? ⟨u.heap.size,0,none⟩=some (.string y):=by rw[aa x];rfl
   have e1:wr.cell? ⟨u.heap.size,1,none⟩=some (.int .i64 (aP w j)):=by rw[aa x];rfl
   have e2:wr.cell? ⟨u.heap.size,2,none⟩=some (.int .i64 (bm w j)):=by rw[aa x];rfl
   rcases Kb w z with ⟨i,c,E,J⟩ | ⟨i,c,E⟩ | ⟨i,c⟩ | ⟨i,c⟩
   ·have HS:Hid (cG w (z+1)=cG w j):=J.trans o.out
    clear o J;go_wp2_with fail
    go_quiet ((go_at_call 226;exact Rc (kj _ _)))
    go_wp2_with fail
    go_quiet ((go_at_call 229;exact L7 (ph _ _)))
    go_wp2_with fail;refine(C2 n z y w _ hd i (by exact f)).mono ?_;rintro e w3 ⟨rfl,h3,k⟩;go_wp2
    go_roundg (w.size-(z+1))
    case measure=>omega
    case rel=>exact⟨z+1,by omega,by omega,rfl,HS,h3,k.get (by exact m) t,k.get (by exact x) (by simp;omega),((b.drewN _).trans k)⟩
   ·have H:Hid (bC w S=(⟨⟨#[]⟩,1,false,z⟩,z)):=CU w S j z Z.out o.out i (by rw[bP w z i];exact c) (by rw[bP w z i];exact E)
    clear o;go_wp2_with fail
    go_quiet ((go_at_call 226;exact Rc (kj _ _)))
    go_wp2_with fail
    go_quiet ((go_at_call 229;exact L7 (ph _ _)))
    go_wp2_with fail;refine(yT n z y w _ (by exact f)).mono ?_;rintro e w3 ⟨rfl,k⟩;have h3:bV w3 n y w z:=bV.kept (by exact f) k (by simp);have A:=k.get (by exact m) (by simp);have I:=(b.drewN _).trans (k.mono (by simp));clear O U V R M f m b k r q x ag e0 e1 e2;obtain⟨Q,X,W,N,Y,P⟩:=hU A;have ap:=am A;go_wp2
    exact QX (v:=fg y w ⟨⟨#[]⟩,1,false,z⟩) (by simp[results,results203,go_sem,fg,Q,X,W,N,Y,P]) rfl
     (by rw[H.out];exact⟨rfl,gQ h3 (by omega) _ _ _ _ _ _,iu I (QQ _) _ _ _ _ _ _⟩)
   all_goals
    have T:¬(z<w.size/\cO (aF w z)=false):=by
     rintro ⟨K,B⟩
     first
      | (rw[bP w z K,c]at B;cases B)
      | exact i K
    obtain⟨Q,X,W,N,Y,P⟩:=hU m;have ap:=am m
    by_cases ad:j<z
    ·have H:Hid (bC w S=(⟨w.extract j z,0,false,j⟩,z)):=zc w S j z Z.out o.out T ad
     have ao:decide ((z:Int)<=(j:Int))=false:=by simp;omega
     clear o T;go_wp2_with fail
     go_quiet ((go_at_call 226;exact Rc (kj _ _)))
     go_wp2_with fail
     go_quiet (fail)
     go_wp2_with fail
     go_region
     all_goals go_wp2
     exact QX (v:=fg y w ⟨w.extract j z,0,false,j⟩) (by simp[results,results203,go_sem,fg,Q,X,W,N,Y,P]) rfl
      (by rw[H.out];exact⟨rfl,gQ (by exact f) (by omega) _ _ _ _ _ _,iu (b.drewN _) (QQ _) _ _ _ _ _ _⟩)
    ·have H:Hid (bC w S=(⟨⟨#[]⟩,0,true,j⟩,z)):=CV w S j z Z.out o.out T (by omega)
     clear o T;go_wp2_with fail
     go_quiet ((go_at_call 226;exact Rc (kj _ _)))
     go_wp2_with fail
     go_quiet (fail)
     go_wp2
     exact QX (v:=fg y w ⟨⟨#[]⟩,0,true,j⟩) (by simp[results,results203,go_sem,fg,Q,X,W,N,Y,P]) rfl
      (by rw[H.out];exact⟨rfl,gQ (by exact f) (by omega) _ _ _ _ _ _,iu (b.drewN _) (QQ _) _ _ _ _ _ _⟩)
def aI(i:rS):Bool:=i.rule==0 && !i.fin
theorem cK(l c:Int)(f:Bool)(a:World) :
    Calls prog 156 #[.agg #[.string y,.int .i64 I,.bool f,.string w,.int .i64 l,.int .i64 c]] a fun e b=>e=.returned (.bool (I==0 && !f))/\ab [] a b:=by
  cases d:(I==0)
  · go_enter func156,ntmps156
    go_wp2;go_ret;exact⟨aD (by simp),(ab.refl _ _).alloc _⟩
  · go_enter func156,ntmps156
    go_wp2;go_ret;exact⟨aD (by simp),(ab.refl _ _).alloc _⟩
def dA(s:ByteArray):Bool:=(List.range s.size).any (fun i=>aF s i==36)
def kD(s:ByteArray):Bool:=(List.range s.size).any (fun i=>decide (1<=i)&&(aF s (i-1)==36)&&((aF s i==40)||(aF s i==41)))
theorem mY{p:Nat->Bool}(h:b<l)(a:p b=true):(List.range l).any p=true:=by
  rw[RB];exact⟨b,by simpa using h,a⟩
theorem vG(h:∀i,i<l->y2 i=false):(List.range l).any y2=false:=by
  rw[TG];intro i a;simp[h i (by simpa using a)]
theorem dV(o:w.size<=1073741824) :
    Calls prog 231 #[.string w] d fun e l=>e=.returned (.bool (dA w))/\l=d:=by
  go_enter func231,ntmps231;go_wp2
  go_loopg [3] w.size (fun g i wr=>∃k:Nat,k<=w.size/\g=w.size-k/\i=.int .i64 k/\Hid (∀i,i<k->(aF w i==36)=false)/\wr=d)
  case atStart=>exact⟨0,by omega,by omega,rfl,fun i h=>by omega,rfl⟩
  case round =>
    obtain⟨k,n,m,rfl,a,rfl⟩:=hrel
    by_cases b:k<w.size
    · cases f:((w[k].toNat:Int)==36)
      · go_wp2
        go_roundg (w.size-(k+1))
        case measure=>omega
        case rel =>
          refine⟨k+1,by omega,rfl,by go_num,?_,rfl⟩;intro i j
          by_cases e:i=k
          · subst e;rw[bP w i b];exact f
          · exact a.out i (by omega)
      · have c:Hid (dA w=true):=mY k b (by rw[bP w k b];exact f)
        go_wp2;go_ret;exact⟨aD c.out.symm,rfl⟩
    · have c:Hid (dA w=false):=vG (fun i j=>a.out i (by omega))
      go_wp2;go_ret;exact⟨aD c.out.symm,rfl⟩
theorem uy(v:w.size<=1073741824) :
    Calls prog 230 #[.string w] d fun e q=>e=.returned (.bool (kD w))/\q=d:=by
  go_enter func230,ntmps230;go_wp2
  go_loopg [3] (w.size-1) (fun g i wr=>∃k:Nat,1<=k/\(k<=w.size∨k=1)/\g=w.size-k/\i=.int .i64 k/\Hid (∀i,i<k->1<=i->((aF w (i-1)==36)&&((aF w i==40)||(aF w i==41)))=false)/\wr=d)
  case atStart=>exact⟨1,by omega,by omega,rfl,rfl,fun i h t=>by omega,rfl⟩
  case round =>
    obtain⟨k,l,s,u,rfl,a,rfl⟩:=hrel
    by_cases f:k<w.size
    · have c:k-1<w.size:=by omega
      have n:∀b:Bool,(((w[k-1].toNat:Int)==36)&&(((w[k].toNat:Int)==40)||((w[k].toNat:Int)==41)))=b->((aF w (k-1)==36)&&((aF w k==40)||(aF w k==41)))=b :=
        fun b h=>by rw[bP w k f,bP w (k-1) c];exact h
      have m:Hid (∀b:Bool,(((w[k-1].toNat:Int)==36)&&(((w[k].toNat:Int)==40)||((w[k].toNat:Int)==41)))=b->((aF w (k-1)==36)&&((aF w k==40)||(aF w k==41)))=b):=n;clear n;go_wp2
      all_goals first
        | (go_ret
           refine⟨aD ?_,rfl⟩;refine(mY (p:=fun i=>decide (1<=i)&&(aF w (i-1)==36)&&((aF w i==40)||(aF w i==41))) k f ?_).symm;have:=m.out true (by simp_all);simp only[UX,this];simp[l])
        | (go_roundg (w.size-(k+1))
           case measure=>omega
           case rel =>
             refine⟨k+1,by omega,by omega,rfl,by go_num,?_,rfl⟩;intro i o j
             by_cases e:i=k
             · subst e;exact m.out false (by simp_all)
             · exact a.out i (by omega) j)
    · have r:Hid (kD w=false):=vG (fun i o=>by
        by_cases j:1<=i
        · have:=a.out i (by omega) j;simp only[UX,this];simp
        · simp[j])
      go_wp2;go_ret;exact⟨aD r.out.symm,rfl⟩
theorem gq(h:b<=w.size):b<=(bC w b).2/\(bC w b).2<=w.size/\(aI (bC w b).1=true->b<(bC w b).2):=by
 have a:=Az w b h;have c:=rP w (skip w b) a.2;unfold bC;simp only
 split
 ·exact⟨by omega,c.2,by simp[aI]⟩
 ·split
  ·exact⟨by omega,c.2,by simp[aI]⟩
  ·exact⟨by simp only;omega,c.2,fun _=>by simp only;omega⟩
def bX(d:ByteArray):Nat->Nat->rS×Nat
 | 0,k=>(⟨⟨#[]⟩,3,false,k⟩,k)
 | f+1,k =>
  if aI (bC d k).1=true/\¬(bC d k).1.text.toList=[36,41] then
   if kD (bC d k).1.text=true then(⟨⟨#[]⟩,2,false,(bC d k).1.pos⟩,(bC d k).2) else bX d f (bC d k).2
  else if(bC d k).1.fin=true then(⟨⟨#[]⟩,3,false,(bC d k).1.pos⟩,(bC d k).2) else bC d k
def aW(d:ByteArray)(k:Nat):rS×Nat:=bX d (d.size-k+1) k
theorem vQ(a:b<=w.size)(c:w.size-b+1<=M):bX w M b=aW w b:=by
 unfold aW
 suffices h:∀M g b,b<=w.size->w.size-b+1<=M->w.size-b+1<=g->bX w M b=bX w g b from h _ _ _ a c (QQ _)
 clear c a M b;intro M
 induction M with
 | zero=>intro g b _ h;omega
 | succ M e =>
  intro g b a c i
  cases g with
  | zero=>omega
  | succ g =>
   rw[bX,bX]
   split
   ·next h =>
    have d:=gq w b a;have f:=d.2.2 h.1
    split
    ·rfl
    ·exact e g (bC w b).2 d.2.1 (by omega) (by omega)
   ·rfl
theorem vR(e:b<=w.size)(a:aI (bC w b).1=true)(d:((bC w b).1.text.toList == [36,41])=false)(f:kD (bC w b).1.text=false):aW w b=aW w (bC w b).2:=by
 have c:=gq w b e;have g:=c.2.2 a
 conv=>lhs;unfold aW
 rw[bX,QV ⟨a,by simpa using d⟩,QS (by simp[f]),vQ w _ _ c.2.1 (by omega)]
theorem su(c:aI (bC w b).1=true)(d:((bC w b).1.text.toList == [36,41])=false)(a:kD (bC w b).1.text=true):aW w b=(⟨⟨#[]⟩,2,false,(bC w b).1.pos⟩,(bC w b).2):=by
 unfold aW;rw[bX,QV ⟨c,by simpa using d⟩,QV a]
theorem sw(a:aI (bC w b).1=false)(c:(bC w b).1.fin=true):aW w b=(⟨⟨#[]⟩,3,false,(bC w b).1.pos⟩,(bC w b).2):=by
 unfold aW;rw[bX,QS (by simp[a]),QV c]
theorem uD(a:aI (bC w b).1=false)(c:(bC w b).1.fin=false):aW w b=bC w b:=by
 unfold aW;rw[bX,QS (by simp[a]),QS (by simp[c])]
theorem qM(a:aI (bC w b).1=true)(c:((bC w b).1.text.toList == [36,41])=true):aW w b=bC w b:=by
 unfold aW;rw[bX,QS (by intro h;exact h.2 (by simpa using c))];rw[QS (by intro h;simp[aI,h]at a)]
theorem i9(c:b<=w.size):b<=(aW w b).2/\(aW w b).2<=w.size:=by
 unfold aW
 suffices h:∀f b,b<=w.size->b<=(bX w f b).2/\(bX w f b).2<=w.size from h _ _ c
 clear c b;intro f
 induction f with
 | zero=>intro b c;simp[bX,c]
 | succ f d =>
  intro b c;have a:=gq w b c;rw[bX]
  split
  ·split
   ·exact⟨a.1,a.2.1⟩
   ·have:=d (bC w b).2 a.2.1;omega
  ·split
   ·exact⟨a.1,a.2.1⟩
   ·exact⟨a.1,a.2.1⟩
def dH(d:ByteArray):Nat->Nat->rS×Nat
 | 0,k=>(⟨⟨#[]⟩,0,true,k⟩,k)
 | f+1,k =>
  if aI (bC d k).1=true/\(bC d k).1.text.toList=[36,40] then
   if aI (aW d (bC d k).2).1=true then dH d f (aW d (bC d k).2).2 else aW d (bC d k).2
  else bC d k
def ay(d:ByteArray)(k:Nat):rS×Nat:=dH d (d.size-k+1) k
theorem Cu(a:b<=w.size)(c:w.size-b+1<=M):dH w M b=ay w b:=by
 unfold ay
 suffices h:∀M g b,b<=w.size->w.size-b+1<=M->w.size-b+1<=g->dH w M b=dH w g b from h _ _ _ a c (QQ _)
 clear c a M b;intro M
 induction M with
 | zero=>intro g b _ h;omega
 | succ M f =>
  intro g b a c j
  cases g with
  | zero=>omega
  | succ g =>
   rw[dH,dH]
   split
   ·next h =>
    have d:=gq w b a;have i:=d.2.2 h.1;have e:=i9 w (bC w b).2 d.2.1
    split
    ·exact f g _ e.2 (by omega) (by omega)
    ·rfl
   ·rfl
theorem Gv(f:b<=w.size)(a:aI (bC w b).1=true)(e:((bC w b).1.text.toList == [36,40])=true)(g:aI (aW w (bC w b).2).1=true) :
  ay w b=ay w (aW w (bC w b).2).2:=by
 have c:=gq w b f;have h:=c.2.2 a;have d:=i9 w (bC w b).2 c.2.1
 conv=>lhs;unfold ay
 rw[dH,QV ⟨a,by simpa using e⟩,QV g,Cu w _ _ d.2 (by omega)]
theorem uL(c:aI (bC w b).1=true)(d:((bC w b).1.text.toList == [36,40])=true)(a:aI (aW w (bC w b).2).1=false) :
  ay w b=aW w (bC w b).2:=by
 unfold ay;rw[dH,QV ⟨c,by simpa using d⟩,QS (by simp[a])]
theorem rF(h:aI (bC w b).1=false∨((bC w b).1.text.toList == [36,40])=false):ay w b=bC w b:=by
 unfold ay;rw[dH,QS (by rintro ⟨a,c⟩;rcases h with h | h;simp[h]at a;simp[c]at h)]
theorem fG(a:b<=w.size):b<=(ay w b).2/\(ay w b).2<=w.size/\(aI (ay w b).1=true->b<(ay w b).2):=by
 unfold ay
 suffices h:∀f b,b<=w.size->b<=(dH w f b).2/\(dH w f b).2<=w.size/\(aI (dH w f b).1=true->b<(dH w f b).2) from h _ _ a
 clear a b;intro f
 induction f with
 | zero=>intro b a;simp[dH,a,aI]
 | succ f e =>
  intro b a;have c:=gq w b a;have d:=i9 w (bC w b).2 c.2.1;rw[dH]
  split
  ·next h =>
   have g:=c.2.2 h.1
   split
   ·have:=e (aW w (bC w b).2).2 d.2;omega
   ·omega
  ·exact c
def jx(w:World)(r:Nat)(n d:ByteArray)(i:rS):Prop :=
 w.heap[r]?=some (.cells #[.string i.text,.int .i64 i.rule,.bool i.fin,.string n,.int .i64 (aP d i.pos),.int .i64 (bm d i.pos)] 255 (0,0))
theorem jx.cells{t:ByteArray}{u:Int}{f:Bool}(h:jx H l g N ⟨t,u,f,a⟩) :
  H.cell? ⟨l,0,none⟩=some (.string t)/\H.cell? ⟨l,1,none⟩=some (.int .i64 u)/\H.cell? ⟨l,2,none⟩=some (.bool f) /\
  H.cell? ⟨l,3,none⟩=some (.string g)/\H.cell? ⟨l,4,none⟩=some (.int .i64 (aP N a))/\H.cell? ⟨l,5,none⟩=some (.int .i64 (bm N a)):=by
 refine⟨?_,?_,?_,?_,?_,?_⟩ <;> (rw[aa h];rfl)
theorem jx.kept(h:jx H l g N y7)(a:ab z6 H k)(b:l∉z6):jx k l g N y7:=a.get h b
theorem pI(h:jx H l g N y7)(j:rS) :
  jx ((((((H.setCell ⟨l,0,none⟩ (.string j.text)).setCell ⟨l,1,none⟩ (.int .i64 j.rule)).setCell ⟨l,2,none⟩ (.bool j.fin)).setCell ⟨l,3,none⟩ (.string g)).setCell ⟨l,4,none⟩ (.int .i64 (aP N j.pos))).setCell ⟨l,5,none⟩ (.int .i64 (bm N j.pos))) l g N j:=by
 have:=ah (ah (ah (ah (ah (ah h 0 (.string j.text)) 1 (.int .i64 j.rule)) 2 (.bool j.fin)) 3 (.string g)) 4 (.int .i64 (aP N j.pos))) 5 (.int .i64 (bm N j.pos));unfold jx;rw[this];simp
theorem ui(h:H.heap[l]?=some y6)(b:l≠a)(f c i e g d:Value) :
  ((((((H.setCell ⟨a,0,none⟩ f).setCell ⟨a,1,none⟩ c).setCell ⟨a,2,none⟩ i).setCell ⟨a,3,none⟩ e).setCell ⟨a,4,none⟩ g).setCell ⟨a,5,none⟩ d).heap[l]?=some y6:=by
 rw[Q3 _ _ _ _ b,Q3 _ _ _ _ b,Q3 _ _ _ _ b,Q3 _ _ _ _ b,Q3 _ _ _ _ b,Q3 _ _ _ _ b];exact h
theorem qw(a:w.size<=1024):(bC w b).1.text.size<=1024:=by
 unfold bC;simp only
 split
 ·simp[ByteArray.size]
 ·split
  ·simp[ByteArray.size]
  ·simp;omega
theorem uC(hd:w.size<=1024)(hk:S<=w.size)(h:bV d n y w S) :
  Calls prog 204 #[.pointer (some ⟨n,0,none⟩)] d fun e w'=>e=.returned (fg y w (aW w S).1)/\bV w' n y w (aW w S).2/\ab [n] d w':=by
 have ao:=ae h;go_enter func204,ntmps204;go_wp2_with fail;refine(vu n S y w _ hd hk (by exact h.kept ((ab.refl [] _).alloc _) (by simp))).mono ?_;rintro e w1 ⟨rfl,h1,X⟩;have Y:w1.heap[d.heap.size]?=some (.cells lZ 255 (0,0)):=X.get (QR _ _) (by simp;omega);have ad:ab [n] d w1:=((ab.refl _ _).alloc _).trans X;have al:=ae h1;have an:=ae Y;simp only[fg];go_wp2
 go_loopg [] (w.size-S) (fun g wr=>∃j,j<=w.size/\g=w.size-j/\Hid (aW w S=aW w j)/\bV wr n y w (bC w j).2/\jx wr w1.heap.size y w (bC w j).1/\wr.heap[d.heap.size]?=some (.cells lZ 255 (0,0))/\ab [n] d wr)
 case atStart=>exact⟨S,hk,rfl,rfl,h1.kept ((ab.refl [] _).alloc _) (by simp),QR _ _,((ab.refl [] _).alloc _).get Y (by simp),ad.alloc _⟩
 case round =>
  obtain⟨j,hj,hg,Z,x,m,D,k⟩:=hrel;have G:=gq w j hj;have ai:=qw w j hd;have Q:Hid (_->_->_->aW w j=_):=vR w j hj;have R:Hid (_->_->_->aW w j=_):=su w j;have U:Hid (_->_->aW w j=_):=sw w j;have V:Hid (_->_->aW w j=_):=uD w j;have T:Hid (_->_->aW w j=_):=qM w j;generalize hrr:bC w j=r at *;obtain⟨⟨t,u,f,p⟩,z⟩:=r;have HR:Hid (bC w j=(⟨t,u,f,p⟩,z)):=hrr;clear hrr;simp only at x m G ai;obtain⟨C,q,o,B,s,A⟩:=m.cells;have ar:=ae D;have ap:=ae x;have ax:=ae m
  cases F:(u==0 && !f)
  ·cases M:f
   ·have H:Hid (aW w j=(⟨t,u,false,p⟩,z)):=by have:=V.out (by simpa [aI] using F) M;rw[M]at this;exact this
    subst M;have ag:(u==0)=false:=by simpa using F
    clear Q R U V T;go_wp2_with fail;refine(cK t y u (aP w p) (bm w p) _ _).mono ?_;rintro e w2 ⟨rfl,a⟩;have i:=m.kept a (by simp);have l:=x.kept a (by simp);have c:=a.get D (by simp);have b:=k.trans (a.mono (by simp));clear C q o B s A m x D k a;obtain⟨C,q,o,B,s,A⟩:=i.cells;obtain⟨K,O,N,I,P,J⟩:=hU c;have af:=am c;go_wp2
    exact QX (v:=fg y w ⟨t,u,false,p⟩) (by simp[results,results204,go_sem,fg,K,O,N,I,P,J]) rfl
     (by rw[Z.out,H.out];exact⟨rfl,gQ l (by omega) _ _ _ _ _ _,iu b (QQ _) _ _ _ _ _ _⟩)
   ·have H:Hid (aW w j=(⟨⟨#[]⟩,3,false,p⟩,z)):=U.out (by simpa [aI] using F) M
    subst M;clear Q R U V T;go_wp2_with fail;refine(cK t y u (aP w p) (bm w p) _ _).mono ?_;rintro e w2 ⟨rfl,a⟩;have i:=m.kept a (by simp);have l:=x.kept a (by simp);have c:=a.get D (by simp);have b:=k.trans (a.mono (by simp));clear C q o B s A m x D k a;obtain⟨C,q,o,B,s,A⟩:=i.cells;obtain⟨K,O,N,I,P,J⟩:=hU c;have af:=am c;go_wp2
    exact QX (v:=fg y w ⟨⟨#[]⟩,3,false,p⟩) (by simp[results,results204,go_sem,fg,K,O,N,I,P,J]) rfl
     (by rw[Z.out,H.out];exact⟨rfl,gQ l (by omega) _ _ _ _ _ _,iu b (QQ _) _ _ _ _ _ _⟩)
  ·cases hx:(t.toList == [36,41])
   ·cases hy:kD t
    ·have H:Hid (aW w j=aW w z):=Q.out F hx hy
     clear Q R U V T;go_wp2_with fail;refine(cK t y u (aP w p) (bm w p) _ _).mono ?_;rintro e w2 ⟨rfl,a⟩;have i:=m.kept a (by simp);have l:=x.kept a (by simp);have c:=a.get D (by simp);have b:=k.trans (a.mono (by simp));clear C q o B s A m x D k a;obtain⟨C,q,o,B,s,A⟩:=i.cells;go_wp2_with fail;refine(uy t _ (by omega)).mono ?_;rintro e w3 ⟨rfl,rfl⟩;go_wp2_with fail;refine(vu n z y w _ hd G.2.1 l).mono ?_;rintro e w4 ⟨rfl,h4,L⟩;have E:=i.kept L (by simp;omega);have ac:=L.get c (by simp;omega);have W:=b.trans L;have yy:=am E;have az:=ae E;clear C q o B s A;obtain⟨C,q,o,B,s,A⟩:=E.cells;simp only[fg];go_wp2
     go_roundg (w.size-z)
     case measure=>have:=G.2.2 F;omega
     case rel=>exact⟨z,G.2.1,rfl,Z.out.trans H.out,gQ h4 (by omega) _ _ _ _ _ _,pI E _,ui ac (by omega) _ _ _ _ _ _,iu W (by omega) _ _ _ _ _ _⟩
    ·have H:Hid (aW w j=(⟨⟨#[]⟩,2,false,p⟩,z)):=R.out F hx hy
     clear Q R U V T;go_wp2_with fail;refine(cK t y u (aP w p) (bm w p) _ _).mono ?_;rintro e w2 ⟨rfl,a⟩;have i:=m.kept a (by simp);have l:=x.kept a (by simp);have c:=a.get D (by simp);have b:=k.trans (a.mono (by simp));clear C q o B s A m x D k a;obtain⟨C,q,o,B,s,A⟩:=i.cells;go_wp2_with fail;refine(uy t _ (by omega)).mono ?_;rintro e w3 ⟨rfl,rfl⟩;obtain⟨K,O,N,I,P,J⟩:=hU c;have af:=am c;go_wp2
     exact QX (v:=fg y w ⟨⟨#[]⟩,2,false,p⟩) (by simp[results,results204,go_sem,fg,K,O,N,I,P,J]) rfl
      (by rw[Z.out,H.out];exact⟨rfl,gQ l (by omega) _ _ _ _ _ _,iu b (QQ _) _ _ _ _ _ _⟩)
   ·have H:Hid (aW w j=(⟨t,u,f,p⟩,z)):=T.out F hx
    clear Q R U V T;have M:f=false:=by cases f;rfl;simp at F
    subst M;have ag:(u==0)=true:=by simpa using F
    go_wp2_with fail;refine(cK t y u (aP w p) (bm w p) _ _).mono ?_;rintro e w2 ⟨rfl,a⟩;have i:=m.kept a (by simp);have l:=x.kept a (by simp);have c:=a.get D (by simp);have b:=k.trans (a.mono (by simp));clear C q o B s A m x D k a;obtain⟨C,q,o,B,s,A⟩:=i.cells;obtain⟨K,O,N,I,P,J⟩:=hU c;have af:=am c;go_wp2
    exact QX (v:=fg y w ⟨t,u,false,p⟩) (by simp[results,results204,go_sem,fg,K,O,N,I,P,J]) rfl
     (by rw[Z.out,H.out];exact⟨rfl,gQ l (by omega) _ _ _ _ _ _,iu b (QQ _) _ _ _ _ _ _⟩)
theorem sU(hd:w.size<=1024)(hk:S<=w.size)(h:bV d n y w S) :
  Calls prog 155 #[.pointer (some ⟨n,0,none⟩)] d fun e w'=>e=.returned (fg y w (ay w S).1)/\bV w' n y w (ay w S).2/\ab [n] d w':=by
 have a5:=ae h;go_enter func155,ntmps155;go_wp2_with fail;refine(vu n S y w _ hd hk (by exact h.kept ((ab.refl [] _).alloc _) (by simp))).mono ?_;rintro e w1 ⟨rfl,h1,af⟩;have ag:w1.heap[d.heap.size]?=some (.cells lZ 255 (0,0)):=af.get (QR _ _) (by simp;omega);have ao:ab [n] d w1:=((ab.refl _ _).alloc _).trans af;have a2:=ae h1;have a0:=ae ag;simp only[fg];go_wp2
 go_loopg [4] (w.size-S) (fun g _ wr=>∃j,j<=w.size/\g=w.size-j/\Hid (ay w S=ay w j)/\bV wr n y w (bC w j).2/\jx wr w1.heap.size y w (bC w j).1/\wr.heap[d.heap.size]?=some (.cells lZ 255 (0,0))/\ab [n] d wr)
 case atStart=>exact⟨S,hk,rfl,rfl,h1.kept ((ab.refl [] _).alloc _) (by simp),QR _ _,((ab.refl [] _).alloc _).get ag (by simp),ao.alloc _⟩
 case round =>
  obtain⟨j,hj,hg,hs,L,J,M,s⟩:=hrel;have E:=gq w j hj;have aS:=qw w j hd;have L1:Hid (_->_->_->ay w j=_):=Gv w j hj;have L2:Hid (_->_->_->ay w j=_):=uL w j;have L3:Hid (_->ay w j=_):=rF w j;generalize hrr:bC w j=r at *;obtain⟨⟨t,u,f,p⟩,z⟩:=r;have HR:Hid (bC w j=(⟨t,u,f,p⟩,z)):=hrr;clear hrr;simp only at L J E aS;obtain⟨H,D,C,I,K,G⟩:=J.cells;have a1:=ae M;have a3:=ae L;have a6:=ae J
  cases hw:(u==0 && !f)
  ·have W:Hid (ay w j=(⟨t,u,f,p⟩,z)):=L3.out (Q0 hw)
   clear L1 L2 L3;go_wp2_with fail;refine(cK t y u (aP w p) (bm w p) _ _).mono ?_;rintro e w2 ⟨rfl,a⟩;have k:=J.kept a (by simp);have m:=L.kept a (by simp);have l:=a.get M (by simp);have b:=s.trans (a.mono (by simp));clear H D C I K G J L M s a;obtain⟨H,D,C,I,K,G⟩:=k.cells;obtain⟨z0,z1,z2,z3,z4,z5⟩:=hU l;have aT:=am l;go_wp2
   exact QX (v:=fg y w ⟨t,u,f,p⟩) (by simp[results,results155,go_sem,fg,z0,z1,z2,z3,z4,z5]) rfl
    (by rw[hs.out,W.out];exact⟨rfl,gQ m (by omega) _ _ _ _ _ _,iu b (QQ _) _ _ _ _ _ _⟩)
  ·cases hx:(t.toList == [36,40])
   ·have W:Hid (ay w j=(⟨t,u,f,p⟩,z)):=L3.out (QU hx)
    clear L1 L2 L3;go_wp2_with fail;refine(cK t y u (aP w p) (bm w p) _ _).mono ?_;rintro e w2 ⟨rfl,a⟩;have k:=J.kept a (by simp);have m:=L.kept a (by simp);have l:=a.get M (by simp);have b:=s.trans (a.mono (by simp));clear H D C I K G J L M s a;obtain⟨H,D,C,I,K,G⟩:=k.cells;obtain⟨z0,z1,z2,z3,z4,z5⟩:=hU l;have aT:=am l;go_wp2
    exact QX (v:=fg y w ⟨t,u,f,p⟩) (by simp[results,results155,go_sem,fg,z0,z1,z2,z3,z4,z5]) rfl
     (by rw[hs.out,W.out];exact⟨rfl,gQ m (by omega) _ _ _ _ _ _,iu b (QQ _) _ _ _ _ _ _⟩)
   ·have V:=i9 w z E.2.1
    have L4:Hid (_->ay w j=ay w _):=fun h=>L1.out hw hx h
    have L5:Hid (_->ay w j=_):=fun h=>L2.out hw hx h
    clear L1 L2 L3;generalize hcc:aW w z=c at *;obtain⟨⟨U,R,cf,O⟩,Z⟩:=c;have HC:Hid (aW w z=(⟨U,R,cf,O⟩,Z)):=hcc;clear hcc;simp only at V
    cases ac:(R==0 && !cf)
    ·have W:Hid (ay w j=(⟨U,R,cf,O⟩,Z)):=L5.out ac
     clear L4 L5;go_wp2_with fail;refine(cK t y u (aP w p) (bm w p) _ _).mono ?_;rintro e w2 ⟨rfl,a⟩;have k:=J.kept a (by simp);have m:=L.kept a (by simp);have l:=a.get M (by simp);have b:=s.trans (a.mono (by simp));clear H D C I K G J L M s a;obtain⟨H,D,C,I,K,G⟩:=k.cells;go_wp2_with fail;refine(uC n z y w _ hd E.2.1 m).mono ?_;rintro e w3 ⟨rfl,Y,o⟩;have A:=k.kept o (by simp;omega);have x:=o.get l (by simp;omega);have q:=b.trans o;have az:=ae Y;have an:=ae A;have ar:=ae x;simp only[fg];rw[HC.out];simp only;go_wp2_with fail;refine(cK U y R (aP w O) (bm w O) _ _).mono ?_;rintro e w4 ⟨rfl,i⟩;have T:jx w4 w3.heap.size y w ⟨U,R,cf,O⟩:=i.get (QR _ _) (by simp);have Q:=(A.kept ((ab.refl [] _).alloc _) (by simp)).kept i (by simp);have N:=(Y.kept ((ab.refl [] _).alloc _) (by simp)).kept i (by simp);have B:=i.get (((ab.refl [] _).alloc _).get x (by simp)) (by simp);have F:=(q.alloc _).trans (i.mono (by simp));rw[HC.out]at N;simp only at N;have ap:=ae N;have ax:=ae Q;have ai:=ae B;clear H D C I K G k l b i A x q o Y m;obtain⟨p0,p1,p2,p3,p4,p5⟩:=T.cells;obtain⟨z0,z1,z2,z3,z4,z5⟩:=hU B;have aT:=am B;go_wp2
     exact QX (v:=fg y w ⟨U,R,cf,O⟩) (by simp[results,results155,go_sem,fg,z0,z1,z2,z3,z4,z5]) rfl
      (by rw[hs.out,W.out];exact⟨rfl,gQ N (by omega) _ _ _ _ _ _,iu F (QQ _) _ _ _ _ _ _⟩)
    ·have W:Hid (ay w j=ay w Z):=L4.out ac
     clear L4 L5;go_wp2_with fail;refine(cK t y u (aP w p) (bm w p) _ _).mono ?_;rintro e w2 ⟨rfl,a⟩;have k:=J.kept a (by simp);have m:=L.kept a (by simp);have l:=a.get M (by simp);have b:=s.trans (a.mono (by simp));clear H D C I K G J L M s a;obtain⟨H,D,C,I,K,G⟩:=k.cells;go_wp2_with fail;refine(uC n z y w _ hd E.2.1 m).mono ?_;rintro e w3 ⟨rfl,Y,o⟩;have A:=k.kept o (by simp;omega);have x:=o.get l (by simp;omega);have q:=b.trans o;have az:=ae Y;have an:=ae A;have ar:=ae x;simp only[fg];rw[HC.out];simp only;go_wp2_with fail;refine(cK U y R (aP w O) (bm w O) _ _).mono ?_;rintro e w4 ⟨rfl,i⟩;have T:jx w4 w3.heap.size y w ⟨U,R,cf,O⟩:=i.get (QR _ _) (by simp);have Q:=(A.kept ((ab.refl [] _).alloc _) (by simp)).kept i (by simp);have N:=(Y.kept ((ab.refl [] _).alloc _) (by simp)).kept i (by simp);have B:=i.get (((ab.refl [] _).alloc _).get x (by simp)) (by simp);have F:=(q.alloc _).trans (i.mono (by simp));rw[HC.out]at N;simp only at N;have ap:=ae N;have ax:=ae Q;have ai:=ae B;clear H D C I K G k l b i A x q o Y m;obtain⟨p0,p1,p2,p3,p4,p5⟩:=T.cells;go_wp2_with fail;refine(vu n Z y w _ hd V.2 N).mono ?_;rintro e w5 ⟨rfl,h5,X⟩;have P:=Q.kept X (by simp;omega);have al:=X.get B (by simp;omega);have ad:=F.trans X;have yy:=am P;have a4:=ae P;obtain⟨H,D,C,I,K,G⟩:=P.cells;simp only[fg];go_wp2
     go_roundg (w.size-Z)
     case measure=>have:=E.2.2 hw;omega
     case rel=>exact⟨Z,V.2,rfl,hs.out.trans W.out,gQ h5 (by omega) _ _ _ _ _ _,pI P _,ui al (by omega) _ _ _ _ _ _,iu ad (by omega) _ _ _ _ _ _⟩
structure Pl where
  file:ByteArray
  line:Int
  col:Int
structure St where
  kind:Int
  label:ByteArray
  U5:List ByteArray
  proof:List (ByteArray×Pl)
  fin:Pl
  til:Nat
structure Db where
  Vd:List ByteArray
  U7:List ByteArray
  U8:List ByteArray
  Ve:List ByteArray
  typed:List ByteArray
  blocks:List (Nat×Nat)
  sts:List St
  rbl:List Nat
  kind:Int
  label:ByteArray
  U5:List ByteArray
  U9:Bool
  proof:List (ByteArray×Pl)
def cN(l:List ByteArray):List Value:=l.map Value.string
def pairs(l:List (Nat×Nat)):List Value:=l.flatMap (fun p=>[.int .i64 p.1,.int .i64 p.2])
def jX(l:List Nat):List Value:=l.map (fun(n:Nat)=>.int .i64 n)
def qW(p:ByteArray×Pl):List Value:=[.string p.1,.string p.2.file,.int .i64 p.2.line,.int .i64 p.2.col]
def nC(l:List (ByteArray×Pl)):List Value:=l.flatMap qW
def JM(s:St)(a b:Hd):List Value :=
  [.int .i64 s.kind,.string s.label,.slice a.ao s.U5.length a.cap,.slice b.ao s.proof.length b.cap,.string s.fin.file,.int .i64 s.fin.line,.int .i64 s.fin.col,.int .i64 s.til]
def mn(l:List St)(H:Nat->Hd):List Value:=l.zipIdx.flatMap (fun p=>JM p.1 (H (10+2*p.2)) (H (11+2*p.2)))
def aB(l:List ByteArray):dN:=⟨9,1,l.length,cN l⟩
def nY(l:List (Nat×Nat)):dN:=⟨337,2,l.length,pairs l⟩
def bB(l:List Nat):dN:=⟨3,1,l.length,jX l⟩
def gN(l:List (ByteArray×Pl)):dN:=⟨229,4,l.length,nC l⟩
def iE(l:List St)(H:Nat->Hd):dN:=⟨158,8,l.length,mn l H⟩
def symsAt(l:List St)(i:Nat):List ByteArray:=match l[i]? with | some s=>s.U5 | none=>[]
def te(l:List St)(i:Nat):List (ByteArray×Pl):=match l[i]? with | some s=>s.proof | none=>[]
def inner(l:List St)(n:Nat):dN:=if n % 2=0 then aB (symsAt l (n / 2)) else gN (te l (n / 2))
def aU(d:Db)(H:Nat->Hd):Nat->dN
  | 0=>aB d.Vd
  | 1=>aB d.U7
  | 2=>aB d.U8
  | 3=>aB d.Ve
  | 4=>aB d.typed
  | 5=>nY d.blocks
  | 6=>iE d.sts H
  | 7=>bB d.rbl
  | 8=>aB d.U5
  | 9=>gN d.proof
  | n+10=>inner d.sts n
def b9(d:Db)(H:Nat->Hd):List Value :=
  [.slice (H 0).ao d.Vd.length (H 0).cap,.slice (H 1).ao d.U7.length (H 1).cap,.slice (H 2).ao d.U8.length (H 2).cap,.slice (H 3).ao d.Ve.length (H 3).cap,
   .slice (H 4).ao d.typed.length (H 4).cap,.slice (H 5).ao d.blocks.length (H 5).cap,.slice (H 6).ao d.sts.length (H 6).cap,.slice (H 7).ao d.rbl.length (H 7).cap,
   .int .i64 d.kind,.string d.label,.slice (H 8).ao d.U5.length (H 8).cap,.bool d.U9,.slice (H 9).ao d.proof.length (H 9).cap]
def g9{α:Type}(H:Nat->α)(i:Nat)(h:α):Nat->α:=fun j=>if j=i then h else H j
theorem dh(H:Nat->α)(i:Nat)(h:α):g9 H i h i=h:=by simp[g9]
theorem bU(H:Nat->α)(i j:Nat)(h:α)(a:j≠i):g9 H i h j=H j:=by simp[g9,a]
theorem MO(H:Nat->α)(i:Nat):g9 H i (H i)=H:=by funext j;unfold g9;split <;> simp_all
theorem xk(l:List St)(H a:Nat->Hd)(h:∀j,10<=j->a j=H j):mn l a=mn l H:=by
  unfold mn;congr 1;funext p;rw[h _ (by omega),h _ (by omega)]
theorem Mn(d:Db)(H:Nat->Hd)(i:Nat)(h:Hd)(b:i<10)(j:Nat):aU d (g9 H i h) j=aU d H j:=by
  have e:mn d.sts (g9 H i h)=mn d.sts H:=xk _ _ _ (fun j a=>bU _ _ _ _ (by omega));unfold aU
  split <;> first | rfl | (simp only[iE,e])
def f9(H:Nat->Hd)(k:Nat):Prop:=∃i,(H i).blk=some k
structure eK(P:Nat->Prop)(w w':World):Prop where
  os:w'.os=w.os
  tape:w'.tape=w.tape
  output:w'.output=w.output
  size:w.heap.size<=w'.heap.size
  block:∀k,k<w.heap.size->¬P k->w'.heap[k]?=w.heap[k]?
theorem eK.refl(P:Nat->Prop)(w:World):eK P w w:=⟨rfl,rfl,rfl,QQ _,fun _ _ _=>rfl⟩
theorem ab.toP(h:ab z6 H k){P:Nat->Prop}(e:∀a,a∈z6->a<H.heap.size->P a):eK P H k :=
  ⟨h.os,h.tape,h.output,h.size,fun a b d=>h.block a b (fun c=>d (e a c b))⟩
theorem eK.get(h:eK z7 H k)(a:H.heap[l]?=some y6)(b:¬z7 l):k.heap[l]?=some y6:=(h.block l (ae a) b).trans a
theorem eK.Va(h:eK z7 H k)(a:ab [] k y1):eK z7 H y1 :=
  ⟨a.os.trans h.os,a.tape.trans h.tape,a.output.trans h.output,Q1 h.size a.size,fun i b c=>(a.block i (QW b h.size) (by simp)).trans (h.block i b c)⟩
theorem eK.setCell(h:eK z7 H k){p:Addr}(a:z7 p.block∨H.heap.size<=p.block)(u:Value):eK z7 H (k.setCell p u) :=
  ⟨h.os,h.tape,h.output,by have:=h.size;simp[World.setCell];omega,fun d c b=>by
    rw[Q3 _ _ _ _ (by rintro rfl;exact a.elim b (fun a=>by omega))];exact h.block d c b⟩
structure aR(w:World)(b t:Nat)(pre post:List Value)(d:Db)(H:Nat->Hd):Prop where
  blk:w.heap[b]?=some (.cells (pre++(b9 d H++post)).toArray t (0,0))
  own:∀i,aw w (H i) (aU d H i)
  apart:∀i j,i≠j->(H i).blk=none∨(H i).blk≠(H j).blk
  off:∀i,(H i).blk≠some b
theorem aR.lt{d:Db}(h:aR H l a i D d f):l<H.heap.size:=ae h.blk
theorem aR.free{d:Db}(h:aR H l a i D d f)(b:Nat):H.frozen? ⟨l,b,none⟩=false:=am h.blk b
theorem aR.inlt{d:Db}(h:aR H l a i D d f)(b:f9 f y5):y5<H.heap.size:=by
  obtain⟨c,e⟩:=b;exact(h.own c).lt e
theorem aR.keptP{d:Db}(h:aR H l a i D d f)(g:eK z7 H k)(m:¬z7 l)(j:∀c,f9 f c->¬z7 c):aR k l a i D d f :=
  ⟨g.get h.blk m,fun e=>(h.own e).Vf (fun c b=>g.block c ((h.own e).lt b) (j c ⟨e,b⟩)),h.apart,h.off⟩
theorem aR.kept{d:Db}(h:aR H l a i D d f)(e:ab z6 H k)(j:l∉z6)(g:∀b,f9 f b->b∉z6):aR k l a i D d f :=
  h.keptP (e.toP (P:=(·∈z6)) (fun _ c _=>c)) j g
theorem aR.Va{d:Db}(h:aR H l a i D d f)(b:ab [] H k):aR k l a i D d f:=h.kept b (by simp) (by simp)
theorem Ak(a:zt.length=M)(c:b<v.length):(zt++(v++o)).toArray[M+b]?=v[b]?:=by
  subst a;simp[Q4,Q6 c]
theorem Gu(u:Value)(a:zt.length=M)(c:b<v.length):(zt++(v++o)).set (M+b) u=zt++(v.set b u++o):=by
  subst a;rw[SQ _ _ (by omega),show zt.length+b-zt.length=b by omega,TJ _ _ c]
theorem aR.cellAt{d:Db}(h:aR H l a i D d f)(o:Nat)(e:i.length=o)(b:Nat)(c:b<13):H.cell? ⟨l,o+b,none⟩=(b9 d f)[b]? :=
  (aa h.blk (o+b)).trans (Ak i (b9 d f) D o b e c)
theorem aR.cells{d:Db}(h:aR H l a i D d f)(o:Nat)(b:i.length=o) :
    H.cell? ⟨l,o,none⟩=some (.slice (f 0).ao d.Vd.length (f 0).cap)/\H.cell? ⟨l,o+1,none⟩=some (.slice (f 1).ao d.U7.length (f 1).cap) /\
    H.cell? ⟨l,o+2,none⟩=some (.slice (f 2).ao d.U8.length (f 2).cap)/\H.cell? ⟨l,o+3,none⟩=some (.slice (f 3).ao d.Ve.length (f 3).cap) /\
    H.cell? ⟨l,o+4,none⟩=some (.slice (f 4).ao d.typed.length (f 4).cap)/\H.cell? ⟨l,o+5,none⟩=some (.slice (f 5).ao d.blocks.length (f 5).cap) /\
    H.cell? ⟨l,o+6,none⟩=some (.slice (f 6).ao d.sts.length (f 6).cap)/\H.cell? ⟨l,o+7,none⟩=some (.slice (f 7).ao d.rbl.length (f 7).cap) /\
    H.cell? ⟨l,o+8,none⟩=some (.int .i64 d.kind)/\H.cell? ⟨l,o+9,none⟩=some (.string d.label)/\H.cell? ⟨l,o+10,none⟩=some (.slice (f 8).ao d.U5.length (f 8).cap) /\
    H.cell? ⟨l,o+11,none⟩=some (.bool d.U9)/\H.cell? ⟨l,o+12,none⟩=some (.slice (f 9).ao d.proof.length (f 9).cap):=by
  have m:=h.cellAt o b;exact⟨m 0 (by omega),m 1 (by omega),m 2 (by omega),m 3 (by omega),m 4 (by omega),m 5 (by omega),m 6 (by omega),m 7 (by omega),m 8 (by omega),m 9 (by omega),m 10 (by omega),m 11 (by omega),m 12 (by omega)⟩
def aA(b:Nat)(w:World)(H:Nat->Hd)(w':World)(H':Nat->Hd):Prop :=
  eK (fun k=>k=b∨f9 H k) w w'/\∀k,f9 H' k->f9 H k∨w.heap.size<=k
theorem aA.refl(H:Nat->Hd):aA b d H d H:=⟨eK.refl _ _,fun _ a=>Q0 a⟩
theorem aA.trans{w1:World}{i:Nat->Hd}(a:aA l H f w1 y3)(c:aA l w1 y3 k i):aA l H f k i:=by
  refine⟨⟨c.1.os.trans a.1.os,c.1.tape.trans a.1.tape,c.1.output.trans a.1.output,Q1 a.1.size c.1.size,?_⟩,?_⟩
  · intro b d g
    rw[<-a.1.block b d g];refine c.1.block b (QW d a.1.size) ?_;rintro (e | j)
    · exact g (Q0 e)
    · rcases a.2 b j with h | h
      · exact g (QU h)
      · omega
  · intro b d
    rcases c.2 b d with h | h
    · exact a.2 b h
    · exact QU (Q1 a.1.size h)
theorem aA.Va(a:aA l H f k y3)(c:ab [] k y1):aA l H f y1 y3 :=
  a.trans ⟨c.toP (by simp),fun _ b=>Q0 b⟩
theorem aA.first(c:ab [] H k)(a:aA l k f y1 y3):aA l H f y1 y3 :=
  aA.trans ⟨c.toP (by simp),fun _ b=>Q0 b⟩ a
theorem aR.putG{d d':Db}(h:aR H l a i D d f)(o c:Nat)(M:i.length=o)(m:Nat)(J:m<10)(n:Hd)(L:aw k n (aU d' f m))(v:H.grownBy k (f m).blk)(b:n.blk=none∨n.blk=(f m).blk∨∃g,n.blk=some g/\H.heap.size<=g)(A:∀j,j≠m->aw H (f j) (aU d' f j))(u:Value)(I:c<13)(K:(b9 d f).set c u=b9 d' (g9 f m n)) :
    aR (k.setCell ⟨l,o+c,none⟩ u) l a i D d' (g9 f m n)/\aA l H f (k.setCell ⟨l,o+c,none⟩ u) (g9 f m n):=by
  have N:=h.lt;have B:k.heap[l]?=some (.cells (i++(b9 d f++D)).toArray a (0,0)):=(v.block l N (fun e=>h.off m e.symm)).trans h.blk
  have t:∀j,(g9 f m n j).blk≠some l:=by
    intro j
    by_cases e:j=m
    · subst e;rw[dh];intro w
      rcases b with b | b | ⟨g,b,r⟩
      · rw[b]at w;cases w
      · exact h.off j (b ▸ w)
      · rw[b]at w;cases w;omega
    · rw[bU _ _ _ _ e];exact h.off j
  refine⟨⟨?_,?_,?_,t⟩,⟨v.os,v.tape,v.output,by have:=v.size;simp[World.setCell];omega,?_⟩,?_⟩
  · rw[ah B,Rt,Gu i (b9 d f) D o c u M I,K]
  · intro j
    have q:aw k (g9 f m n j) (aU d' (g9 f m n) j):=by
      rw[Mn d' f m n J j]
      by_cases e:j=m
      · subst e;rw[dh];exact L
      · rw[bU _ _ _ _ e]
        refine(A j e).Vf (fun x p=>v.block x ((h.own j).lt p) ?_);intro z
        rcases h.apart j m e with C | C
        · rw[C]at p;cases p
        · exact C (p.trans z)
    refine q.Vf (fun x p=>Q3 _ _ _ _ ?_);rintro rfl;exact t j p
  · intro j y s
    by_cases e:j=m
    · subst e
      rw[dh,bU _ _ _ _ (fun e=>s e.symm)]
      rcases b with b | b | ⟨g,b,r⟩
      · exact Q0 b
      · rw[b];exact h.apart j y s
      · right;rw[b];intro z;have:=(h.own y).lt z.symm;omega
    · rw[bU _ _ _ _ e]
      by_cases F:y=m
      · subst F
        rw[dh]
        rcases b with b | b | ⟨g,b,r⟩
        · rw[b];cases (f j).blk <;> simp
        · rw[b];exact h.apart j y s
        · cases w:(f j).blk with
          | none=>exact Q0 rfl
          | some x=>right;rw[b];intro z;cases z;have:=(h.own j).lt w;omega
      · rw[bU _ _ _ _ F];exact h.apart j y s
  · intro x p E
    rw[Q3 _ _ _ _ (fun e=>E (Q0 e))];exact v.block x p (fun e=>E (QU ⟨m,e.symm⟩))
  · intro x p
    obtain⟨j,e⟩:=p
    by_cases G:j=m
    · subst G
      rw[dh]at e
      rcases b with b | b | ⟨g,b,r⟩
      · rw[b]at e;cases e
      · exact Q0 ⟨j,b ▸ e⟩
      · rw[b]at e;cases e;exact QU r
    · rw[bU _ _ _ _ G]at e
      exact Q0 ⟨j,e⟩
theorem aR.put{d d':Db}(h:aR H l a i D d f)(o c:Nat)(w:i.length=o)(b:Nat)(s:b<10)(e:Hd)(v:aw k e (aU d' f b))(r:H.grownBy k (f b).blk)(q:e.blk=none∨e.blk=(f b).blk∨∃g,e.blk=some g/\H.heap.size<=g)(m:∀j,j≠b->aU d' f j=aU d f j)(u:Value)(n:c<13)(t:(b9 d f).set c u=b9 d' (g9 f b e)) :
    aR (k.setCell ⟨l,o+c,none⟩ u) l a i D d' (g9 f b e)/\aA l H f (k.setCell ⟨l,o+c,none⟩ u) (g9 f b e) :=
  h.putG o c w b s e v r q (fun j p=>by rw[m j p];exact h.own j) u n t
theorem aR.set{d d':Db}(h:aR H l a i D d f)(o c:Nat)(m:i.length=o)(b:∀j,aU d' f j=aU d f j)(u:Value)(g:c<13)(n:(b9 d f).set c u=b9 d' f) :
    aR (H.setCell ⟨l,o+c,none⟩ u) l a i D d' f/\aA l H f (H.setCell ⟨l,o+c,none⟩ u) f:=by
  refine⟨⟨?_,?_,h.apart,h.off⟩,(eK.refl _ _).setCell (Q0 (Q0 rfl)) _,fun _ e=>Q0 e⟩
  · rw[ah h.blk,Rt,Gu i (b9 d f) D o c u m g,n]
  · intro j
    rw[b j];refine(h.own j).Vf (fun k e=>Q3 _ _ _ _ ?_);rintro rfl;exact h.off j e
theorem aR.app{d d':Db}(h:aR H l a i D d f)(o c:Nat)(x:i.length=o)(n:Nat)(y:n<10)(g b m:Nat)(r:dN)(t:aw k ⟨some ⟨g,0,none⟩,b⟩ r)(A:r=aU d' f n)(q:H.grownBy k (f n).blk)(p:(f n).blk=some g∨H.heap.size<=g)(s:∀j,j≠n->aU d' f j=aU d f j)(u:c<13)(w:Value)(B:(b9 d f)[c]?=some w)(z:(b9 d f).set c (.slice (some ⟨g,0,none⟩) m b)=b9 d' (g9 f n ⟨some ⟨g,0,none⟩,b⟩)) :
    k.cell? ⟨l,o+c,none⟩=some w/\k.frozen? ⟨l,o+c,none⟩=false /\
    Hid (aR (k.setCell ⟨l,o+c,none⟩ (.slice (some ⟨g,0,none⟩) m b)) l a i D d' (g9 f n ⟨some ⟨g,0,none⟩,b⟩) /\
      aA l H f (k.setCell ⟨l,o+c,none⟩ (.slice (some ⟨g,0,none⟩) m b)) (g9 f n ⟨some ⟨g,0,none⟩,b⟩)):=by
  have v:=(q.block l h.lt (fun e=>h.off n e.symm)).trans h.blk;subst A;refine⟨((aa v (o+c)).trans (Ak i (b9 d f) D o c x u)).trans B,am v _,?_⟩
  exact h.put (d':=d') o c x n y ⟨some ⟨g,0,none⟩,b⟩ t q
    (by rcases p with e | e
        · exact QU (Q0 e.symm)
        · exact QU (QU ⟨g,rfl,by simpa using e⟩)) s _ u z
theorem CS(d:Db)(H:Nat->Hd)(l:List ByteArray):∀j,j≠0->aU { d with Vd:=l } H j=aU d H j:=by
  intro j a
  match j with
  | 0=>exact absurd rfl a
  | 1=>rfl
  | 2=>rfl
  | 3=>rfl
  | 4=>rfl
  | 5=>rfl
  | 6=>rfl
  | 7=>rfl
  | 8=>rfl
  | 9=>rfl
  | n+10=>rfl
theorem wX(d:Db)(H:Nat->Hd)(l:List ByteArray):∀j,j≠1->aU { d with U7:=l } H j=aU d H j:=by
  intro j a
  match j with
  | 0=>rfl
  | 1=>exact absurd rfl a
  | 2=>rfl
  | 3=>rfl
  | 4=>rfl
  | 5=>rfl
  | 6=>rfl
  | 7=>rfl
  | 8=>rfl
  | 9=>rfl
  | n+10=>rfl
theorem xa(d:Db)(H:Nat->Hd)(l:List ByteArray):∀j,j≠2->aU { d with U8:=l } H j=aU d H j:=by
  intro j a
  match j with
  | 0=>rfl
  | 1=>rfl
  | 2=>exact absurd rfl a
  | 3=>rfl
  | 4=>rfl
  | 5=>rfl
  | 6=>rfl
  | 7=>rfl
  | 8=>rfl
  | 9=>rfl
  | n+10=>rfl
theorem uN(d:Db)(H:Nat->Hd)(l:List ByteArray):∀j,j≠3->aU { d with Ve:=l } H j=aU d H j:=by
  intro j a
  match j with
  | 0=>rfl
  | 1=>rfl
  | 2=>rfl
  | 3=>exact absurd rfl a
  | 4=>rfl
  | 5=>rfl
  | 6=>rfl
  | 7=>rfl
  | 8=>rfl
  | 9=>rfl
  | n+10=>rfl
theorem wZ(d:Db)(H:Nat->Hd)(l:List ByteArray):∀j,j≠4->aU { d with typed:=l } H j=aU d H j:=by
  intro j b
  match j with
  | 0=>rfl
  | 1=>rfl
  | 2=>rfl
  | 3=>rfl
  | 4=>exact absurd rfl b
  | 5=>rfl
  | 6=>rfl
  | 7=>rfl
  | 8=>rfl
  | 9=>rfl
  | n+10=>rfl
theorem uP(d:Db)(H:Nat->Hd)(l:List (Nat×Nat)):∀j,j≠5->aU { d with blocks:=l } H j=aU d H j:=by
  intro j b
  match j with
  | 0=>rfl
  | 1=>rfl
  | 2=>rfl
  | 3=>rfl
  | 4=>rfl
  | 5=>exact absurd rfl b
  | 6=>rfl
  | 7=>rfl
  | 8=>rfl
  | 9=>rfl
  | n+10=>rfl
theorem CT(d:Db)(H:Nat->Hd)(l:List Nat):∀j,j≠7->aU { d with rbl:=l } H j=aU d H j:=by
  intro j a
  match j with
  | 0=>rfl
  | 1=>rfl
  | 2=>rfl
  | 3=>rfl
  | 4=>rfl
  | 5=>rfl
  | 6=>rfl
  | 7=>exact absurd rfl a
  | 8=>rfl
  | 9=>rfl
  | n+10=>rfl
theorem tp(d:Db)(H:Nat->Hd)(l:List ByteArray):∀j,j≠8->aU { d with U5:=l } H j=aU d H j:=by
  intro j a
  match j with
  | 0=>rfl
  | 1=>rfl
  | 2=>rfl
  | 3=>rfl
  | 4=>rfl
  | 5=>rfl
  | 6=>rfl
  | 7=>rfl
  | 8=>exact absurd rfl a
  | 9=>rfl
  | n+10=>rfl
theorem wY(d:Db)(H:Nat->Hd)(l:List (ByteArray×Pl)):∀j,j≠9->aU { d with proof:=l } H j=aU d H j:=by
  intro j b
  match j with
  | 0=>rfl
  | 1=>rfl
  | 2=>rfl
  | 3=>rfl
  | 4=>rfl
  | 5=>rfl
  | 6=>rfl
  | 7=>rfl
  | 8=>rfl
  | 9=>exact absurd rfl b
  | n+10=>rfl
theorem JG(d:Db)(H:Nat->Hd)(l:Int):∀j,aU { d with kind:=l } H j=aU d H j:=by
  intro j
  match j with
  | 0=>rfl
  | 1=>rfl
  | 2=>rfl
  | 3=>rfl
  | 4=>rfl
  | 5=>rfl
  | 6=>rfl
  | 7=>rfl
  | 8=>rfl
  | 9=>rfl
  | n+10=>rfl
theorem E6(d:Db)(H:Nat->Hd)(l:ByteArray):∀j,aU { d with label:=l } H j=aU d H j:=by
  intro j
  match j with
  | 0=>rfl
  | 1=>rfl
  | 2=>rfl
  | 3=>rfl
  | 4=>rfl
  | 5=>rfl
  | 6=>rfl
  | 7=>rfl
  | 8=>rfl
  | 9=>rfl
  | n+10=>rfl
theorem Aw(d:Db)(H:Nat->Hd)(l:Bool):∀j,aU { d with U9:=l } H j=aU d H j:=by
  intro j
  match j with
  | 0=>rfl
  | 1=>rfl
  | 2=>rfl
  | 3=>rfl
  | 4=>rfl
  | 5=>rfl
  | 6=>rfl
  | 7=>rfl
  | 8=>rfl
  | 9=>rfl
  | n+10=>rfl
def aJ(l:List ByteArray)(x:ByteArray):Bool:=l.any (fun y=>y.toList==x.toList)
theorem Gl(h:b<T.length)(c:aJ T w=aJ (T.drop b) w)(a:((T[b]).toList==w.toList)=true):aJ T w=true:=by
 rw[c,Re h];simp only[aJ,TA,a,Tr]
theorem BQ(h:b<T.length)(c:aJ T w=aJ (T.drop b) w)(a:((T[b]).toList==w.toList)=false):aJ T w=aJ (T.drop (b+1)) w:=by
 rw[c,Re h];simp only[aJ,TA,a,So]
theorem BS(h:¬b<T.length)(a:aJ T w=aJ (T.drop b) w):aJ T w=false:=by
 rw[a,R6 (by omega)];rfl
theorem tB(h:b<T.length):(cN T)[b]?=some (.string T[b]):=by simp[cN,h]
theorem eN(b:aw d zb (aB T))(p:T.length<=1073741824) :
  Calls prog 253 #[.slice zb.ao T.length zb.cap,.string w] d fun e r=>e=.returned (.bool (aJ T w))/\r=d:=by
 obtain⟨v,t⟩:=zb
 rcases b.ways with ⟨l,n,_⟩ | ⟨g,s,m,_⟩
 ·have f:T.length=0:=n
  have j:T=[]:=Rj f;subst j
  injection l with l q
  subst l;clear b n f p q;go_enter func253,ntmps253;go_wp2;refine SV 1 ?_;rw[Tq];go_wp2;go_ret;exact⟨rfl,rfl⟩
 ·simp only at m
  subst m;go_enter func253,ntmps253;go_wp2
  go_loopg [5] T.length (fun g i wr=>∃k:Nat,k<=T.length/\g=T.length-k/\i=.int .i64 k/\Hid (aJ T w=aJ (T.drop k) w)/\wr=d)
  case atStart=>exact⟨0,by omega,by omega,rfl,rfl,rfl⟩
  case round =>
   obtain⟨k,u,x,rfl,c,rfl⟩:=hrel
   by_cases a:k<T.length
   ·have y:=b.cell rfl k (.string T[k]) (tB T k a)
    cases o:((T[k]).toList==w.toList)
    ·have h:Hid (aJ T w=aJ (T.drop (k+1)) w):=BQ T w k a c.out o
     clear c b;go_wp2
     go_roundg (T.length-(k+1))
     case measure=>omega
     case rel=>exact⟨k+1,by omega,rfl,by go_num,h,rfl⟩
    ·have h:Hid (aJ T w=true):=Gl T w k a c.out o
     clear c b;go_wp2;go_ret;exact⟨aD h.out.symm,rfl⟩
   ·have h:Hid (aJ T w=false):=BS T w k a c.out
    clear c b;go_wp2;go_ret;exact⟨aD h.out.symm,rfl⟩
theorem js:(prog.info? 9).map (fun i=>(i.zero,i.size,i.bytes))=some (some (.string ⟨#[]⟩),1,16):=by kernel_rfl
theorem JW:cN (T++[w])=cN T++[.string w]:=by simp[cN]
theorem dr:(⟨(aB T).e,(aB T).size,(aB T).n+1,(aB T).xs++[.string w]⟩:dN)=aB (T++[w]):=by
 simp[aB,JW]
theorem zy(d:Db)(H:Nat->Hd)(c:ByteArray)(w:World)(h:aR w n S v o d H)(B:v.length=x)(X:d.Vd.length<=1073741824) :
  Calls prog 264 #[.pointer (some ⟨n,x,none⟩),.string c] w fun e E=>e=.returned (.tuple #[])/\∃D,aR E n S v o { d with Vd:=d.Vd++[c] } D/\aA n w H E D:=by
 obtain⟨I,J,p,s,A⟩:=Rd js;obtain⟨U,L,G,T,N,R,K,W,M,V,y,r,m⟩:=h.cells x B;have t:=h.free;have P:=h.lt;have q:=h.Va ((ab.refl [] w).alloc (.cells #[.string c] 9));have b:=q.own 0;go_enter func264,ntmps264;go_wp2_with (at_builtin;refine aM _ rfl (.tmp 8) (.tmp 10) 61 rfl I (.string ⟨#[]⟩) 16 (H 0) (aB d.Vd) underlying61 J p s A rfl Rb rfl b ⟨w.heap.size,0,none⟩ 1 1 [.string c] rfl rfl ?c1 ?c2 Rb ?c3 ?c4 ?_)
 case c1=>intro j u l;match j,l with | 0,l=>simp at l;subst l;simp[Addr.add]
 case c2=>intro u C;simp at C;subst C;rfl
 case c3=>simp only[aB];unfold maxLen;omega
 case c4=>simp only[aB];omega
 ·intro g i Y f k a
  obtain⟨F,O,z⟩:=q.app (d':={ d with Vd:=d.Vd++[c] }) x 0 B 0 (by omega) g i ((aB d.Vd).n+1) _ f (dr d.Vd c) k (by simpa using a) (CS d H _) (by omega) _ rfl (by simp[b9,g9,aB]);simp only[Tf]at F O z;clear q b U L G T N R K W M V y r m f k a t;go_wp2;go_end0;exact⟨rfl,_,z.out.1,z.out.2.first ((ab.refl [] w).alloc _)⟩
theorem zz(d:Db)(H:Nat->Hd)(f:ByteArray)(w:World)(h:aR w n S v o d H)(B:v.length=x)(X:d.typed.length<=1073741824) :
  Calls prog 267 #[.pointer (some ⟨n,x,none⟩),.string f] w fun e F=>e=.returned (.tuple #[])/\∃E,aR F n S v o { d with typed:=d.typed++[f] } E/\aA n w H F E:=by
 obtain⟨I,J,q,t,A⟩:=Rd js;obtain⟨R,L,G,Q,N,P,K,U,M,T,z,s,p⟩:=h.cells x B;have y:=h.free;have O:=h.lt;have r:=h.Va ((ab.refl [] w).alloc (.cells #[.string f] 9));have b:=r.own 4;go_enter func267,ntmps267;go_wp2_with (at_builtin;refine aM _ rfl (.tmp 8) (.tmp 10) 61 rfl I (.string ⟨#[]⟩) 16 (H 4) (aB d.typed) underlying61 J q t A rfl Rb rfl b ⟨w.heap.size,0,none⟩ 1 1 [.string f] rfl rfl ?c1 ?c2 Rb ?c3 ?c4 ?_)
 case c1=>intro j u m;match j,m with | 0,m=>simp at m;subst m;simp[Addr.add]
 case c2=>intro u C;simp at C;subst C;rfl
 case c3=>simp only[aB];unfold maxLen;omega
 case c4=>simp only[aB];omega
 ·intro g k Y i l a
  obtain⟨V,W,D⟩:=r.app (d':={ d with typed:=d.typed++[f] }) x 4 B 4 (by omega) g k ((aB d.typed).n+1) _ i (dr d.typed f) l (by simpa using a) (wZ d H _) (by omega) _ rfl (by simp[b9,g9,aB])
  skip
  clear r b R L G Q N P K U M T z s p i l a y;go_wp2;go_end0;exact⟨rfl,_,D.out.1,D.out.2.first ((ab.refl [] w).alloc _)⟩
structure fK(d:Db)(N:Nat):Prop where
 Vd:d.Vd.length<=N
 U7:d.U7.length<=N
 U8:d.U8.length<=N
 Ve:d.Ve.length<=N
 typed:d.typed.length<=N
 blocks:d.blocks.length<=N
 sts:d.sts.length<=N
 rbl:d.rbl.length<=N
 U5:d.U5.length<=N
 proof:d.proof.length<=N
theorem qt:(⟨(aB L).e,(aB L).size,(aB L).n+T.length,(aB L).xs++cN T⟩:dN)=aB (L++T):=by
 simp[aB,cN]
theorem lX:∀u∈cN T,u.oneCell'=true:=by
 intro u a;simp only[cN,Sh]at a;obtain⟨x,_,rfl⟩:=a;rfl
theorem tF(d:Db)(H:Nat->Hd)(w:World)(h:aR w n S v o d H)(z:v.length=x)(R:0<d.U5.length)(F:fK d 100000000) :
  Calls prog 265 #[.pointer (some ⟨n,x,none⟩),.slice (H 8).ao d.U5.length (H 8).cap] w fun e E=>e=.returned (.tuple #[])/\∃D,aR E n S v o { d with U7:=d.U7++d.U5 } D/\aA n w H E D:=by
 obtain⟨J,K,p,r,y⟩:=Rd js;obtain⟨Y,M,I,X,P,U,L,q7,N,Z,t,q,m⟩:=h.cells x z;have s:=h.free;have Q:=h.lt;have c:=h.own 1;have f:aw w (H 8) (aB d.U5):=h.own 8;have ac:=F.U7;have V:=F.U5
 rcases f.ways with ⟨_,T,_⟩ | ⟨B,A,G,_⟩
 ·have:d.U5.length=0:=T
  omega
 ·rw[G]
  have b:Hid (∀j u,(cN d.U5)[j]?=some u->w.cell? ((⟨B,0,none⟩:Addr).add j)=some u):=fun j u W=>by rw[bL];exact f.cell G j u W
  clear f;go_enter func265,ntmps265;go_wp2_with (at_builtin;refine aM _ rfl (.tmp 8) (.tmp 9) 61 rfl J (.string ⟨#[]⟩) 16 (H 1) (aB d.U7) underlying61 K p r y rfl Rb rfl c ⟨B,0,none⟩ d.U5.length (H 8).cap (cN d.U5) rfl ?c0 b.out (lX _) R ?c3 ?c4 ?_)
  case c0=>simp[cN,aB]
  case c3=>simp only[aB];unfold maxLen;omega
  case c4=>simp only[aB];omega
  ·intro g k w1 i l a
   obtain⟨k0,f0,C⟩:=h.app (d':={ d with U7:=d.U7++d.U5 }) x 1 z 1 (by omega) g k ((aB d.U7).n+d.U5.length) _ i (qt d.U7 d.U5) l a (wX d H _) (by omega) _ rfl (by simp[b9,g9,aB]);clear c Y M I X P U L q7 N Z t q m i l a s b;go_wp2;go_end0;exact⟨rfl,_,C.out.1,C.out.2⟩
def dR(v l:List ByteArray):List ByteArray:=l.foldl (fun v x=>if aJ v x=true then v else v++[x]) v
def dO(d:Db)(k:Nat):Db:={ d with Ve:=d.Ve++d.U5,U8:=dR d.U8 (d.U5.take k) }
theorem J3:dR L (T++[w])=if aJ (dR L T) w=true then dR L T else dR L T++[w]:=by
 unfold dR;rw[Sv];rfl
theorem Dj:(dR L T).length<=L.length+T.length:=by
 induction T generalizing L with
 | nil=>simp[dR]
 | cons x T a =>
  have:=a (if aJ L x=true then L else L++[x]);have e:dR L (x :: T)=dR (if aJ L x=true then L else L++[x]) T:=rfl;rw[e];have b:(if aJ L x=true then L else L++[x]).length<=L.length+1:=by split <;> simp
  simp only[Ro];omega
theorem jo(l:List α)(k:Nat)(h:k<l.length):l.take (k+1)=l.take k++[l[k]]:=by simp
theorem tG(d:Db)(H:Nat->Hd)(w:World)(h:aR w n S v o d H)(G:v.length=x)(hm:0<d.U5.length)(hs:fK d 100000000) :
  Calls prog 266 #[.pointer (some ⟨n,x,none⟩),.slice (H 8).ao d.U5.length (H 8).cap] w fun e w'=>e=.returned (.tuple #[])/\∃H',aR w' n S v o (dO d d.U5.length) H'/\aA n w H w' H':=by
 obtain⟨i0,hi,L,N,V⟩:=Rd js;obtain⟨J,F,X,P,Q,I,R,W,M,K,s,p,q⟩:=h.cells x G;have A:=h.free;have al:=h.lt;have B:=h.own 3;have l:aw w (H 8) (aB d.U5):=h.own 8;have an:=hs.Ve;have af:=hs.U5;have ad:=hs.U8
 rcases l.ways with ⟨_,h0,_⟩ | ⟨g8,ac,e8,_⟩
 ·have:d.U5.length=0:=h0
  omega
 ·rw[e8]
  have C:Hid (∀j u,(cN d.U5)[j]?=some u->w.cell? ((⟨g8,0,none⟩:Addr).add j)=some u):=fun j u hj=>by rw[bL];exact l.cell e8 j u hj
  clear l;go_enter func266,ntmps266;go_wp2_with (at_builtin;refine aM _ rfl (.tmp 9) (.tmp 10) 61 rfl i0 (.string ⟨#[]⟩) 16 (H 3) (aB d.Ve) underlying61 hi L N V rfl Rb rfl B ⟨g8,0,none⟩ d.U5.length (H 8).cap (cN d.U5) rfl ?c0 C.out (lX _) hm ?c3 ?c4 ?_)
  case c0=>simp[cN,aB]
  case c3=>simp only[aB];unfold maxLen;omega
  case c4=>simp only[aB];omega
  ·intro g t w1 r z a
   obtain⟨k0,f0,E⟩:=h.app (d':=dO d 0) x 3 G 3 (by omega) g t ((aB d.Ve).n+d.U5.length) _ r (qt d.Ve d.U5) z a (uN d H _) (by omega) _ rfl (by simp[b9,g9,aB,dO,dR]);clear B J F X P Q I R W M K s p q r z a A C;go_wp2
   go_loopg [4] d.U5.length (fun g i wr=>∃(k:Nat) (f:Nat->Hd),k<=d.U5.length/\g=d.U5.length-k/\i=.int .i64 k/\f 8=H 8/\aR wr n S v o (dO d k) f/\aA n w H wr f)
   case atStart=>exact⟨0,_,by omega,by omega,rfl,by simp[g9],E.out.1,E.out.2⟩
   case round =>
    obtain⟨k,f,hk,hg,rfl,h8,D,T⟩:=hrel;clear E k0 f0
    by_cases O:k<d.U5.length
    ·obtain⟨J,F,X,P,Q,I,R,W,M,K,s,p,q⟩:=D.cells x G
     have l:aw wr (H 8) (aB d.U5):=by have:=D.own 8;rw[h8]at this;exact this
     have c1:=l.cell e8 k (.string d.U5[k]) (tB d.U5 k O)
     have U:(dO d k).U8.length<=1073741824:=by
      have:=Dj d.U8 (d.U5.take k);simp only[RO]at this
      show(dR d.U8 (d.U5.take k)).length<=_
      omega
     have A:=D.free
     have Y:Hid (dO d (k+1)=if aJ (dO d k).U8 d.U5[k]=true then dO d k else { dO d k with U8:=(dO d k).U8++[d.U5[k]] }):=by
      show dO d (k+1)=_
      unfold dO;rw[jo d.U5 k O,J3];simp only
      split <;> rfl
     generalize dO d k=b at *;generalize d.U5[k]=c at *;clear J F P Q I R W M K s p q l
     cases hb:aJ b.U8 c
     ·have HT:Hid (dO d (k+1)={ b with U8:=b.U8++[c] }):=by show dO d (k+1)=_;rw[Y.out];simp[hb]
      clear Y;go_wp2_with fail
      go_quiet ((go_at_call 253;exact Rc (eN (f 2) b.U8 c _ (D.Va ((ab.refl [] _).drewN _) |>.own 2) U)))
      obtain⟨m,y⟩:∃m,m=wr.drewN nq:=⟨_,rfl⟩
      rw[<-y];have Z:aR m n S v o b f:=by rw[y];exact D.Va ((ab.refl [] _).drewN _)
      have T2:aA n w H m f:=by rw[y];exact T.Va ((ab.refl [] _).drewN _)
      have ag:m.cell? ⟨g8,k,none⟩=some (.string c):=by rw[y];exact c1
      clear y c1 D T A X;obtain⟨J,F,X,P,Q,I,R,W,M,K,s,p,q⟩:=Z.cells x G;have A:=Z.free;have ai:=Z.lt;clear J F P Q I R W M K s p q;have hD:Hid (aR (m.alloc (.cells #[.string c] 9)).drew n S v o b f):=Z.Va ((ab.refl [] m).alloc _).drew
      have s2:Hid (∀j u,([.string c]:List Value)[j]?=some u->(m.alloc (.cells #[.string c] 9)).drew.cell? ((⟨m.heap.size,0,none⟩:Addr).add j)=some u):=by
       intro j u hj;have hk:(m.alloc (.cells #[.string c] 9)).drew.heap[m.heap.size]?=some (.cells #[.string c] 9 (0,0)):=QR m _;rw[bL,aa hk];simpa using hj
      have s3:Hid (∀u∈([.string c]:List Value),u.oneCell'=true):=by intro u hu;simp at hu;subst hu;rfl
      have s4:Hid ((aB b.U8).n+1<=maxLen):=by show _<=_;simp only[aB];unfold maxLen;omega
      have s5:Hid (((aB b.U8).n+1)*16<=140737488355328):=by show _<=_;simp only[aB];omega
      go_wp2_with fail
      go_region_law (refine cd rfl (.tmp 34) (.tmp 39) 61 rfl i0 (.string ⟨#[]⟩) 16 (f 2) (aB b.U8) underlying61 hi L N V rfl Rb (by simp[Act.eval] <;> rfl) (hD.out.own 2) ⟨m.heap.size,0,none⟩ 1 1 [.string c] (by simp[Act.eval]) rfl s2.out s3.out Rb s4.out s5.out ?_;intro g t w1 r z a;obtain⟨k5,f5,E⟩:=hD.out.app (d':={ b with U8:=b.U8++[c] }) x 2 G 2 (by omega) g t ((aB b.U8).n+1) _ r (dr b.U8 c) z (by simpa using a) (xa b f _) (by omega) _ rfl (by simp[b9,g9,aB]);clear r z a)
      all_goals go_wp2
      all_goals
       go_roundg (d.U5.length-(k+1))
       case measure=>omega
       case rel=>exact⟨k+1,_,by omega,rfl,by go_num,by simp[g9,h8],by rw[HT.out];exact E.out.1,T2.trans (E.out.2.first ((ab.refl [] _).alloc _).drew)⟩
     ·have HT:Hid (dO d (k+1)=b):=by show dO d (k+1)=_;rw[Y.out];simp[hb]
      clear Y;go_wp2_with fail
      go_quiet ((go_at_call 253;exact Rc (eN (f 2) b.U8 c _ (D.Va ((ab.refl [] _).drewN _) |>.own 2) U)))
      go_wp2
      go_roundg (d.U5.length-(k+1))
      case measure=>omega
      case rel=>exact⟨k+1,f,by omega,rfl,by go_num,h8,by rw[HT.out];exact D.Va ((ab.refl [] _).drewN _),T.Va ((ab.refl [] _).drewN _)⟩
    ·have e:k=d.U5.length:=by omega
     subst e;go_wp2;go_end0;exact⟨rfl,f,D,T⟩
def jA(n:Int):Bool:=(decide (97<=n)&&decide (n<=122))||(decide (65<=n)&&decide (n<=90))||(decide (48<=n)&&decide (n<=57))||n==45||n==95||n==46
def gG(s:ByteArray):Bool:=(List.range s.size).all (fun i=>jA (aF s i))
theorem pg :
  Calls prog 275 #[.int .u8 I] d fun e g=>e=.returned (.bool (jA I))/\g=d:=by
 by_cases b:(97<=I/\I<=122)∨(65<=I/\I<=90)∨(48<=I/\I<=57)
 ·have a:Hid (jA I=true):=by show jA I=true;simp only[jA,Rz,Rf,Sw];omega
  rcases b with b | b | b
  all_goals
   go_enter func275,ntmps275;go_wp2;go_ret;exact⟨aD a.out.symm,rfl⟩
 ·have a:Hid (jA I=(I==45||I==95||I==46)):=by
   show jA I=_
   have f:(decide (97<=I)&&decide (I<=122))=false:=by simp;omega
   have h:(decide (65<=I)&&decide (I<=90))=false:=by simp;omega
   have c:(decide (48<=I)&&decide (I<=57))=false:=by simp;omega
   simp only[jA,f,h,c,So]
  go_enter func275,ntmps275;go_wp2
  all_goals go_ret
  all_goals (refine⟨aD ?_,rfl⟩;first | rfl | (rw[a.out];done) | (rw[a.out];simp[*];done))
theorem DD(h:b<l)(a:y2 b=false):(List.range l).all y2=false:=by
 rw[Ud];exact⟨b,by simpa using h,by simp[a]⟩
theorem zA(h:∀i,i<l->y2 i=true):(List.range l).all y2=true:=by
 rw[Sk];intro i a;exact h i (by simpa using a)
theorem na(p:w.size<=1073741824) :
  Calls prog 263 #[.string w] d fun e m=>e=.returned (.bool (gG w))/\m=d:=by
 go_enter func263,ntmps263;go_wp2
 go_loopg [3] w.size (fun g i wr=>∃k:Nat,k<=w.size/\g=w.size-k/\i=.int .i64 k/\Hid (∀i,i<k->jA (aF w i)=true)/\wr=d)
 case atStart=>exact⟨0,by omega,by omega,rfl,fun i h=>by omega,rfl⟩
 case round =>
  obtain⟨k,o,n,rfl,a,rfl⟩:=hrel
  by_cases b:k<w.size
  ·cases f:jA (w[k].toNat:Int)
   ·have c:Hid (gG w=false):=DD k b (by rw[bP w k b];exact f)
    go_wp2_with fail;refine(pg _ _).mono ?_;rintro e j ⟨rfl,rfl⟩;go_wp2;go_ret;exact⟨aD c.out.symm,rfl⟩
   ·go_wp2_with fail
    refine(pg _ _).mono ?_;rintro e j ⟨rfl,rfl⟩;go_wp2
    go_roundg (w.size-(k+1))
    case measure=>omega
    case rel =>
     refine⟨k+1,by omega,rfl,by go_num,?_,rfl⟩;intro i l
     by_cases e:i=k
     ·subst e;rw[bP w i b];exact f
     ·exact a.out i (by omega)
  ·have c:Hid (gG w=true):=zA (fun i l=>a.out i (by omega))
   go_wp2;go_ret;exact⟨aD c.out.symm,rfl⟩
theorem kF(d:Db)(H:Nat->Hd)(a:ByteArray)(w:World)(h:aR w n S v o d H)(f:v.length=x)(c:d.Ve.length<=1073741824) :
  Calls prog 269 #[.pointer (some ⟨n,x,none⟩),.string a] w fun e j=>e=.returned (.bool (aJ d.Ve a))/\j=w:=by
 obtain⟨u,m,k,t,q,s,l,z,p,y,i,g,b⟩:=h.cells x f;go_enter func269,ntmps269;go_wp2_with fail;refine(eN (H 3) d.Ve a _ (by exact h.own 3) c).mono ?_;rintro e r ⟨rfl,rfl⟩;go_wp2;go_ret;exact⟨rfl,rfl⟩
theorem mA(d:Db)(H:Nat->Hd)(a:ByteArray)(w:World)(h:aR w n S v o d H)(f:v.length=x)(c:d.U7.length<=1073741824) :
  Calls prog 270 #[.pointer (some ⟨n,x,none⟩),.string a] w fun e j=>e=.returned (.bool (aJ d.U7 a))/\j=w:=by
 obtain⟨u,m,k,t,q,s,l,z,p,y,i,g,b⟩:=h.cells x f;go_enter func270,ntmps270;go_wp2_with fail;refine(eN (H 1) d.U7 a _ (by exact h.own 1) c).mono ?_;rintro e r ⟨rfl,rfl⟩;go_wp2;go_ret;exact⟨rfl,rfl⟩
theorem nc(d:Db)(H:Nat->Hd)(a:ByteArray)(w:World)(h:aR w n S v o d H)(f:v.length=x)(c:d.typed.length<=1073741824) :
  Calls prog 271 #[.pointer (some ⟨n,x,none⟩),.string a] w fun e j=>e=.returned (.bool (aJ d.typed a))/\j=w:=by
 obtain⟨u,m,k,t,q,s,l,z,p,y,i,g,b⟩:=h.cells x f;go_enter func271,ntmps271;go_wp2_with fail;refine(eN (H 4) d.typed a _ (by exact h.own 4) c).mono ?_;rintro e r ⟨rfl,rfl⟩;go_wp2;go_ret;exact⟨rfl,rfl⟩
def dK(d:Db)(x:ByteArray):Bool:=aJ d.Vd x||aJ d.U7 x||aJ d.U8 x
def dX(d:Db)(x:ByteArray):Bool:=aJ d.Vd x||aJ d.U7 x||aJ d.Ve x
theorem lP(d:Db)(H:Nat->Hd)(a:ByteArray)(w:World)(h:aR w n S v o d H)(k:v.length=x)(b:fK d 1073741824) :
  Calls prog 254 #[.pointer (some ⟨n,x,none⟩),.string a] w fun e p=>e=.returned (.bool (dK d a))/\p=w:=by
 obtain⟨A,s,q,z,u,y,r,C,t,B,m,l,j⟩:=h.cells x k
 cases g:aJ d.Vd a
 ·cases i:aJ d.U7 a
  ·have c:Hid (dK d a=aJ d.U8 a):=by show dK d a=_;simp[dK,g,i]
   go_enter func254,ntmps254;go_wp2_with fail;refine(eN (H 0) d.Vd a _ (by exact h.own 0) b.Vd).mono ?_;rintro e f ⟨rfl,rfl⟩;go_wp2_with fail;refine(eN (H 1) d.U7 a _ (by exact h.own 1) b.U7).mono ?_;rintro e f ⟨rfl,rfl⟩;go_wp2_with fail;refine(eN (H 2) d.U8 a _ (by exact h.own 2) b.U8).mono ?_;rintro e f ⟨rfl,rfl⟩;go_wp2;go_ret;exact⟨aD (by rw[c.out]),rfl⟩
  ·have c:Hid (dK d a=true):=by show dK d a=_;simp[dK,g,i]
   go_enter func254,ntmps254;go_wp2_with fail;refine(eN (H 0) d.Vd a _ (by exact h.own 0) b.Vd).mono ?_;rintro e f ⟨rfl,rfl⟩;go_wp2_with fail;refine(eN (H 1) d.U7 a _ (by exact h.own 1) b.U7).mono ?_;rintro e f ⟨rfl,rfl⟩;go_wp2;go_ret;exact⟨aD (by rw[c.out]),rfl⟩
 ·have c:Hid (dK d a=true):=by show dK d a=_;simp[dK,g]
  go_enter func254,ntmps254;go_wp2_with fail;refine(eN (H 0) d.Vd a _ (by exact h.own 0) b.Vd).mono ?_;rintro e f ⟨rfl,rfl⟩;go_wp2;go_ret;exact⟨aD (by rw[c.out]),rfl⟩
theorem z9(d:Db)(H:Nat->Hd)(a:ByteArray)(w:World)(h:aR w n S v o d H)(k:v.length=x)(b:fK d 1073741824) :
  Calls prog 255 #[.pointer (some ⟨n,x,none⟩),.string a] w fun e p=>e=.returned (.bool (dX d a))/\p=w:=by
 obtain⟨A,s,q,z,u,y,r,C,t,B,m,l,j⟩:=h.cells x k
 cases g:aJ d.Vd a
 ·cases i:aJ d.U7 a
  ·have c:Hid (dX d a=aJ d.Ve a):=by show dX d a=_;simp[dX,g,i]
   go_enter func255,ntmps255;go_wp2_with fail;refine(eN (H 0) d.Vd a _ (by exact h.own 0) b.Vd).mono ?_;rintro e f ⟨rfl,rfl⟩;go_wp2_with fail;refine(eN (H 1) d.U7 a _ (by exact h.own 1) b.U7).mono ?_;rintro e f ⟨rfl,rfl⟩;go_wp2_with fail;refine(eN (H 3) d.Ve a _ (by exact h.own 3) b.Ve).mono ?_;rintro e f ⟨rfl,rfl⟩;go_wp2;go_ret;exact⟨aD (by rw[c.out]),rfl⟩
  ·have c:Hid (dX d a=true):=by show dX d a=_;simp[dX,g,i]
   go_enter func255,ntmps255;go_wp2_with fail;refine(eN (H 0) d.Vd a _ (by exact h.own 0) b.Vd).mono ?_;rintro e f ⟨rfl,rfl⟩;go_wp2_with fail;refine(eN (H 1) d.U7 a _ (by exact h.own 1) b.U7).mono ?_;rintro e f ⟨rfl,rfl⟩;go_wp2;go_ret;exact⟨aD (by rw[c.out]),rfl⟩
 ·have c:Hid (dX d a=true):=by show dX d a=_;simp[dX,g]
  go_enter func255,ntmps255;go_wp2_with fail;refine(eN (H 0) d.Vd a _ (by exact h.own 0) b.Vd).mono ?_;rintro e f ⟨rfl,rfl⟩;go_wp2;go_ret;exact⟨aD (by rw[c.out]),rfl⟩
theorem lO(d:Db)(H:Nat->Hd)(w:World)(h:aR w n S v o d H)(b:v.length=x) :
  Calls prog 207 #[.pointer (some ⟨n,x,none⟩)] w fun e g=>e=.returned (.bool (decide (0<d.blocks.length)))/\g=w:=by
 obtain⟨r,k,i,q,m,p,j,t,l,s,f,c,a⟩:=h.cells x b;go_enter func207,ntmps207;go_wp2;go_ret;exact⟨rfl,rfl⟩
def ko(d:Db):Bool:=d.kind != 0||decide (0<d.blocks.length)
theorem sV(d:Db)(H:Nat->Hd)(w:World)(h:aR w n S v o d H)(c:v.length=x) :
  Calls prog 158 #[.pointer (some ⟨n,x,none⟩)] w fun e j=>e=.returned (.bool (ko d))/\j=w:=by
 obtain⟨u,m,k,t,q,s,l,z,p,y,i,g,f⟩:=h.cells x c
 cases b:(d.kind != 0)
 ·have a:Hid (ko d=decide (0<d.blocks.length)):=by show ko d=_;simp only[ko,b,So]
  go_enter func158,ntmps158;go_wp2_with fail;refine(lO n S x v o d H _ h c).mono ?_;rintro e r ⟨rfl,rfl⟩;go_wp2;go_ret;exact⟨aD (by rw[a.out]),rfl⟩
 ·have a:Hid (ko d=true):=by show ko d=_;simp only[ko,b,Tr]
  go_enter func158,ntmps158;go_wp2_with fail;go_ret;exact⟨aD (by rw[a.out]),rfl⟩
def l4(d:Db):Int:=if(d.kind==1)=true∨(d.kind==2)=true then 2 else 1
theorem tZ(d:Db)(H:Nat->Hd)(w:World)(h:aR w n S v o d H)(g:v.length=x) :
  Calls prog 251 #[.pointer (some ⟨n,x,none⟩)] w fun e k=>e=.returned (.int .i64 (l4 d))/\k=w:=by
 obtain⟨u,q,l,t,r,s,m,z,p,y,j,i,c⟩:=h.cells x g
 cases b:(d.kind==1)
 ·cases f:(d.kind==2)
  all_goals
   have a:Hid (l4 d=if(d.kind==1)=true∨(d.kind==2)=true then 2 else 1):=rfl;go_enter func251,ntmps251;go_wp2;go_ret;exact⟨QM (by rw[a.out,b,f];simp),rfl⟩
 ·have a:Hid (l4 d=2):=by show l4 d=_;simp only[l4,b];simp
  go_enter func251,ntmps251;go_wp2;go_ret;exact⟨QM (by rw[a.out]),rfl⟩
theorem Id(j:aw d zb (aB T))(p:b<=1073741824) :
  Calls prog 262 #[.slice zb.ao T.length zb.cap,.int .i64 b] d fun e r=>e=.returned (.slice zb.ao (if b<=T.length then b else T.length) zb.cap)/\r=d:=by
 obtain⟨t,i⟩:=zb
 by_cases a:b<=T.length
 ·rcases j.ways with ⟨f,n,_⟩ | ⟨g,s,k,l,o,m,_⟩
  ·have c:T.length=0:=n
   have h:b=0:=by omega
   subst h
   injection f with f l
   subst f l;simp only[QV a];rw[c];clear j n a c p;go_enter func262,ntmps262;go_wp2;go_ret;exact⟨rfl,rfl⟩
  ·simp only at k o m
   have q:T.length<=i:=o;unfold maxLen at m;subst k;simp only[QV a];go_enter func262,ntmps262;go_wp2;go_ret;exact⟨rfl,rfl⟩
 ·simp only[QS a]
  go_enter func262,ntmps262;go_wp2;go_ret;exact⟨rfl,rfl⟩
theorem aw.cut{h:Hd}{l:List ByteArray}(o:aw H h (aB l))(c:Nat)(s:c<=l.length):aw H h (aB (l.take c)):=by
 have a:(l.take c).length=c:=by simp;omega
 rcases o.ways with ⟨q,r,_⟩ | ⟨g,b,i,p,k,j,f,n⟩
 ·have m:l.length=0:=r
  have:c=0:=by omega
  subst this;subst q;exact⟨by simp[aB,cN],Q0 ⟨by simp[aB],by simp[aB]⟩⟩
 ·obtain⟨t,d⟩:=h
  simp only at i k j f;subst i;refine⟨by simp[aB,cN],QU ⟨g,d,b,rfl,Rn _,p,?_,j,f,?_⟩⟩
  ·have:l.length<=d:=k
   simp only[aB];omega
  ·have e:b.toList.take (l.length*1)=cN l:=n
   simp only[aB,a];have:cN (l.take c)=(cN l).take c:=by simp[cN,UK]
   rw[this,<-e,UB]
   congr 1
   omega
theorem P7:(prog.info? 337).map (fun i=>(i.zero,i.size,i.bytes))=some (some (.agg #[.int .i64 0,.int .i64 0]),2,16):=by kernel_rfl
theorem rG:pairs (y0++[y4])=pairs y0++[.int .i64 y4.1,.int .i64 y4.2]:=by simp[pairs]
theorem Jy:(⟨(nY y0).e,(nY y0).size,(nY y0).n+1,(nY y0).xs++[.int .i64 y4.1,.int .i64 y4.2]⟩:dN)=nY (y0++[y4]):=by
 simp[nY,rG]
theorem vJ(d:Db)(H:Nat->Hd)(w:World)(h:aR w n S v o d H)(p:v.length=x)(T:d.blocks.length<=1073741824) :
  Calls prog 246 #[.pointer (some ⟨n,x,none⟩)] w fun e y=>e=.returned (.tuple #[])/\∃t,aR y n S v o { d with blocks:=d.blocks++[(d.Ve.length,d.typed.length)] } t/\aA n w H y t:=by
 obtain⟨C,D,k,l,m⟩:=Rd P7;obtain⟨Z,P,N,X,R,W,O,q7,Q,q9,L,G,z⟩:=h.cells x p;have J:=h.free;have I:=h.lt;have q:Hid (aR (w.alloc (.cells #[.int .i64 d.Ve.length,.int .i64 d.typed.length] 337)).drew n S v o d H):=h.Va ((ab.refl [] w).alloc _).drew
 have B:Hid (∀j u,([.int .i64 d.Ve.length,.int .i64 d.typed.length]:List Value)[j]?=some u->(w.alloc (.cells #[.int .i64 d.Ve.length,.int .i64 d.typed.length] 337)).drew.cell? ((⟨w.heap.size,0,none⟩:Addr).add j)=some u):=by
  intro j u M;rw[bL];have A:(w.alloc (.cells #[.int .i64 d.Ve.length,.int .i64 d.typed.length] 337)).drew.heap[w.heap.size]?=some (.cells #[.int .i64 d.Ve.length,.int .i64 d.typed.length] 337 (0,0)):=QR _ _;rw[aa A];simpa using M
 have K:Hid (∀u∈([.int .i64 d.Ve.length,.int .i64 d.typed.length]:List Value),u.oneCell'=true):=by
  intro u r;simp at r
  rcases r with rfl | rfl <;> rfl
 have E:Hid ((nY d.blocks).n+1<=maxLen):=by show _<=_;simp only[nY];unfold maxLen;omega
 have F:Hid (((nY d.blocks).n+1)*16<=140737488355328):=by show _<=_;simp only[nY];omega
 clear h;go_enter func246,ntmps246;go_wp2_with fail
 go_region_law (refine cd rfl (.tmp 6) (.tmp 18) 194 rfl C (.agg #[.int .i64 0,.int .i64 0]) 16 (H 5) (nY d.blocks) underlying194 D k l m rfl Up (by simp[Act.eval] <;> rfl) (q.out.own 5) ⟨w.heap.size,0,none⟩ 1 1 [.int .i64 d.Ve.length,.int .i64 d.typed.length] (by simp[Act.eval]) rfl B.out K.out Rb E.out F.out ?_;intro g f V c i a;obtain⟨U,Y,s⟩:=q.out.app (d':={ d with blocks:=d.blocks++[(d.Ve.length,d.typed.length)] }) x 5 p 5 (by omega) g f ((nY d.blocks).n+1) _ c (Jy d.blocks (d.Ve.length,d.typed.length)) i (by simpa using a) (uP d H _) (by omega) _ rfl (by simp[b9,g9,nY]);clear c i a)
 all_goals go_wp2
 all_goals go_end0
 all_goals exact⟨rfl,_,s.out.1,s.out.2.first ((ab.refl [] w).alloc _).drew⟩
end Go.Proofs.YtpddjjabfbfifaaGreat
