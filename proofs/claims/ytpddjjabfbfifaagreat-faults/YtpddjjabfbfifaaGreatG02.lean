import Derived.Deep.LoopGhost
import Derived.Deep.CutRange
import Derived.Deep.CutBlock
import Derived.Deep.RegionLaw
import Derived.BigQuiet
import Derived.Deep.RegionHeld3
import Derived.Test.YtpddjjabfbfifaaGreatG01
namespace Go.Proofs.YtpddjjabfbfifaaGreat
open Go.RowKit Tryz
set_option maxHeartbeats 0
variable{n v yf:World}{H y D:Nat}{g z6:ByteArray}{M:List Nat}{yg:Nat->Bool}{yt:Int}{yz:rT}{yu:Obj}{y8:Nat->Prop}{k o:List Value}{l N:Nat->Hd}{zb:Hd}{zt:List ByteArray}(yd yr yv:List Value)(ys:World)(L:Hd)(I:List ByteArray)(f T:Nat)(a:ByteArray)(x:List ByteArray)(w:ByteArray)(i:World)(ya:List Nat)(b:Nat)(S d:List Value)(z7:List (Nat×Nat))(y9:Nat×Nat)
def l4:Array Value:=#[.string ⟨#[]⟩,.int .i64 0,.bool false,.string ⟨#[]⟩,.int .i64 0,.int .i64 0]
theorem hU(h:n.heap[H]?=some (.cells l4 255 (0,0))) :
  n.cell? ⟨H,0,none⟩=some (.string ⟨#[]⟩)/\n.cell? ⟨H,1,none⟩=some (.int .i64 0)/\n.cell? ⟨H,2,none⟩=some (.bool false) /\
  n.cell? ⟨H,3,none⟩=some (.string ⟨#[]⟩)/\n.cell? ⟨H,4,none⟩=some (.int .i64 0)/\n.cell? ⟨H,5,none⟩=some (.int .i64 0):=by
 refine⟨?_,?_,?_,?_,?_,?_⟩ <;> (rw[aa h];rfl)
theorem gQ(h:bV n H g z6 D)(a:H≠y)(b c d e f i:Value) :
  bV ((((((n.setCell ⟨y,0,none⟩ b).setCell ⟨y,1,none⟩ c).setCell ⟨y,2,none⟩ d).setCell ⟨y,3,none⟩ e).setCell ⟨y,4,none⟩ f).setCell ⟨y,5,none⟩ i) H g z6 D:=by
 unfold bV;rw[Q4 _ _ _ _ a,Q4 _ _ _ _ a,Q4 _ _ _ _ a,Q4 _ _ _ _ a,Q4 _ _ _ _ a,Q4 _ _ _ _ a];exact h
theorem iu(h:ab M n v)(a:n.heap.size<=H)(b c d e f g:Value) :
  ab M n ((((((v.setCell ⟨H,0,none⟩ b).setCell ⟨H,1,none⟩ c).setCell ⟨H,2,none⟩ d).setCell ⟨H,3,none⟩ e).setCell ⟨H,4,none⟩ f).setCell ⟨H,5,none⟩ g) :=
 (((((h.setCell (QV a) _).setCell (QV a) _).setCell (QV a) _).setCell (QV a) _).setCell (QV a) _).setCell (QV a) _
set_option maxRecDepth 100000
theorem vv(hd:w.size<=1024)(hk:T<=w.size)(h:bV i f a w T) :
  Calls prog 203 #[.pointer (some ⟨f,0,none⟩)] i fun e w'=>e=.returned (fg a w (bC w T).1)/\bV w' f a w (bC w T).2/\ab [f] i w':=by
 have ao:=ae h;go_enter func203,ntmps203;go_upto_block 0 with fail
 go_cut [] from 5 (fun wc=>∃j,T<=j/\j<=w.size/\Hid (j=skip w T)/\bV wc f a w j/\wc.heap[i.heap.size]?=some (.cells l4 255 (0,0))/\ab [f] i wc)
 case first =>
  go_wp2_with fail
  go_loopg [] (w.size-T) (fun g wr=>∃j,T<=j/\j<=w.size/\g=w.size-j/\Hid (skip w j=skip w T)/\bV wr f a w j/\wr.heap[i.heap.size]?=some (.cells l4 255 (0,0))/\ab [f] i wr)
  case atStart=>exact⟨T,QR _,hk,rfl,rfl,bV.kept h ((ab.refl [] i).alloc _) (by simp),QS _ _,(ab.refl _ _).alloc _⟩
  case round =>
   obtain⟨j,F,hj,hg,p,k,o,b⟩:=hrel;obtain⟨N,O,P,Q,R⟩:=k.cells;have r:=ae o;have s:=ae k;have u:i.heap.size∉[f]:=by simp;omega
   by_cases S:j<w.size/\cO (aF w j)=true
   ·obtain⟨c,q⟩:=S
    have d:=q;rw[bP w j c]at d;have ag:Hid (skip w (j+1)=skip w T):=(GL w j c q).symm.trans p.out;clear q;go_wp2_with fail
    go_quiet ((go_at_call 226;exact Rd (kl _ _)))
    go_wp2_with fail;refine(C4 f j a w _ hd c (by exact k)).mono ?_;rintro e w1 ⟨rfl,C,n⟩;go_wp2
    go_roundg (w.size-(j+1))
    case measure=>omega
    case rel=>exact⟨j+1,by omega,by omega,rfl,ag,C,n.get (by exact o) u,(b.drewN nq).trans n⟩
   ·have ad:Hid (j=skip w T):=(p.out.symm.trans (tw w j S)).symm
    have E:(j<w.size/\∃h:j<w.size,cO ((w[j]'h).toNat:Int)=false)∨(¬j<w.size/\decide ((j:Int)<(w.size:Int))=false):=by
     by_cases c:j<w.size
     ·refine Q1 ⟨c,c,?_⟩
      rw[<-bP w j c];simpa using fun h=>S ⟨c,h⟩
     ·exact QV ⟨c,by simp;omega⟩
    clear S p
    rcases E with ⟨c,ai,d⟩ | ⟨c,d⟩
    all_goals
     go_wp2_with fail
     go_quiet ((go_at_call 226;exact Rd (kl _ _)))
     go_wp2_with fail
     go_meet
     case rel=>exact⟨j,F,hj,ad,by exact k,by exact o,b.drewN _⟩
 case rest =>
  obtain⟨j,F,hj,HJ,k,o,b⟩:=hcut;have r:=ae o;have s:=ae k;have u:i.heap.size∉[f]:=by simp;omega
  go_wp2_with fail;refine(yV f j a w _ (by exact k)).mono ?_;rintro e x ⟨rfl,n⟩;have C:bV x f a w j:=bV.kept (by exact k) n (by simp);have J:=n.get (by exact o) (by simp);have t:=b.trans (n.mono (by simp));have an:=ae C;have al:=ae J;have ax:=t.size;clear k o b n r s;obtain⟨N,O,P,Q,R⟩:=C.cells;go_wp2
  go_loopg [] (w.size-j) (fun g wr=>∃z,j<=z/\z<=w.size/\g=w.size-z/\Hid (cG w z=cG w j)/\bV wr f a w z/\wr.heap[i.heap.size]?=some (.cells l4 255 (0,0)) /\
   wr.heap[x.heap.size]?=some (.cells #[.string a,.int .i64 (aP w j),.int .i64 (bm w j)] 36 (0,0))/\ab [f] i wr)
  case atStart=>exact⟨j,QR _,hj,rfl,rfl,C.kept ((ab.refl [] x).alloc _) (by simp),((ab.refl [] x).alloc _).get J (by simp),QS _ _,t.alloc _⟩
  case round =>
   clear N O P Q R;obtain⟨z,ar,hz,hg,p,k,o,A,b⟩:=hrel;obtain⟨N,O,P,Q,R⟩:=k.cells;have r:=ae o;have s:=ae k;have ac:=ae A;have e0:wr.cell? ⟨x.heap.size,0,none⟩=some (.string a):=by rw[aa A];rfl
   have e1:wr.cell? ⟨x.heap.size,1,none⟩=some (.int .i64 (aP w j)):=by rw[aa A];rfl
   have e2:wr.cell? ⟨x.heap.size,2,none⟩=some (.int .i64 (bm w j)):=by rw[aa A];rfl
   rcases Kd w z with ⟨m,d,I,L⟩ | ⟨m,d,I⟩ | ⟨m,d⟩ | ⟨m,d⟩
   ·have HS:Hid (cG w (z+1)=cG w j):=L.trans p.out
    clear p L;go_wp2_with fail
    go_quiet ((go_at_call 226;exact Rd (kl _ _)))
    go_wp2_with fail
    go_quiet ((go_at_call 229;exact L8 (pi _ _)))
    go_wp2_with fail;refine(C4 f z a w _ hd m (by exact k)).mono ?_;rintro e w3 ⟨rfl,h3,l⟩;go_wp2
    go_roundg (w.size-(z+1))
    case measure=>omega
    case rel=>exact⟨z+1,by omega,by omega,rfl,HS,h3,l.get (by exact o) u,l.get (by exact A) (by simp;omega),((b.drewN _).trans l)⟩
   ·have B:Hid (bC w T=(⟨⟨#[]⟩,1,false,z⟩,z)):=CW w T j z HJ.out p.out m (by rw[bP w z m];exact d) (by rw[bP w z m];exact I)
    clear p;go_wp2_with fail
    go_quiet ((go_at_call 226;exact Rd (kl _ _)))
    go_wp2_with fail
    go_quiet ((go_at_call 229;exact L8 (pi _ _)))
    go_wp2_with fail;refine(yV f z a w _ (by exact k)).mono ?_;rintro e w3 ⟨rfl,l⟩;have h3:bV w3 f a w z:=bV.kept (by exact k) l (by simp);have K:=l.get (by exact o) (by simp);have G:=(b.drewN _).trans (l.mono (by simp));clear N O P Q R k o b l r s A ac e0 e1 e2;obtain⟨U,V,W,X,Y,Z⟩:=hU K;have y:=am K;go_wp2
    exact QY (v:=fg a w ⟨⟨#[]⟩,1,false,z⟩) (by simp[results,results203,go_sem,fg,U,V,W,X,Y,Z]) rfl
     (by rw[B.out];exact⟨rfl,gQ h3 (by omega) _ _ _ _ _ _,iu G (QR _) _ _ _ _ _ _⟩)
   all_goals
    have M:¬(z<w.size/\cO (aF w z)=false):=by
     rintro ⟨H,D⟩
     first
      | (rw[bP w z H,d]at D;cases D)
      | exact m H
    obtain⟨U,V,W,X,Y,Z⟩:=hU o;have y:=am o
    by_cases af:j<z
    ·have B:Hid (bC w T=(⟨w.extract j z,0,false,j⟩,z)):=ze w T j z HJ.out p.out M af
     have ap:decide ((z:Int)<=(j:Int))=false:=by simp;omega
     clear p M;go_wp2_with fail
     go_quiet ((go_at_call 226;exact Rd (kl _ _)))
     go_wp2_with fail
     go_quiet (fail)
     go_wp2_with fail
     go_region
     all_goals go_wp2
     exact QY (v:=fg a w ⟨w.extract j z,0,false,j⟩) (by simp[results,results203,go_sem,fg,U,V,W,X,Y,Z]) rfl
      (by rw[B.out];exact⟨rfl,gQ (by exact k) (by omega) _ _ _ _ _ _,iu (b.drewN _) (QR _) _ _ _ _ _ _⟩)
    ·have B:Hid (bC w T=(⟨⟨#[]⟩,0,true,j⟩,z)):=CX w T j z HJ.out p.out M (by omega)
     clear p M;go_wp2_with fail
     go_quiet ((go_at_call 226;exact Rd (kl _ _)))
     go_wp2_with fail
     go_quiet (fail)
     go_wp2
     exact QY (v:=fg a w ⟨⟨#[]⟩,0,true,j⟩) (by simp[results,results203,go_sem,fg,U,V,W,X,Y,Z]) rfl
      (by rw[B.out];exact⟨rfl,gQ (by exact k) (by omega) _ _ _ _ _ _,iu (b.drewN _) (QR _) _ _ _ _ _ _⟩)
def aI(i:rT):Bool:=i.rule==0 && !i.fin
set_option maxRecDepth 512
theorem cK(r l c:Int)(f:Bool)(b:World) :
    Calls prog 156 #[.agg #[.string a,.int .i64 r,.bool f,.string w,.int .i64 l,.int .i64 c]] b fun e d=>e=.returned (.bool (r==0 && !f))/\ab [] b d:=by
  cases g:(r==0)
  · go_enter func156,ntmps156
    go_wp2;go_ret;exact⟨aD (by simp),(ab.refl _ _).alloc _⟩
  · go_enter func156,ntmps156
    go_wp2;go_ret;exact⟨aD (by simp),(ab.refl _ _).alloc _⟩
def dA(s:ByteArray):Bool:=(List.range s.size).any (fun i=>aF s i==36)
def kE(s:ByteArray):Bool:=(List.range s.size).any (fun i=>decide (1<=i)&&(aF s (i-1)==36)&&((aF s i==40)||(aF s i==41)))
theorem mZ{p:Nat->Bool}(h:b<H)(a:p b=true):(List.range H).any p=true:=by
  rw[RC];exact⟨b,by simpa using h,a⟩
theorem vH(h:∀i,i<H->yg i=false):(List.range H).any yg=false:=by
  rw[TH];intro i a;simp[h i (by simpa using a)]
theorem dV(o:w.size<=1073741824) :
    Calls prog 231 #[.string w] i fun e l=>e=.returned (.bool (dA w))/\l=i:=by
  go_enter func231,ntmps231;go_wp2
  go_loopg [3] w.size (fun g a wr=>∃k:Nat,k<=w.size/\g=w.size-k/\a=.int .i64 k/\Hid (∀a,a<k->(aF w a==36)=false)/\wr=i)
  case atStart=>exact⟨0,by omega,by omega,rfl,fun a h=>by omega,rfl⟩
  case round =>
    obtain⟨k,n,m,rfl,b,rfl⟩:=hrel
    by_cases c:k<w.size
    · cases f:((w[k].toNat:Int)==36)
      · go_wp2
        go_roundg (w.size-(k+1))
        case measure=>omega
        case rel =>
          refine⟨k+1,by omega,rfl,by go_num,?_,rfl⟩;intro a j
          by_cases e:a=k
          · subst e;rw[bP w a c];exact f
          · exact b.out a (by omega)
      · have d:Hid (dA w=true):=mZ k c (by rw[bP w k c];exact f)
        go_wp2;go_ret;exact⟨aD d.out.symm,rfl⟩
    · have d:Hid (dA w=false):=vH (fun a j=>b.out a (by omega))
      go_wp2;go_ret;exact⟨aD d.out.symm,rfl⟩
theorem uA(v:w.size<=1073741824) :
    Calls prog 230 #[.string w] i fun e r=>e=.returned (.bool (kE w))/\r=i:=by
  go_enter func230,ntmps230;go_wp2
  go_loopg [3] (w.size-1) (fun g a wr=>∃k:Nat,1<=k/\(k<=w.size∨k=1)/\g=w.size-k/\a=.int .i64 k/\Hid (∀a,a<k->1<=a->((aF w (a-1)==36)&&((aF w a==40)||(aF w a==41)))=false)/\wr=i)
  case atStart=>exact⟨1,by omega,by omega,rfl,rfl,fun a h s=>by omega,rfl⟩
  case round =>
    obtain⟨k,l,u,t,rfl,c,rfl⟩:=hrel
    by_cases d:k<w.size
    · have f:k-1<w.size:=by omega
      have n:∀b:Bool,(((w[k-1].toNat:Int)==36)&&(((w[k].toNat:Int)==40)||((w[k].toNat:Int)==41)))=b->((aF w (k-1)==36)&&((aF w k==40)||(aF w k==41)))=b :=
        fun b h=>by rw[bP w k d,bP w (k-1) f];exact h
      have m:Hid (∀b:Bool,(((w[k-1].toNat:Int)==36)&&(((w[k].toNat:Int)==40)||((w[k].toNat:Int)==41)))=b->((aF w (k-1)==36)&&((aF w k==40)||(aF w k==41)))=b):=n;clear n;go_wp2
      all_goals first
        | (go_ret
           refine⟨aD ?_,rfl⟩;refine(mZ (p:=fun a=>decide (1<=a)&&(aF w (a-1)==36)&&((aF w a==40)||(aF w a==41))) k d ?_).symm;have:=m.out true (by simp_all);simp only[Bool.and_assoc,this];simp[l])
        | (go_roundg (w.size-(k+1))
           case measure=>omega
           case rel =>
             refine⟨k+1,by omega,by omega,rfl,by go_num,?_,rfl⟩;intro a q j
             by_cases e:a=k
             · subst e;exact m.out false (by simp_all)
             · exact c.out a (by omega) j)
    · have o:Hid (kE w=false):=vH (fun a q=>by
        by_cases j:1<=a
        · have:=c.out a (by omega) j;simp only[Bool.and_assoc,this];simp
        · simp[j])
      go_wp2;go_ret;exact⟨aD o.out.symm,rfl⟩
theorem gq(h:b<=w.size):b<=(bC w b).2/\(bC w b).2<=w.size/\(aI (bC w b).1=true->b<(bC w b).2):=by
 have a:=AB w b h;have c:=rQ w (skip w b) a.2;unfold bC;simp only
 split
 ·exact⟨by omega,c.2,by simp[aI]⟩
 ·split
  ·exact⟨by omega,c.2,by simp[aI]⟩
  ·exact⟨by simp only;omega,c.2,fun _=>by simp only;omega⟩
def bX(d:ByteArray):Nat->Nat->rT×Nat
 | 0,k=>(⟨⟨#[]⟩,3,false,k⟩,k)
 | f+1,k =>
  if aI (bC d k).1=true/\¬(bC d k).1.text.toList=[36,41] then
   if kE (bC d k).1.text=true then(⟨⟨#[]⟩,2,false,(bC d k).1.pos⟩,(bC d k).2) else bX d f (bC d k).2
  else if(bC d k).1.fin=true then(⟨⟨#[]⟩,3,false,(bC d k).1.pos⟩,(bC d k).2) else bC d k
def aW(d:ByteArray)(k:Nat):rT×Nat:=bX d (d.size-k+1) k
theorem vR(f k:Nat)(a:k<=w.size)(b:w.size-k+1<=f):bX w f k=aW w k:=by
 unfold aW
 suffices h:∀f g k,k<=w.size->w.size-k+1<=f->w.size-k+1<=g->bX w f k=bX w g k from h _ _ _ a b (QR _)
 clear b a f k;intro f
 induction f with
 | zero=>intro g k _ h;omega
 | succ f e =>
  intro g k a b i
  cases g with
  | zero=>omega
  | succ g =>
   rw[bX,bX]
   split
   ·next h =>
    have c:=gq w k a;have d:=c.2.2 h.1
    split
    ·rfl
    ·exact e g (bC w k).2 c.2.1 (by omega) (by omega)
   ·rfl
theorem vS(f:b<=w.size)(a:aI (bC w b).1=true)(d:((bC w b).1.text.toList == [36,41])=false)(e:kE (bC w b).1.text=false):aW w b=aW w (bC w b).2:=by
 have c:=gq w b f;have g:=c.2.2 a
 conv=>lhs;unfold aW
 rw[bX,QW ⟨a,by simpa using d⟩,QT (by simp[e]),vR w _ _ c.2.1 (by omega)]
theorem sw(a:aI (bC w b).1=true)(c:((bC w b).1.text.toList == [36,41])=false)(d:kE (bC w b).1.text=true):aW w b=(⟨⟨#[]⟩,2,false,(bC w b).1.pos⟩,(bC w b).2):=by
 unfold aW;rw[bX,QW ⟨a,by simpa using c⟩,QW d]
theorem sx(a:aI (bC w b).1=false)(c:(bC w b).1.fin=true):aW w b=(⟨⟨#[]⟩,3,false,(bC w b).1.pos⟩,(bC w b).2):=by
 unfold aW;rw[bX,QT (by simp[a]),QW c]
theorem uE(a:aI (bC w b).1=false)(c:(bC w b).1.fin=false):aW w b=bC w b:=by
 unfold aW;rw[bX,QT (by simp[a]),QT (by simp[c])]
theorem qN(a:aI (bC w b).1=true)(c:((bC w b).1.text.toList == [36,41])=true):aW w b=bC w b:=by
 unfold aW;rw[bX,QT (by intro h;exact h.2 (by simpa using c))];rw[QT (by intro h;simp[aI,h]at a)]
theorem i9(k:Nat)(b:k<=w.size):k<=(aW w k).2/\(aW w k).2<=w.size:=by
 unfold aW
 suffices h:∀f k,k<=w.size->k<=(bX w f k).2/\(bX w f k).2<=w.size from h _ _ b
 clear b k;intro f
 induction f with
 | zero=>intro k b;simp[bX,b]
 | succ f c =>
  intro k b;have a:=gq w k b;rw[bX]
  split
  ·split
   ·exact⟨a.1,a.2.1⟩
   ·have:=c (bC w k).2 a.2.1;omega
  ·split
   ·exact⟨a.1,a.2.1⟩
   ·exact⟨a.1,a.2.1⟩
def dH(d:ByteArray):Nat->Nat->rT×Nat
 | 0,k=>(⟨⟨#[]⟩,0,true,k⟩,k)
 | f+1,k =>
  if aI (bC d k).1=true/\(bC d k).1.text.toList=[36,40] then
   if aI (aW d (bC d k).2).1=true then dH d f (aW d (bC d k).2).2 else aW d (bC d k).2
  else bC d k
def ay(d:ByteArray)(k:Nat):rT×Nat:=dH d (d.size-k+1) k
theorem Cw(f k:Nat)(a:k<=w.size)(b:w.size-k+1<=f):dH w f k=ay w k:=by
 unfold ay
 suffices h:∀f g k,k<=w.size->w.size-k+1<=f->w.size-k+1<=g->dH w f k=dH w g k from h _ _ _ a b (QR _)
 clear b a f k;intro f
 induction f with
 | zero=>intro g k _ h;omega
 | succ f i =>
  intro g k a b j
  cases g with
  | zero=>omega
  | succ g =>
   rw[dH,dH]
   split
   ·next h =>
    have c:=gq w k a;have e:=c.2.2 h.1;have d:=i9 w (bC w k).2 c.2.1
    split
    ·exact i g _ d.2 (by omega) (by omega)
    ·rfl
   ·rfl
theorem Gx(g:b<=w.size)(a:aI (bC w b).1=true)(d:((bC w b).1.text.toList == [36,40])=true)(e:aI (aW w (bC w b).2).1=true) :
  ay w b=ay w (aW w (bC w b).2).2:=by
 have c:=gq w b g;have h:=c.2.2 a;have f:=i9 w (bC w b).2 c.2.1
 conv=>lhs;unfold ay
 rw[dH,QW ⟨a,by simpa using d⟩,QW e,Cw w _ _ f.2 (by omega)]
theorem uM(a:aI (bC w b).1=true)(c:((bC w b).1.text.toList == [36,40])=true)(d:aI (aW w (bC w b).2).1=false) :
  ay w b=aW w (bC w b).2:=by
 unfold ay;rw[dH,QW ⟨a,by simpa using c⟩,QT (by simp[d])]
theorem rG(h:aI (bC w b).1=false∨((bC w b).1.text.toList == [36,40])=false):ay w b=bC w b:=by
 unfold ay;rw[dH,QT (by rintro ⟨a,c⟩;rcases h with h | h;simp[h]at a;simp[c]at h)]
theorem fG(k:Nat)(a:k<=w.size):k<=(ay w k).2/\(ay w k).2<=w.size/\(aI (ay w k).1=true->k<(ay w k).2):=by
 unfold ay
 suffices h:∀f k,k<=w.size->k<=(dH w f k).2/\(dH w f k).2<=w.size/\(aI (dH w f k).1=true->k<(dH w f k).2) from h _ _ a
 clear a k;intro f
 induction f with
 | zero=>intro k a;simp[dH,a,aI]
 | succ f e =>
  intro k a;have b:=gq w k a;have c:=i9 w (bC w k).2 b.2.1;rw[dH]
  split
  ·next h =>
   have d:=b.2.2 h.1
   split
   ·have:=e (aW w (bC w k).2).2 c.2;omega
   ·omega
  ·exact b
def jx(w:World)(r:Nat)(n d:ByteArray)(i:rT):Prop :=
 w.heap[r]?=some (.cells #[.string i.text,.int .i64 i.rule,.bool i.fin,.string n,.int .i64 (aP d i.pos),.int .i64 (bm d i.pos)] 255 (0,0))
theorem jx.cells{t:ByteArray}{f:Bool}(h:jx n H g z6 ⟨t,yt,f,y⟩) :
  n.cell? ⟨H,0,none⟩=some (.string t)/\n.cell? ⟨H,1,none⟩=some (.int .i64 yt)/\n.cell? ⟨H,2,none⟩=some (.bool f) /\
  n.cell? ⟨H,3,none⟩=some (.string g)/\n.cell? ⟨H,4,none⟩=some (.int .i64 (aP z6 y))/\n.cell? ⟨H,5,none⟩=some (.int .i64 (bm z6 y)):=by
 refine⟨?_,?_,?_,?_,?_,?_⟩ <;> (rw[aa h];rfl)
theorem jx.kept(h:jx n H g z6 yz)(b:ab M n v)(a:H∉M):jx v H g z6 yz:=b.get h a
theorem pJ(h:jx n H g z6 yz)(j:rT) :
  jx ((((((n.setCell ⟨H,0,none⟩ (.string j.text)).setCell ⟨H,1,none⟩ (.int .i64 j.rule)).setCell ⟨H,2,none⟩ (.bool j.fin)).setCell ⟨H,3,none⟩ (.string g)).setCell ⟨H,4,none⟩ (.int .i64 (aP z6 j.pos))).setCell ⟨H,5,none⟩ (.int .i64 (bm z6 j.pos))) H g z6 j:=by
 have:=ah (ah (ah (ah (ah (ah h 0 (.string j.text)) 1 (.int .i64 j.rule)) 2 (.bool j.fin)) 3 (.string g)) 4 (.int .i64 (aP z6 j.pos))) 5 (.int .i64 (bm z6 j.pos));unfold jx;rw[this];simp
theorem uj(h:n.heap[H]?=some yu)(a:H≠y)(b c d e f g:Value) :
  ((((((n.setCell ⟨y,0,none⟩ b).setCell ⟨y,1,none⟩ c).setCell ⟨y,2,none⟩ d).setCell ⟨y,3,none⟩ e).setCell ⟨y,4,none⟩ f).setCell ⟨y,5,none⟩ g).heap[H]?=some yu:=by
 rw[Q4 _ _ _ _ a,Q4 _ _ _ _ a,Q4 _ _ _ _ a,Q4 _ _ _ _ a,Q4 _ _ _ _ a,Q4 _ _ _ _ a];exact h
theorem qx(a:w.size<=1024):(bC w b).1.text.size<=1024:=by
 unfold bC;simp only
 split
 ·simp[ByteArray.size]
 ·split
  ·simp[ByteArray.size]
  ·simp;omega
set_option maxRecDepth 100000
theorem uD(hd:w.size<=1024)(hk:T<=w.size)(h:bV i f a w T) :
  Calls prog 204 #[.pointer (some ⟨f,0,none⟩)] i fun e w'=>e=.returned (fg a w (aW w T).1)/\bV w' f a w (aW w T).2/\ab [f] i w':=by
 have ax:=ae h;go_enter func204,ntmps204;go_wp2_with fail;refine(vv f T a w _ hd hk (by exact h.kept ((ab.refl [] _).alloc _) (by simp))).mono ?_;rintro e w1 ⟨rfl,h1,X⟩;have Z:w1.heap[i.heap.size]?=some (.cells l4 255 (0,0)):=X.get (QS _ _) (by simp;omega);have ac:ab [f] i w1:=((ab.refl _ _).alloc _).trans X;have ap:=ae h1;have an:=ae Z;simp only[fg];go_wp2
 go_loopg [] (w.size-T) (fun g wr=>∃j,j<=w.size/\g=w.size-j/\Hid (aW w T=aW w j)/\bV wr f a w (bC w j).2/\jx wr w1.heap.size a w (bC w j).1/\wr.heap[i.heap.size]?=some (.cells l4 255 (0,0))/\ab [f] i wr)
 case atStart=>exact⟨T,hk,rfl,rfl,h1.kept ((ab.refl [] _).alloc _) (by simp),QS _ _,((ab.refl [] _).alloc _).get Z (by simp),ac.alloc _⟩
 case round =>
  obtain⟨j,hj,hg,hs,o,n,D,l⟩:=hrel;have G:=gq w j hj;have af:=qx w j hd;have Q:Hid (_->_->_->aW w j=_):=vS w j hj;have R:Hid (_->_->_->aW w j=_):=sw w j;have S:Hid (_->_->aW w j=_):=sx w j;have U:Hid (_->_->aW w j=_):=uE w j;have V:Hid (_->_->aW w j=_):=qN w j;generalize hrr:bC w j=r at *;obtain⟨⟨t,u,W,p⟩,z⟩:=r;have HR:Hid (bC w j=(⟨t,u,W,p⟩,z)):=hrr;clear hrr;simp only at o n G af;obtain⟨q,s,x,A,B,C⟩:=n.cells;have ao:=ae D;have ar:=ae o;have al:=ae n
  cases H:(u==0 && !W)
  ·cases I:W
   ·have E:Hid (aW w j=(⟨t,u,false,p⟩,z)):=by have:=U.out (by simpa [aI] using H) I;rw[I]at this;exact this
    subst I;have ag:(u==0)=false:=by simpa using H
    clear Q R S U V;go_wp2_with fail;refine(cK t a u (aP w p) (bm w p) _ _).mono ?_;rintro e w2 ⟨rfl,b⟩;have k:=n.kept b (by simp);have m:=o.kept b (by simp);have d:=b.get D (by simp);have c:=l.trans (b.mono (by simp));clear q s x A B C n o D l b;obtain⟨q,s,x,A,B,C⟩:=k.cells;obtain⟨K,L,M,N,O,P⟩:=hU d;have y:=am d;go_wp2
    exact QY (v:=fg a w ⟨t,u,false,p⟩) (by simp[results,results204,go_sem,fg,K,L,M,N,O,P]) rfl
     (by rw[hs.out,E.out];exact⟨rfl,gQ m (by omega) _ _ _ _ _ _,iu c (QR _) _ _ _ _ _ _⟩)
   ·have E:Hid (aW w j=(⟨⟨#[]⟩,3,false,p⟩,z)):=S.out (by simpa [aI] using H) I
    subst I;clear Q R S U V;go_wp2_with fail;refine(cK t a u (aP w p) (bm w p) _ _).mono ?_;rintro e w2 ⟨rfl,b⟩;have k:=n.kept b (by simp);have m:=o.kept b (by simp);have d:=b.get D (by simp);have c:=l.trans (b.mono (by simp));clear q s x A B C n o D l b;obtain⟨q,s,x,A,B,C⟩:=k.cells;obtain⟨K,L,M,N,O,P⟩:=hU d;have y:=am d;go_wp2
    exact QY (v:=fg a w ⟨⟨#[]⟩,3,false,p⟩) (by simp[results,results204,go_sem,fg,K,L,M,N,O,P]) rfl
     (by rw[hs.out,E.out];exact⟨rfl,gQ m (by omega) _ _ _ _ _ _,iu c (QR _) _ _ _ _ _ _⟩)
  ·cases hx:(t.toList == [36,41])
   ·cases hy:kE t
    ·have E:Hid (aW w j=aW w z):=Q.out H hx hy
     clear Q R S U V;go_wp2_with fail;refine(cK t a u (aP w p) (bm w p) _ _).mono ?_;rintro e w2 ⟨rfl,b⟩;have k:=n.kept b (by simp);have m:=o.kept b (by simp);have d:=b.get D (by simp);have c:=l.trans (b.mono (by simp));clear q s x A B C n o D l b;obtain⟨q,s,x,A,B,C⟩:=k.cells;go_wp2_with fail;refine(uA t _ (by omega)).mono ?_;rintro e w3 ⟨rfl,rfl⟩;go_wp2_with fail;refine(vv f z a w _ hd G.2.1 m).mono ?_;rintro e w4 ⟨rfl,h4,J⟩;have F:=k.kept J (by simp;omega);have ad:=J.get d (by simp;omega);have Y:=c.trans J;have yy:=am F;have ai:=ae F;clear q s x A B C;obtain⟨q,s,x,A,B,C⟩:=F.cells;simp only[fg];go_wp2
     go_roundg (w.size-z)
     case measure=>have:=G.2.2 H;omega
     case rel=>exact⟨z,G.2.1,rfl,hs.out.trans E.out,gQ h4 (by omega) _ _ _ _ _ _,pJ F _,uj ad (by omega) _ _ _ _ _ _,iu Y (by omega) _ _ _ _ _ _⟩
    ·have E:Hid (aW w j=(⟨⟨#[]⟩,2,false,p⟩,z)):=R.out H hx hy
     clear Q R S U V;go_wp2_with fail;refine(cK t a u (aP w p) (bm w p) _ _).mono ?_;rintro e w2 ⟨rfl,b⟩;have k:=n.kept b (by simp);have m:=o.kept b (by simp);have d:=b.get D (by simp);have c:=l.trans (b.mono (by simp));clear q s x A B C n o D l b;obtain⟨q,s,x,A,B,C⟩:=k.cells;go_wp2_with fail;refine(uA t _ (by omega)).mono ?_;rintro e w3 ⟨rfl,rfl⟩;obtain⟨K,L,M,N,O,P⟩:=hU d;have y:=am d;go_wp2
     exact QY (v:=fg a w ⟨⟨#[]⟩,2,false,p⟩) (by simp[results,results204,go_sem,fg,K,L,M,N,O,P]) rfl
      (by rw[hs.out,E.out];exact⟨rfl,gQ m (by omega) _ _ _ _ _ _,iu c (QR _) _ _ _ _ _ _⟩)
   ·have E:Hid (aW w j=(⟨t,u,W,p⟩,z)):=V.out H hx
    clear Q R S U V;have I:W=false:=by cases W;rfl;simp at H
    subst I;have ag:(u==0)=true:=by simpa using H
    go_wp2_with fail;refine(cK t a u (aP w p) (bm w p) _ _).mono ?_;rintro e w2 ⟨rfl,b⟩;have k:=n.kept b (by simp);have m:=o.kept b (by simp);have d:=b.get D (by simp);have c:=l.trans (b.mono (by simp));clear q s x A B C n o D l b;obtain⟨q,s,x,A,B,C⟩:=k.cells;obtain⟨K,L,M,N,O,P⟩:=hU d;have y:=am d;go_wp2
    exact QY (v:=fg a w ⟨t,u,false,p⟩) (by simp[results,results204,go_sem,fg,K,L,M,N,O,P]) rfl
     (by rw[hs.out,E.out];exact⟨rfl,gQ m (by omega) _ _ _ _ _ _,iu c (QR _) _ _ _ _ _ _⟩)
theorem sV(hd:w.size<=1024)(hk:T<=w.size)(h:bV i f a w T) :
  Calls prog 155 #[.pointer (some ⟨f,0,none⟩)] i fun e w'=>e=.returned (fg a w (ay w T).1)/\bV w' f a w (ay w T).2/\ab [f] i w':=by
 have a6:=ae h;go_enter func155,ntmps155;go_wp2_with fail;refine(vv f T a w _ hd hk (by exact h.kept ((ab.refl [] _).alloc _) (by simp))).mono ?_;rintro e w1 ⟨rfl,h1,af⟩;have ai:w1.heap[i.heap.size]?=some (.cells l4 255 (0,0)):=af.get (QS _ _) (by simp;omega);have az:ab [f] i w1:=((ab.refl _ _).alloc _).trans af;have a4:=ae h1;have a2:=ae ai;simp only[fg];go_wp2
 go_loopg [4] (w.size-T) (fun g _ wr=>∃j,j<=w.size/\g=w.size-j/\Hid (ay w T=ay w j)/\bV wr f a w (bC w j).2/\jx wr w1.heap.size a w (bC w j).1/\wr.heap[i.heap.size]?=some (.cells l4 255 (0,0))/\ab [f] i wr)
 case atStart=>exact⟨T,hk,rfl,rfl,h1.kept ((ab.refl [] _).alloc _) (by simp),QS _ _,((ab.refl [] _).alloc _).get ai (by simp),az.alloc _⟩
 case round =>
  obtain⟨j,hj,hg,hs,L,C,Q,q⟩:=hrel;have E:=gq w j hj;have aT:=qx w j hd;have L1:Hid (_->_->_->ay w j=_):=Gx w j hj;have L2:Hid (_->_->_->ay w j=_):=uM w j;have L3:Hid (_->ay w j=_):=rG w j;generalize hrr:bC w j=r at *;obtain⟨⟨t,u,ac,p⟩,z⟩:=r;have HR:Hid (bC w j=(⟨t,u,ac,p⟩,z)):=hrr;clear hrr;simp only at L C E aT;obtain⟨F,G,H,I,J,K⟩:=C.cells;have a3:=ae Q;have a5:=ae L;have a1:=ae C
  cases hw:(u==0 && !ac)
  ·have S:Hid (ay w j=(⟨t,u,ac,p⟩,z)):=L3.out (Q1 hw)
   clear L1 L2 L3;go_wp2_with fail;refine(cK t a u (aP w p) (bm w p) _ _).mono ?_;rintro e w2 ⟨rfl,b⟩;have l:=C.kept b (by simp);have n:=L.kept b (by simp);have m:=b.get Q (by simp);have d:=q.trans (b.mono (by simp));clear F G H I J K C L Q q b;obtain⟨F,G,H,I,J,K⟩:=l.cells;obtain⟨z0,z1,z2,z3,z4,z5⟩:=hU m;have y:=am m;go_wp2
   exact QY (v:=fg a w ⟨t,u,ac,p⟩) (by simp[results,results155,go_sem,fg,z0,z1,z2,z3,z4,z5]) rfl
    (by rw[hs.out,S.out];exact⟨rfl,gQ n (by omega) _ _ _ _ _ _,iu d (QR _) _ _ _ _ _ _⟩)
  ·cases hx:(t.toList == [36,40])
   ·have S:Hid (ay w j=(⟨t,u,ac,p⟩,z)):=L3.out (QV hx)
    clear L1 L2 L3;go_wp2_with fail;refine(cK t a u (aP w p) (bm w p) _ _).mono ?_;rintro e w2 ⟨rfl,b⟩;have l:=C.kept b (by simp);have n:=L.kept b (by simp);have m:=b.get Q (by simp);have d:=q.trans (b.mono (by simp));clear F G H I J K C L Q q b;obtain⟨F,G,H,I,J,K⟩:=l.cells;obtain⟨z0,z1,z2,z3,z4,z5⟩:=hU m;have y:=am m;go_wp2
    exact QY (v:=fg a w ⟨t,u,ac,p⟩) (by simp[results,results155,go_sem,fg,z0,z1,z2,z3,z4,z5]) rfl
     (by rw[hs.out,S.out];exact⟨rfl,gQ n (by omega) _ _ _ _ _ _,iu d (QR _) _ _ _ _ _ _⟩)
   ·have W:=i9 w z E.2.1
    have L4:Hid (_->ay w j=ay w _):=fun h=>L1.out hw hx h
    have L5:Hid (_->ay w j=_):=fun h=>L2.out hw hx h
    clear L1 L2 L3;generalize hcc:aW w z=c at *;obtain⟨⟨U,R,Z,M⟩,cz⟩:=c;have HC:Hid (aW w z=(⟨U,R,Z,M⟩,cz)):=hcc;clear hcc;simp only at W
    cases ad:(R==0 && !Z)
    ·have S:Hid (ay w j=(⟨U,R,Z,M⟩,cz)):=L5.out ad
     clear L4 L5;go_wp2_with fail;refine(cK t a u (aP w p) (bm w p) _ _).mono ?_;rintro e w2 ⟨rfl,b⟩;have l:=C.kept b (by simp);have n:=L.kept b (by simp);have m:=b.get Q (by simp);have d:=q.trans (b.mono (by simp));clear F G H I J K C L Q q b;obtain⟨F,G,H,I,J,K⟩:=l.cells;go_wp2_with fail;refine(uD f z a w _ hd E.2.1 n).mono ?_;rintro e w3 ⟨rfl,V,o⟩;have x:=l.kept o (by simp;omega);have A:=o.get m (by simp;omega);have s:=d.trans o;have ar:=ae V;have al:=ae x;have ao:=ae A;simp only[fg];rw[HC.out];simp only;go_wp2_with fail;refine(cK U a R (aP w M) (bm w M) _ _).mono ?_;rintro e w4 ⟨rfl,k⟩;have Y:jx w4 w3.heap.size a w ⟨U,R,Z,M⟩:=k.get (QS _ _) (by simp);have O:=(x.kept ((ab.refl [] _).alloc _) (by simp)).kept k (by simp);have N:=(V.kept ((ab.refl [] _).alloc _) (by simp)).kept k (by simp);have B:=k.get (((ab.refl [] _).alloc _).get A (by simp)) (by simp);have D:=(s.alloc _).trans (k.mono (by simp));rw[HC.out]at N;simp only at N;have ax:=ae N;have an:=ae O;have ap:=ae B;clear F G H I J K l m d k x A s o V n;obtain⟨p0,p1,p2,p3,p4,p5⟩:=Y.cells;obtain⟨z0,z1,z2,z3,z4,z5⟩:=hU B;have y:=am B;go_wp2
     exact QY (v:=fg a w ⟨U,R,Z,M⟩) (by simp[results,results155,go_sem,fg,z0,z1,z2,z3,z4,z5]) rfl
      (by rw[hs.out,S.out];exact⟨rfl,gQ N (by omega) _ _ _ _ _ _,iu D (QR _) _ _ _ _ _ _⟩)
    ·have S:Hid (ay w j=ay w cz):=L4.out ad
     clear L4 L5;go_wp2_with fail;refine(cK t a u (aP w p) (bm w p) _ _).mono ?_;rintro e w2 ⟨rfl,b⟩;have l:=C.kept b (by simp);have n:=L.kept b (by simp);have m:=b.get Q (by simp);have d:=q.trans (b.mono (by simp));clear F G H I J K C L Q q b;obtain⟨F,G,H,I,J,K⟩:=l.cells;go_wp2_with fail;refine(uD f z a w _ hd E.2.1 n).mono ?_;rintro e w3 ⟨rfl,V,o⟩;have x:=l.kept o (by simp;omega);have A:=o.get m (by simp;omega);have s:=d.trans o;have ar:=ae V;have al:=ae x;have ao:=ae A;simp only[fg];rw[HC.out];simp only;go_wp2_with fail;refine(cK U a R (aP w M) (bm w M) _ _).mono ?_;rintro e w4 ⟨rfl,k⟩;have Y:jx w4 w3.heap.size a w ⟨U,R,Z,M⟩:=k.get (QS _ _) (by simp);have O:=(x.kept ((ab.refl [] _).alloc _) (by simp)).kept k (by simp);have N:=(V.kept ((ab.refl [] _).alloc _) (by simp)).kept k (by simp);have B:=k.get (((ab.refl [] _).alloc _).get A (by simp)) (by simp);have D:=(s.alloc _).trans (k.mono (by simp));rw[HC.out]at N;simp only at N;have ax:=ae N;have an:=ae O;have ap:=ae B;clear F G H I J K l m d k x A s o V n;obtain⟨p0,p1,p2,p3,p4,p5⟩:=Y.cells;go_wp2_with fail;refine(vv f cz a w _ hd W.2 N).mono ?_;rintro e w5 ⟨rfl,h5,X⟩;have P:=O.kept X (by simp;omega);have aS:=X.get B (by simp;omega);have ag:=D.trans X;have yy:=am P;have a0:=ae P;obtain⟨F,G,H,I,J,K⟩:=P.cells;simp only[fg];go_wp2
     go_roundg (w.size-cz)
     case measure=>have:=E.2.2 hw;omega
     case rel=>exact⟨cz,W.2,rfl,hs.out.trans S.out,gQ h5 (by omega) _ _ _ _ _ _,pJ P _,uj aS (by omega) _ _ _ _ _ _,iu ag (by omega) _ _ _ _ _ _⟩
structure Pl where
  file:ByteArray
  line:Int
  col:Int
structure St where
  kind:Int
  label:ByteArray
  U6:List ByteArray
  Vh:List (ByteArray×Pl)
  fin:Pl
  til:Nat
structure Db where
  Ve:List ByteArray
  U8:List ByteArray
  U9:List ByteArray
  Vf:List ByteArray
  Vi:List ByteArray
  blocks:List (Nat×Nat)
  Vn:List St
  rbl:List Nat
  kind:Int
  label:ByteArray
  U6:List ByteArray
  Va:Bool
  Vh:List (ByteArray×Pl)
def cN(l:List ByteArray):List Value:=l.map Value.string
def pairs(l:List (Nat×Nat)):List Value:=l.flatMap (fun p=>[.int .i64 p.1,.int .i64 p.2])
def jX(l:List Nat):List Value:=l.map (fun(n:Nat)=>.int .i64 n)
def qZ(p:ByteArray×Pl):List Value:=[.string p.1,.string p.2.file,.int .i64 p.2.line,.int .i64 p.2.col]
def nD(l:List (ByteArray×Pl)):List Value:=l.flatMap qZ
def JO(s:St)(a b:Hd):List Value :=
  [.int .i64 s.kind,.string s.label,.slice a.ao s.U6.length a.cap,.slice b.ao s.Vh.length b.cap,.string s.fin.file,.int .i64 s.fin.line,.int .i64 s.fin.col,.int .i64 s.til]
def mo(l:List St)(H:Nat->Hd):List Value:=l.zipIdx.flatMap (fun p=>JO p.1 (H (10+2*p.2)) (H (11+2*p.2)))
def aB(l:List ByteArray):dN:=⟨9,1,l.length,cN l⟩
def nZ(l:List (Nat×Nat)):dN:=⟨337,2,l.length,pairs l⟩
def bB(l:List Nat):dN:=⟨3,1,l.length,jX l⟩
def gN(l:List (ByteArray×Pl)):dN:=⟨229,4,l.length,nD l⟩
def iE(l:List St)(H:Nat->Hd):dN:=⟨158,8,l.length,mo l H⟩
def symsAt(l:List St)(i:Nat):List ByteArray:=match l[i]? with | some s=>s.U6 | none=>[]
def ti(l:List St)(i:Nat):List (ByteArray×Pl):=match l[i]? with | some s=>s.Vh | none=>[]
def inner(l:List St)(n:Nat):dN:=if n % 2=0 then aB (symsAt l (n / 2)) else gN (ti l (n / 2))
def aU(d:Db)(H:Nat->Hd):Nat->dN
  | 0=>aB d.Ve
  | 1=>aB d.U8
  | 2=>aB d.U9
  | 3=>aB d.Vf
  | 4=>aB d.Vi
  | 5=>nZ d.blocks
  | 6=>iE d.Vn H
  | 7=>bB d.rbl
  | 8=>aB d.U6
  | 9=>gN d.Vh
  | n+10=>inner d.Vn n
def b9(d:Db)(H:Nat->Hd):List Value :=
  [.slice (H 0).ao d.Ve.length (H 0).cap,.slice (H 1).ao d.U8.length (H 1).cap,.slice (H 2).ao d.U9.length (H 2).cap,.slice (H 3).ao d.Vf.length (H 3).cap,
   .slice (H 4).ao d.Vi.length (H 4).cap,.slice (H 5).ao d.blocks.length (H 5).cap,.slice (H 6).ao d.Vn.length (H 6).cap,.slice (H 7).ao d.rbl.length (H 7).cap,
   .int .i64 d.kind,.string d.label,.slice (H 8).ao d.U6.length (H 8).cap,.bool d.Va,.slice (H 9).ao d.Vh.length (H 9).cap]
def g9{α:Type}(H:Nat->α)(i:Nat)(h:α):Nat->α:=fun j=>if j=i then h else H j
theorem dh{α:Type}(H:Nat->α)(i:Nat)(h:α):g9 H i h i=h:=by simp[g9]
theorem bU{α:Type}(H:Nat->α)(i j:Nat)(h:α)(a:j≠i):g9 H i h j=H j:=by simp[g9,a]
theorem MP{α:Type}(H:Nat->α)(i:Nat):g9 H i (H i)=H:=by funext j;unfold g9;split <;> simp_all
theorem xl(l:List St)(H a:Nat->Hd)(h:∀j,10<=j->a j=H j):mo l a=mo l H:=by
  unfold mo;congr 1;funext p;rw[h _ (by omega),h _ (by omega)]
theorem Mo(d:Db)(H:Nat->Hd)(i:Nat)(h:Hd)(a:i<10)(j:Nat):aU d (g9 H i h) j=aU d H j:=by
  have e:mo d.Vn (g9 H i h)=mo d.Vn H:=xl _ _ _ (fun j b=>bU _ _ _ _ (by omega));unfold aU
  split <;> first | rfl | (simp only[iE,e])
def f9(H:Nat->Hd)(k:Nat):Prop:=∃i,(H i).blk=some k
structure eK(P:Nat->Prop)(w w':World):Prop where
  os:w'.os=w.os
  tape:w'.tape=w.tape
  output:w'.output=w.output
  size:w.heap.size<=w'.heap.size
  block:∀k,k<w.heap.size->¬P k->w'.heap[k]?=w.heap[k]?
theorem eK.refl(P:Nat->Prop)(w:World):eK P w w:=⟨rfl,rfl,rfl,QR _,fun _ _ _=>rfl⟩
theorem ab.toP(h:ab M n v){P:Nat->Prop}(b:∀k,k∈M->k<n.heap.size->P k):eK P n v :=
  ⟨h.os,h.tape,h.output,h.size,fun k a d=>h.block k a (fun c=>d (b k c a))⟩
theorem eK.get(h:eK y8 n v)(a:n.heap[H]?=some yu)(b:¬y8 H):v.heap[H]?=some yu:=(h.block H (ae a) b).trans a
theorem eK.Vb(h:eK y8 n v)(k:ab [] v yf):eK y8 n yf :=
  ⟨k.os.trans h.os,k.tape.trans h.tape,k.output.trans h.output,Q3 h.size k.size,fun i a b=>(k.block i (QX a h.size) (by simp)).trans (h.block i a b)⟩
theorem eK.setCell(h:eK y8 n v){p:Addr}(a:y8 p.block∨n.heap.size<=p.block)(u:Value):eK y8 n (v.setCell p u) :=
  ⟨h.os,h.tape,h.output,by have:=h.size;simp[World.setCell];omega,fun k c b=>by
    rw[Q4 _ _ _ _ (by rintro rfl;exact a.elim b (fun a=>by omega))];exact h.block k c b⟩
structure aR(w:World)(b t:Nat)(pre post:List Value)(d:Db)(H:Nat->Hd):Prop where
  blk:w.heap[b]?=some (.cells (pre++(b9 d H++post)).toArray t (0,0))
  own:∀i,aw w (H i) (aU d H i)
  apart:∀i j,i≠j->(H i).blk=none∨(H i).blk≠(H j).blk
  off:∀i,(H i).blk≠some b
theorem aR.lt{d:Db}(h:aR n H y k o d l):H<n.heap.size:=ae h.blk
theorem aR.free{d:Db}(h:aR n H y k o d l)(i:Nat):n.frozen? ⟨H,i,none⟩=false:=am h.blk i
theorem aR.inlt{d:Db}(h:aR n H y k o d l)(b:f9 l D):D<n.heap.size:=by
  obtain⟨i,a⟩:=b;exact(h.own i).lt a
theorem aR.keptP{d:Db}(h:aR n H y k o d l)(c:eK y8 n v)(e:¬y8 H)(f:∀b,f9 l b->¬y8 b):aR v H y k o d l :=
  ⟨c.get h.blk e,fun i=>(h.own i).Vg (fun b a=>c.block b ((h.own i).lt a) (f b ⟨i,a⟩)),h.apart,h.off⟩
theorem aR.kept{d:Db}(h:aR n H y k o d l)(c:ab M n v)(b:H∉M)(f:∀a,f9 l a->a∉M):aR v H y k o d l :=
  h.keptP (c.toP (P:=(·∈M)) (fun _ e _=>e)) b f
theorem aR.Vb{d:Db}(h:aR n H y k o d l)(a:ab [] n v):aR v H y k o d l:=h.kept a (by simp) (by simp)
theorem Am(c:yd.length=T)(a:b<yr.length):(yd++(yr++yv)).toArray[T+b]?=yr[b]?:=by
  subst c;simp[List.getElem?_append_right,List.getElem?_append_left a]
theorem Gw(u:Value)(c:yd.length=T)(a:b<yr.length):(yd++(yr++yv)).set (T+b) u=yd++(yr.set b u++yv):=by
  subst c;rw[SS _ _ (by omega),show yd.length+b-yd.length=b by omega,TM _ _ a]
theorem aR.cellAt{d:Db}(h:aR n H y k o d l)(a:Nat)(c:k.length=a)(i:Nat)(b:i<13):n.cell? ⟨H,a+i,none⟩=(b9 d l)[i]? :=
  (aa h.blk (a+i)).trans (Am k (b9 d l) o a i c b)
theorem aR.cells{d:Db}(h:aR n H y k o d l)(a:Nat)(b:k.length=a) :
    n.cell? ⟨H,a,none⟩=some (.slice (l 0).ao d.Ve.length (l 0).cap)/\n.cell? ⟨H,a+1,none⟩=some (.slice (l 1).ao d.U8.length (l 1).cap) /\
    n.cell? ⟨H,a+2,none⟩=some (.slice (l 2).ao d.U9.length (l 2).cap)/\n.cell? ⟨H,a+3,none⟩=some (.slice (l 3).ao d.Vf.length (l 3).cap) /\
    n.cell? ⟨H,a+4,none⟩=some (.slice (l 4).ao d.Vi.length (l 4).cap)/\n.cell? ⟨H,a+5,none⟩=some (.slice (l 5).ao d.blocks.length (l 5).cap) /\
    n.cell? ⟨H,a+6,none⟩=some (.slice (l 6).ao d.Vn.length (l 6).cap)/\n.cell? ⟨H,a+7,none⟩=some (.slice (l 7).ao d.rbl.length (l 7).cap) /\
    n.cell? ⟨H,a+8,none⟩=some (.int .i64 d.kind)/\n.cell? ⟨H,a+9,none⟩=some (.string d.label)/\n.cell? ⟨H,a+10,none⟩=some (.slice (l 8).ao d.U6.length (l 8).cap) /\
    n.cell? ⟨H,a+11,none⟩=some (.bool d.Va)/\n.cell? ⟨H,a+12,none⟩=some (.slice (l 9).ao d.Vh.length (l 9).cap):=by
  have m:=h.cellAt a b;exact⟨m 0 (by omega),m 1 (by omega),m 2 (by omega),m 3 (by omega),m 4 (by omega),m 5 (by omega),m 6 (by omega),m 7 (by omega),m 8 (by omega),m 9 (by omega),m 10 (by omega),m 11 (by omega),m 12 (by omega)⟩
def aA(b:Nat)(w:World)(H:Nat->Hd)(w':World)(H':Nat->Hd):Prop :=
  eK (fun k=>k=b∨f9 H k) w w'/\∀k,f9 H' k->f9 H k∨w.heap.size<=k
theorem aA.refl(H:Nat->Hd):aA T i H i H:=⟨eK.refl _ _,fun _ a=>Q1 a⟩
theorem aA.trans{w1:World}{f:Nat->Hd}(a:aA H n l w1 N)(c:aA H w1 N v f):aA H n l v f:=by
  refine⟨⟨c.1.os.trans a.1.os,c.1.tape.trans a.1.tape,c.1.output.trans a.1.output,Q3 a.1.size c.1.size,?_⟩,?_⟩
  · intro k b d
    rw[<-a.1.block k b d];refine c.1.block k (QX b a.1.size) ?_;rintro (e | g)
    · exact d (Q1 e)
    · rcases a.2 k g with h | h
      · exact d (QV h)
      · omega
  · intro k b
    rcases c.2 k b with h | h
    · exact a.2 k h
    · exact QV (Q3 a.1.size h)
theorem aA.Vb(a:aA H n l v N)(c:ab [] v yf):aA H n l yf N :=
  a.trans ⟨c.toP (by simp),fun _ b=>Q1 b⟩
theorem aA.first(c:ab [] n v)(a:aA H v l yf N):aA H n l yf N :=
  aA.trans ⟨c.toP (by simp),fun _ b=>Q1 b⟩ a
theorem aR.putG{d d':Db}(h:aR n H y k o d l)(C c:Nat)(M:k.length=C)(i:Nat)(K:i<10)(f:Hd)(N:aw v f (aU d' l i))(t:n.grownBy v (l i).blk)(b:f.blk=none∨f.blk=(l i).blk∨∃g,f.blk=some g/\n.heap.size<=g)(A:∀j,j≠i->aw n (l j) (aU d' l j))(u:Value)(J:c<13)(L:(b9 d l).set c u=b9 d' (g9 l i f)) :
    aR (v.setCell ⟨H,C+c,none⟩ u) H y k o d' (g9 l i f)/\aA H n l (v.setCell ⟨H,C+c,none⟩ u) (g9 l i f):=by
  have I:=h.lt;have D:v.heap[H]?=some (.cells (k++(b9 d l++o)).toArray y (0,0)):=(t.block H I (fun e=>h.off i e.symm)).trans h.blk
  have s:∀j,(g9 l i f j).blk≠some H:=by
    intro j
    by_cases e:j=i
    · subst e;rw[dh];intro w
      rcases b with b | b | ⟨g,b,p⟩
      · rw[b]at w;cases w
      · exact h.off j (b ▸ w)
      · rw[b]at w;cases w;omega
    · rw[bU _ _ _ _ e];exact h.off j
  refine⟨⟨?_,?_,?_,s⟩,⟨t.os,t.tape,t.output,by have:=t.size;simp[World.setCell];omega,?_⟩,?_⟩
  · rw[ah D,Ru,Gw k (b9 d l) o C c u M J,L]
  · intro j
    have q:aw v (g9 l i f j) (aU d' (g9 l i f) j):=by
      rw[Mo d' l i f K j]
      by_cases e:j=i
      · subst e;rw[dh];exact N
      · rw[bU _ _ _ _ e]
        refine(A j e).Vg (fun x m=>t.block x ((h.own j).lt m) ?_);intro z
        rcases h.apart j i e with a | a
        · rw[a]at m;cases m
        · exact a (m.trans z)
    refine q.Vg (fun x m=>Q4 _ _ _ _ ?_);rintro rfl;exact s j m
  · intro j B r
    by_cases e:j=i
    · subst e
      rw[dh,bU _ _ _ _ (fun e=>r e.symm)]
      rcases b with b | b | ⟨g,b,p⟩
      · exact Q1 b
      · rw[b];exact h.apart j B r
      · right;rw[b];intro z;have:=(h.own B).lt z.symm;omega
    · rw[bU _ _ _ _ e]
      by_cases E:B=i
      · subst E
        rw[dh]
        rcases b with b | b | ⟨g,b,p⟩
        · rw[b];cases (l j).blk <;> simp
        · rw[b];exact h.apart j B r
        · cases w:(l j).blk with
          | none=>exact Q1 rfl
          | some x=>right;rw[b];intro z;cases z;have:=(h.own j).lt w;omega
      · rw[bU _ _ _ _ E];exact h.apart j B r
  · intro x m G
    rw[Q4 _ _ _ _ (fun e=>G (Q1 e))];exact t.block x m (fun e=>G (QV ⟨i,e.symm⟩))
  · intro x m
    obtain⟨j,e⟩:=m
    by_cases F:j=i
    · subst F
      rw[dh]at e
      rcases b with b | b | ⟨g,b,p⟩
      · rw[b]at e;cases e
      · exact Q1 ⟨j,b ▸ e⟩
      · rw[b]at e;cases e;exact QV p
    · rw[bU _ _ _ _ F]at e
      exact Q1 ⟨j,e⟩
theorem aR.put{d d':Db}(h:aR n H y k o d l)(e c:Nat)(t:k.length=e)(i:Nat)(q:i<10)(a:Hd)(w:aw v a (aU d' l i))(p:n.grownBy v (l i).blk)(m:a.blk=none∨a.blk=(l i).blk∨∃g,a.blk=some g/\n.heap.size<=g)(b:∀j,j≠i->aU d' l j=aU d l j)(u:Value)(f:c<13)(s:(b9 d l).set c u=b9 d' (g9 l i a)) :
    aR (v.setCell ⟨H,e+c,none⟩ u) H y k o d' (g9 l i a)/\aA H n l (v.setCell ⟨H,e+c,none⟩ u) (g9 l i a) :=
  h.putG e c t i q a w p m (fun j r=>by rw[b j r];exact h.own j) u f s
theorem aR.set{d d':Db}(h:aR n H y k o d l)(b c:Nat)(i:k.length=b)(a:∀j,aU d' l j=aU d l j)(u:Value)(f:c<13)(g:(b9 d l).set c u=b9 d' l) :
    aR (n.setCell ⟨H,b+c,none⟩ u) H y k o d' l/\aA H n l (n.setCell ⟨H,b+c,none⟩ u) l:=by
  refine⟨⟨?_,?_,h.apart,h.off⟩,(eK.refl _ _).setCell (Q1 (Q1 rfl)) _,fun _ e=>Q1 e⟩
  · rw[ah h.blk,Ru,Gw k (b9 d l) o b c u i f,g]
  · intro j
    rw[a j];refine(h.own j).Vg (fun m e=>Q4 _ _ _ _ ?_);rintro rfl;exact h.off j e
theorem aR.app{d d':Db}(h:aR n H y k o d l)(f c:Nat)(w:k.length=f)(i:Nat)(z:i<10)(g a m:Nat)(r:dN)(s:aw v ⟨some ⟨g,0,none⟩,a⟩ r)(B:r=aU d' l i)(p:n.grownBy v (l i).blk)(b:(l i).blk=some g∨n.heap.size<=g)(q:∀j,j≠i->aU d' l j=aU d l j)(t:c<13)(x:Value)(C:(b9 d l)[c]?=some x)(A:(b9 d l).set c (.slice (some ⟨g,0,none⟩) m a)=b9 d' (g9 l i ⟨some ⟨g,0,none⟩,a⟩)) :
    v.cell? ⟨H,f+c,none⟩=some x/\v.frozen? ⟨H,f+c,none⟩=false /\
    Hid (aR (v.setCell ⟨H,f+c,none⟩ (.slice (some ⟨g,0,none⟩) m a)) H y k o d' (g9 l i ⟨some ⟨g,0,none⟩,a⟩) /\
      aA H n l (v.setCell ⟨H,f+c,none⟩ (.slice (some ⟨g,0,none⟩) m a)) (g9 l i ⟨some ⟨g,0,none⟩,a⟩)):=by
  have u:=(p.block H h.lt (fun e=>h.off i e.symm)).trans h.blk;subst B;refine⟨((aa u (f+c)).trans (Am k (b9 d l) o f c w t)).trans C,am u _,?_⟩
  exact h.put (d':=d') f c w i z ⟨some ⟨g,0,none⟩,a⟩ s p
    (by rcases b with e | e
        · exact QV (Q1 e.symm)
        · exact QV (QV ⟨g,rfl,by simpa using e⟩)) q _ t A
theorem CU(d:Db)(H:Nat->Hd)(l:List ByteArray):∀j,j≠0->aU { d with Ve:=l } H j=aU d H j:=by
  intro j a
  match j with
  | 0=>exact absurd rfl a
  | 1=>rfl
  | 2=>rfl
  | 3=>rfl
  | 4=>rfl
  | 5=>rfl
  | 6=>rfl
  | 7=>rfl
  | 8=>rfl
  | 9=>rfl
  | n+10=>rfl
theorem wY(d:Db)(H:Nat->Hd)(l:List ByteArray):∀j,j≠1->aU { d with U8:=l } H j=aU d H j:=by
  intro j a
  match j with
  | 0=>rfl
  | 1=>exact absurd rfl a
  | 2=>rfl
  | 3=>rfl
  | 4=>rfl
  | 5=>rfl
  | 6=>rfl
  | 7=>rfl
  | 8=>rfl
  | 9=>rfl
  | n+10=>rfl
theorem xb(d:Db)(H:Nat->Hd)(l:List ByteArray):∀j,j≠2->aU { d with U9:=l } H j=aU d H j:=by
  intro j a
  match j with
  | 0=>rfl
  | 1=>rfl
  | 2=>exact absurd rfl a
  | 3=>rfl
  | 4=>rfl
  | 5=>rfl
  | 6=>rfl
  | 7=>rfl
  | 8=>rfl
  | 9=>rfl
  | n+10=>rfl
theorem uP(d:Db)(H:Nat->Hd)(l:List ByteArray):∀j,j≠3->aU { d with Vf:=l } H j=aU d H j:=by
  intro j a
  match j with
  | 0=>rfl
  | 1=>rfl
  | 2=>rfl
  | 3=>exact absurd rfl a
  | 4=>rfl
  | 5=>rfl
  | 6=>rfl
  | 7=>rfl
  | 8=>rfl
  | 9=>rfl
  | n+10=>rfl
theorem xa(d:Db)(H:Nat->Hd)(l:List ByteArray):∀j,j≠4->aU { d with Vi:=l } H j=aU d H j:=by
  intro j a
  match j with
  | 0=>rfl
  | 1=>rfl
  | 2=>rfl
  | 3=>rfl
  | 4=>exact absurd rfl a
  | 5=>rfl
  | 6=>rfl
  | 7=>rfl
  | 8=>rfl
  | 9=>rfl
  | n+10=>rfl
theorem uQ(d:Db)(H:Nat->Hd)(l:List (Nat×Nat)):∀j,j≠5->aU { d with blocks:=l } H j=aU d H j:=by
  intro j b
  match j with
  | 0=>rfl
  | 1=>rfl
  | 2=>rfl
  | 3=>rfl
  | 4=>rfl
  | 5=>exact absurd rfl b
  | 6=>rfl
  | 7=>rfl
  | 8=>rfl
  | 9=>rfl
  | n+10=>rfl
theorem CV(d:Db)(H:Nat->Hd)(l:List Nat):∀j,j≠7->aU { d with rbl:=l } H j=aU d H j:=by
  intro j a
  match j with
  | 0=>rfl
  | 1=>rfl
  | 2=>rfl
  | 3=>rfl
  | 4=>rfl
  | 5=>rfl
  | 6=>rfl
  | 7=>exact absurd rfl a
  | 8=>rfl
  | 9=>rfl
  | n+10=>rfl
theorem tq(d:Db)(H:Nat->Hd)(l:List ByteArray):∀j,j≠8->aU { d with U6:=l } H j=aU d H j:=by
  intro j a
  match j with
  | 0=>rfl
  | 1=>rfl
  | 2=>rfl
  | 3=>rfl
  | 4=>rfl
  | 5=>rfl
  | 6=>rfl
  | 7=>rfl
  | 8=>exact absurd rfl a
  | 9=>rfl
  | n+10=>rfl
theorem wZ(d:Db)(H:Nat->Hd)(l:List (ByteArray×Pl)):∀j,j≠9->aU { d with Vh:=l } H j=aU d H j:=by
  intro j a
  match j with
  | 0=>rfl
  | 1=>rfl
  | 2=>rfl
  | 3=>rfl
  | 4=>rfl
  | 5=>rfl
  | 6=>rfl
  | 7=>rfl
  | 8=>rfl
  | 9=>exact absurd rfl a
  | n+10=>rfl
theorem JI(d:Db)(H:Nat->Hd)(l:Int):∀j,aU { d with kind:=l } H j=aU d H j:=by
  intro j
  match j with
  | 0=>rfl
  | 1=>rfl
  | 2=>rfl
  | 3=>rfl
  | 4=>rfl
  | 5=>rfl
  | 6=>rfl
  | 7=>rfl
  | 8=>rfl
  | 9=>rfl
  | n+10=>rfl
theorem E8(d:Db)(H:Nat->Hd)(l:ByteArray):∀j,aU { d with label:=l } H j=aU d H j:=by
  intro j
  match j with
  | 0=>rfl
  | 1=>rfl
  | 2=>rfl
  | 3=>rfl
  | 4=>rfl
  | 5=>rfl
  | 6=>rfl
  | 7=>rfl
  | 8=>rfl
  | 9=>rfl
  | n+10=>rfl
theorem Ay(d:Db)(H:Nat->Hd)(l:Bool):∀j,aU { d with Va:=l } H j=aU d H j:=by
  intro j
  match j with
  | 0=>rfl
  | 1=>rfl
  | 2=>rfl
  | 3=>rfl
  | 4=>rfl
  | 5=>rfl
  | 6=>rfl
  | 7=>rfl
  | 8=>rfl
  | 9=>rfl
  | n+10=>rfl
def aJ(l:List ByteArray)(x:ByteArray):Bool:=l.any (fun y=>y.toList==x.toList)
theorem Gn(h:b<x.length)(c:aJ x w=aJ (x.drop b) w)(a:((x[b]).toList==w.toList)=true):aJ x w=true:=by
 rw[c,Rf h];simp only[aJ,List.any_cons,a,Bool.true_or]
theorem BU(h:b<x.length)(c:aJ x w=aJ (x.drop b) w)(a:((x[b]).toList==w.toList)=false):aJ x w=aJ (x.drop (b+1)) w:=by
 rw[c,Rf h];simp only[aJ,List.any_cons,a,Bool.false_or]
theorem BZ(h:¬b<x.length)(a:aJ x w=aJ (x.drop b) w):aJ x w=false:=by
 rw[a,R8 (by omega)];rfl
theorem tC(h:b<x.length):(cN x)[b]?=some (.string x[b]):=by simp[cN,h]
set_option maxRecDepth 512
theorem eN(b:aw i L (aB x))(r:x.length<=1073741824) :
  Calls prog 253 #[.slice L.ao x.length L.cap,.string w] i fun e t=>e=.returned (.bool (aJ x w))/\t=i:=by
 obtain⟨u,o⟩:=L
 rcases b.Vm with ⟨h,m,_⟩ | ⟨g,p,l,_⟩
 ·have f:x.length=0:=m
  have j:x=[]:=Rk f;subst j
  injection h with h q
  subst h;clear b m f r q;go_enter func253,ntmps253;go_wp2;refine SZ 1 ?_;rw[Tr];go_wp2;go_ret;exact⟨rfl,rfl⟩
 ·simp only at l
  subst l;go_enter func253,ntmps253;go_wp2
  go_loopg [5] x.length (fun g s wr=>∃k:Nat,k<=x.length/\g=x.length-k/\s=.int .i64 k/\Hid (aJ x w=aJ (x.drop k) w)/\wr=i)
  case atStart=>exact⟨0,by omega,by omega,rfl,rfl,rfl⟩
  case round =>
   obtain⟨k,z,y,rfl,c,rfl⟩:=hrel
   by_cases a:k<x.length
   ·have v:=b.cell rfl k (.string x[k]) (tC x k a)
    cases n:((x[k]).toList==w.toList)
    ·have d:Hid (aJ x w=aJ (x.drop (k+1)) w):=BU x w k a c.out n
     clear c b;go_wp2
     go_roundg (x.length-(k+1))
     case measure=>omega
     case rel=>exact⟨k+1,by omega,rfl,by go_num,d,rfl⟩
    ·have d:Hid (aJ x w=true):=Gn x w k a c.out n
     clear c b;go_wp2;go_ret;exact⟨aD d.out.symm,rfl⟩
   ·have d:Hid (aJ x w=false):=BZ x w k a c.out
    clear c b;go_wp2;go_ret;exact⟨aD d.out.symm,rfl⟩
theorem js:(prog.info? 9).map (fun i=>(i.zero,i.size,i.bytes))=some (some (.string ⟨#[]⟩),1,16):=by kernel_rfl
theorem JY:cN (x++[w])=cN x++[.string w]:=by simp[cN]
theorem dr:(⟨(aB x).e,(aB x).size,(aB x).n+1,(aB x).xs++[.string w]⟩:dN)=aB (x++[w]):=by
 simp[aB,JY]
set_option maxRecDepth 100000
theorem zA(i:Db)(H:Nat->Hd)(x:ByteArray)(w:World)(h:aR w f T S d i H)(C:S.length=b)(Y:i.Ve.length<=1073741824) :
  Calls prog 264 #[.pointer (some ⟨f,b,none⟩),.string x] w fun e E=>e=.returned (.tuple #[])/\∃B,aR E f T S d { i with Ve:=i.Ve++[x] } B/\aA f w H E B:=by
 obtain⟨K,J,s,t,v⟩:=Re js;obtain⟨M,N,O,P,Q,R,U,V,W,X,y,z,A⟩:=h.cells b C;have r:=h.free;have I:=h.lt;have q:=h.Vb ((ab.refl [] w).alloc (.cells #[.string x] 9));have c:=q.own 0;go_enter func264,ntmps264;go_wp2_with (at_builtin;refine aM _ rfl (.tmp 8) (.tmp 10) 61 rfl K (.string ⟨#[]⟩) 16 (H 0) (aB i.Ve) underlying61 J s t v rfl Rc rfl c ⟨w.heap.size,0,none⟩ 1 1 [.string x] rfl rfl ?c1 ?c2 Rc ?c3 ?c4 ?_)
 case c1=>intro j u o;match j,o with | 0,o=>simp at o;subst o;simp[Addr.add]
 case c2=>intro u D;simp at D;subst D;rfl
 case c3=>simp only[aB];unfold maxLen;omega
 case c4=>simp only[aB];omega
 ·intro g k Z m l a
  obtain⟨L,G,p⟩:=q.app (d':={ i with Ve:=i.Ve++[x] }) b 0 C 0 (by omega) g k ((aB i.Ve).n+1) _ m (dr i.Ve x) l (by simpa using a) (CU i H _) (by omega) _ rfl (by simp[b9,g9,aB]);simp only[Nat.add_zero]at L G p;clear q c M N O P Q R U V W X y z A m l a r;go_wp2;go_end0;exact⟨rfl,_,p.out.1,p.out.2.first ((ab.refl [] w).alloc _)⟩
theorem zB(i:Db)(H:Nat->Hd)(x:ByteArray)(w:World)(h:aR w f T S d i H)(C:S.length=b)(X:i.Vi.length<=1073741824) :
  Calls prog 267 #[.pointer (some ⟨f,b,none⟩),.string x] w fun e E=>e=.returned (.tuple #[])/\∃A,aR E f T S d { i with Vi:=i.Vi++[x] } A/\aA f w H E A:=by
 obtain⟨J,I,r,s,t⟩:=Re js;obtain⟨K,L,M,N,O,P,Q,R,U,V,v,y,z⟩:=h.cells b C;have q:=h.free;have G:=h.lt;have p:=h.Vb ((ab.refl [] w).alloc (.cells #[.string x] 9));have c:=p.own 4;go_enter func267,ntmps267;go_wp2_with (at_builtin;refine aM _ rfl (.tmp 8) (.tmp 10) 61 rfl J (.string ⟨#[]⟩) 16 (H 4) (aB i.Vi) underlying61 I r s t rfl Rc rfl c ⟨w.heap.size,0,none⟩ 1 1 [.string x] rfl rfl ?c1 ?c2 Rc ?c3 ?c4 ?_)
 case c1=>intro j u o;match j,o with | 0,o=>simp at o;subst o;simp[Addr.add]
 case c2=>intro u D;simp at D;subst D;rfl
 case c3=>simp only[aB];unfold maxLen;omega
 case c4=>simp only[aB];omega
 ·intro g k Z m l a
  obtain⟨Y,W,B⟩:=p.app (d':={ i with Vi:=i.Vi++[x] }) b 4 C 4 (by omega) g k ((aB i.Vi).n+1) _ m (dr i.Vi x) l (by simpa using a) (xa i H _) (by omega) _ rfl (by simp[b9,g9,aB])
  skip
  clear p c K L M N O P Q R U V v y z m l a q;go_wp2;go_end0;exact⟨rfl,_,B.out.1,B.out.2.first ((ab.refl [] w).alloc _)⟩
structure fK(d:Db)(N:Nat):Prop where
 Ve:d.Ve.length<=N
 U8:d.U8.length<=N
 U9:d.U9.length<=N
 Vf:d.Vf.length<=N
 Vi:d.Vi.length<=N
 blocks:d.blocks.length<=N
 Vn:d.Vn.length<=N
 rbl:d.rbl.length<=N
 U6:d.U6.length<=N
 Vh:d.Vh.length<=N
theorem qu:(⟨(aB I).e,(aB I).size,(aB I).n+x.length,(aB I).xs++cN x⟩:dN)=aB (I++x):=by
 simp[aB,cN]
theorem lY:∀u∈cN x,u.oneCell'=true:=by
 intro u a;simp only[cN,List.mem_map]at a;obtain⟨b,_,rfl⟩:=a;rfl
theorem tG(a:Db)(H:Nat->Hd)(w:World)(h:aR w f T S d a H)(E:S.length=b)(P:0<a.U6.length)(F:fK a 100000000) :
  Calls prog 265 #[.pointer (some ⟨f,b,none⟩),.slice (H 8).ao a.U6.length (H 8).cap] w fun e G=>e=.returned (.tuple #[])/\∃z,aR G f T S d { a with U8:=a.U8++a.U6 } z/\aA f w H G z:=by
 obtain⟨Q,L,r,s,t⟩:=Re js;obtain⟨R,U,V,W,X,Y,Z,q7,q8,q9,v,x,y⟩:=h.cells b E;have q:=h.free;have K:=h.lt;have i:=h.own 1;have l:aw w (H 8) (aB a.U6):=h.own 8;have N:=F.U8;have O:=F.U6
 rcases l.Vm with ⟨_,J,_⟩ | ⟨D,B,C,_⟩
 ·have:a.U6.length=0:=J
  omega
 ·rw[C]
  have k:Hid (∀j u,(cN a.U6)[j]?=some u->w.cell? ((⟨D,0,none⟩:Addr).add j)=some u):=fun j u M=>by rw[bL];exact l.cell C j u M
  clear l;go_enter func265,ntmps265;go_wp2_with (at_builtin;refine aM _ rfl (.tmp 8) (.tmp 9) 61 rfl Q (.string ⟨#[]⟩) 16 (H 1) (aB a.U8) underlying61 L r s t rfl Rc rfl i ⟨D,0,none⟩ a.U6.length (H 8).cap (cN a.U6) rfl ?c0 k.out (lY _) P ?c3 ?c4 ?_)
  case c0=>simp[cN,aB]
  case c3=>simp only[aB];unfold maxLen;omega
  case c4=>simp only[aB];omega
  ·intro g m w1 p o c
   obtain⟨k0,f0,A⟩:=h.app (d':={ a with U8:=a.U8++a.U6 }) b 1 E 1 (by omega) g m ((aB a.U8).n+a.U6.length) _ p (qu a.U8 a.U6) o c (wY a H _) (by omega) _ rfl (by simp[b9,g9,aB]);clear i R U V W X Y Z q7 q8 q9 v x y p o c q k;go_wp2;go_end0;exact⟨rfl,_,A.out.1,A.out.2⟩
def dR(v l:List ByteArray):List ByteArray:=l.foldl (fun v x=>if aJ v x=true then v else v++[x]) v
def dO(d:Db)(k:Nat):Db:={ d with Vf:=d.Vf++d.U6,U9:=dR d.U9 (d.U6.take k) }
theorem J5:dR I (x++[w])=if aJ (dR I x) w=true then dR I x else dR I x++[w]:=by
 unfold dR;rw[Sw];rfl
theorem Dl(v l:List ByteArray):(dR v l).length<=v.length+l.length:=by
 induction l generalizing v with
 | nil=>simp[dR]
 | cons x l a =>
  have:=a (if aJ v x=true then v else v++[x]);have e:dR v (x :: l)=dR (if aJ v x=true then v else v++[x]) l:=rfl;rw[e];have b:(if aJ v x=true then v else v++[x]).length<=v.length+1:=by split <;> simp
  simp only[List.length_cons];omega
theorem jo{α:Type}(l:List α)(k:Nat)(h:k<l.length):l.take (k+1)=l.take k++[l[k]]:=by simp
theorem tH(a:Db)(H:Nat->Hd)(w:World)(h:aR w f T S d a H)(G:S.length=b)(hm:0<a.U6.length)(hs:fK a 100000000) :
  Calls prog 266 #[.pointer (some ⟨f,b,none⟩),.slice (H 8).ao a.U6.length (H 8).cap] w fun e w'=>e=.returned (.tuple #[])/\∃H',aR w' f T S d (dO a a.U6.length) H'/\aA f w H w' H':=by
 obtain⟨i0,hi,J,K,L⟩:=Re js;obtain⟨M,N,q2,O,P,Q,R,U,V,W,v,y,z⟩:=h.cells b G;have A:=h.free;have ag:=h.lt;have B:=h.own 3;have o:aw w (H 8) (aB a.U6):=h.own 8;have ai:=hs.Vf;have al:=hs.U6;have an:=hs.U9
 rcases o.Vm with ⟨_,h0,_⟩ | ⟨g8,ac,e8,_⟩
 ·have:a.U6.length=0:=h0
  omega
 ·rw[e8]
  have C:Hid (∀j u,(cN a.U6)[j]?=some u->w.cell? ((⟨g8,0,none⟩:Addr).add j)=some u):=fun j u hj=>by rw[bL];exact o.cell e8 j u hj
  clear o;go_enter func266,ntmps266;go_wp2_with (at_builtin;refine aM _ rfl (.tmp 9) (.tmp 10) 61 rfl i0 (.string ⟨#[]⟩) 16 (H 3) (aB a.Vf) underlying61 hi J K L rfl Rc rfl B ⟨g8,0,none⟩ a.U6.length (H 8).cap (cN a.U6) rfl ?c0 C.out (lY _) hm ?c3 ?c4 ?_)
  case c0=>simp[cN,aB]
  case c3=>simp only[aB];unfold maxLen;omega
  case c4=>simp only[aB];omega
  ·intro g q w1 s r c
   obtain⟨k0,f0,E⟩:=h.app (d':=dO a 0) b 3 G 3 (by omega) g q ((aB a.Vf).n+a.U6.length) _ s (qu a.Vf a.U6) r c (uP a H _) (by omega) _ rfl (by simp[b9,g9,aB,dO,dR]);clear B M N q2 O P Q R U V W v y z s r c A C;go_wp2
   go_loopg [4] a.U6.length (fun g i wr=>∃(k:Nat) (m:Nat->Hd),k<=a.U6.length/\g=a.U6.length-k/\i=.int .i64 k/\m 8=H 8/\aR wr f T S d (dO a k) m/\aA f w H wr m)
   case atStart=>exact⟨0,_,by omega,by omega,rfl,by simp[g9],E.out.1,E.out.2⟩
   case round =>
    obtain⟨k,m,hk,hg,rfl,h8,D,Z⟩:=hrel;clear E k0 f0
    by_cases F:k<a.U6.length
    ·obtain⟨M,N,q2,O,P,Q,R,U,V,W,v,y,z⟩:=D.cells b G
     have o:aw wr (H 8) (aB a.U6):=by have:=D.own 8;rw[h8]at this;exact this
     have c1:=o.cell e8 k (.string a.U6[k]) (tC a.U6 k F)
     have I:(dO a k).U9.length<=1073741824:=by
      have:=Dl a.U9 (a.U6.take k);simp only[List.length_take]at this
      show(dR a.U9 (a.U6.take k)).length<=_
      omega
     have A:=D.free
     have Y:Hid (dO a (k+1)=if aJ (dO a k).U9 a.U6[k]=true then dO a k else { dO a k with U9:=(dO a k).U9++[a.U6[k]] }):=by
      show dO a (k+1)=_
      unfold dO;rw[jo a.U6 k F,J5];simp only
      split <;> rfl
     generalize dO a k=l at *;generalize a.U6[k]=x at *;clear M N O P Q R U V W v y z o
     cases hb:aJ l.U9 x
     ·have HT:Hid (dO a (k+1)={ l with U9:=l.U9++[x] }):=by show dO a (k+1)=_;rw[Y.out];simp[hb]
      clear Y;go_wp2_with fail
      go_quiet ((go_at_call 253;exact Rd (eN (m 2) l.U9 x _ (D.Vb ((ab.refl [] _).drewN _) |>.own 2) I)))
      obtain⟨p,t⟩:∃p,p=wr.drewN nq:=⟨_,rfl⟩
      rw[<-t];have X:aR p f T S d l m:=by rw[t];exact D.Vb ((ab.refl [] _).drewN _)
      have T2:aA f w H p m:=by rw[t];exact Z.Vb ((ab.refl [] _).drewN _)
      have ad:p.cell? ⟨g8,k,none⟩=some (.string x):=by rw[t];exact c1
      clear t c1 D Z A q2;obtain⟨M,N,q2,O,P,Q,R,U,V,W,v,y,z⟩:=X.cells b G;have A:=X.free;have af:=X.lt;clear M N O P Q R U V W v y z;have hD:Hid (aR (p.alloc (.cells #[.string x] 9)).drew f T S d l m):=X.Vb ((ab.refl [] p).alloc _).drew
      have s2:Hid (∀j u,([.string x]:List Value)[j]?=some u->(p.alloc (.cells #[.string x] 9)).drew.cell? ((⟨p.heap.size,0,none⟩:Addr).add j)=some u):=by
       intro j u hj;have hk:(p.alloc (.cells #[.string x] 9)).drew.heap[p.heap.size]?=some (.cells #[.string x] 9 (0,0)):=QS p _;rw[bL,aa hk];simpa using hj
      have s3:Hid (∀u∈([.string x]:List Value),u.oneCell'=true):=by intro u hu;simp at hu;subst hu;rfl
      have s4:Hid ((aB l.U9).n+1<=maxLen):=by show _<=_;simp only[aB];unfold maxLen;omega
      have s5:Hid (((aB l.U9).n+1)*16<=140737488355328):=by show _<=_;simp only[aB];omega
      go_wp2_with fail
      go_region_law (refine cd rfl (.tmp 34) (.tmp 39) 61 rfl i0 (.string ⟨#[]⟩) 16 (m 2) (aB l.U9) underlying61 hi J K L rfl Rc (by simp[Act.eval] <;> rfl) (hD.out.own 2) ⟨p.heap.size,0,none⟩ 1 1 [.string x] (by simp[Act.eval]) rfl s2.out s3.out Rc s4.out s5.out ?_;intro g q w1 s r c;obtain⟨k5,f5,E⟩:=hD.out.app (d':={ l with U9:=l.U9++[x] }) b 2 G 2 (by omega) g q ((aB l.U9).n+1) _ s (dr l.U9 x) r (by simpa using c) (xb l m _) (by omega) _ rfl (by simp[b9,g9,aB]);clear s r c)
      all_goals go_wp2
      all_goals
       go_roundg (a.U6.length-(k+1))
       case measure=>omega
       case rel=>exact⟨k+1,_,by omega,rfl,by go_num,by simp[g9,h8],by rw[HT.out];exact E.out.1,T2.trans (E.out.2.first ((ab.refl [] _).alloc _).drew)⟩
     ·have HT:Hid (dO a (k+1)=l):=by show dO a (k+1)=_;rw[Y.out];simp[hb]
      clear Y;go_wp2_with fail
      go_quiet ((go_at_call 253;exact Rd (eN (m 2) l.U9 x _ (D.Vb ((ab.refl [] _).drewN _) |>.own 2) I)))
      go_wp2
      go_roundg (a.U6.length-(k+1))
      case measure=>omega
      case rel=>exact⟨k+1,m,by omega,rfl,by go_num,h8,by rw[HT.out];exact D.Vb ((ab.refl [] _).drewN _),Z.Vb ((ab.refl [] _).drewN _)⟩
    ·have e:k=a.U6.length:=by omega
     subst e;go_wp2;go_end0;exact⟨rfl,m,D,Z⟩
def jA(n:Int):Bool:=(decide (97<=n)&&decide (n<=122))||(decide (65<=n)&&decide (n<=90))||(decide (48<=n)&&decide (n<=57))||n==45||n==95||n==46
def gG(s:ByteArray):Bool:=(List.range s.size).all (fun i=>jA (aF s i))
set_option maxRecDepth 512
theorem ph(n:Int)(w:World) :
  Calls prog 275 #[.int .u8 n] w fun e g=>e=.returned (.bool (jA n))/\g=w:=by
 by_cases b:(97<=n/\n<=122)∨(65<=n/\n<=90)∨(48<=n/\n<=57)
 ·have a:Hid (jA n=true):=by show jA n=true;simp only[jA,Bool.or_eq_true,Bool.and_eq_true,decide_eq_true_eq];omega
  rcases b with b | b | b
  all_goals
   go_enter func275,ntmps275;go_wp2;go_ret;exact⟨aD a.out.symm,rfl⟩
 ·have a:Hid (jA n=(n==45||n==95||n==46)):=by
   show jA n=_
   have c:(decide (97<=n)&&decide (n<=122))=false:=by simp;omega
   have d:(decide (65<=n)&&decide (n<=90))=false:=by simp;omega
   have f:(decide (48<=n)&&decide (n<=57))=false:=by simp;omega
   simp only[jA,c,d,f,Bool.false_or]
  go_enter func275,ntmps275;go_wp2
  all_goals go_ret
  all_goals (refine⟨aD ?_,rfl⟩;first | rfl | (rw[a.out];done) | (rw[a.out];simp[*];done))
theorem DF(h:b<H)(a:yg b=false):(List.range H).all yg=false:=by
 rw[Ue];exact⟨b,by simpa using h,by simp[a]⟩
theorem zC(h:∀i,i<H->yg i=true):(List.range H).all yg=true:=by
 rw[Sn];intro i a;exact h i (by simpa using a)
theorem nc(p:w.size<=1073741824) :
  Calls prog 263 #[.string w] i fun e l=>e=.returned (.bool (gG w))/\l=i:=by
 go_enter func263,ntmps263;go_wp2
 go_loopg [3] w.size (fun g a wr=>∃k:Nat,k<=w.size/\g=w.size-k/\a=.int .i64 k/\Hid (∀a,a<k->jA (aF w a)=true)/\wr=i)
 case atStart=>exact⟨0,by omega,by omega,rfl,fun a h=>by omega,rfl⟩
 case round =>
  obtain⟨k,o,n,rfl,b,rfl⟩:=hrel
  by_cases c:k<w.size
  ·cases f:jA (w[k].toNat:Int)
   ·have d:Hid (gG w=false):=DF k c (by rw[bP w k c];exact f)
    go_wp2_with fail;refine(ph _ _).mono ?_;rintro e m ⟨rfl,rfl⟩;go_wp2;go_ret;exact⟨aD d.out.symm,rfl⟩
   ·go_wp2_with fail
    refine(ph _ _).mono ?_;rintro e m ⟨rfl,rfl⟩;go_wp2
    go_roundg (w.size-(k+1))
    case measure=>omega
    case rel =>
     refine⟨k+1,by omega,rfl,by go_num,?_,rfl⟩;intro a j
     by_cases e:a=k
     ·subst e;rw[bP w a c];exact f
     ·exact b.out a (by omega)
  ·have d:Hid (gG w=true):=zC (fun a j=>b.out a (by omega))
   go_wp2;go_ret;exact⟨aD d.out.symm,rfl⟩
theorem kG(a:Db)(H:Nat->Hd)(x:ByteArray)(w:World)(h:aR w f T S d a H)(g:S.length=b)(c:a.Vf.length<=1073741824) :
  Calls prog 269 #[.pointer (some ⟨f,b,none⟩),.string x] w fun e l=>e=.returned (.bool (aJ a.Vf x))/\l=w:=by
 obtain⟨m,n,o,p,q,r,s,t,u,v,i,j,k⟩:=h.cells b g;go_enter func269,ntmps269;go_wp2_with fail;refine(eN (H 3) a.Vf x _ (by exact h.own 3) c).mono ?_;rintro e y ⟨rfl,rfl⟩;go_wp2;go_ret;exact⟨rfl,rfl⟩
theorem mB(a:Db)(H:Nat->Hd)(x:ByteArray)(w:World)(h:aR w f T S d a H)(g:S.length=b)(c:a.U8.length<=1073741824) :
  Calls prog 270 #[.pointer (some ⟨f,b,none⟩),.string x] w fun e l=>e=.returned (.bool (aJ a.U8 x))/\l=w:=by
 obtain⟨m,n,o,p,q,r,s,t,u,v,i,j,k⟩:=h.cells b g;go_enter func270,ntmps270;go_wp2_with fail;refine(eN (H 1) a.U8 x _ (by exact h.own 1) c).mono ?_;rintro e y ⟨rfl,rfl⟩;go_wp2;go_ret;exact⟨rfl,rfl⟩
theorem nf(a:Db)(H:Nat->Hd)(x:ByteArray)(w:World)(h:aR w f T S d a H)(g:S.length=b)(c:a.Vi.length<=1073741824) :
  Calls prog 271 #[.pointer (some ⟨f,b,none⟩),.string x] w fun e l=>e=.returned (.bool (aJ a.Vi x))/\l=w:=by
 obtain⟨m,n,o,p,q,r,s,t,u,v,i,j,k⟩:=h.cells b g;go_enter func271,ntmps271;go_wp2_with fail;refine(eN (H 4) a.Vi x _ (by exact h.own 4) c).mono ?_;rintro e y ⟨rfl,rfl⟩;go_wp2;go_ret;exact⟨rfl,rfl⟩
def dK(d:Db)(x:ByteArray):Bool:=aJ d.Ve x||aJ d.U8 x||aJ d.U9 x
def dX(d:Db)(x:ByteArray):Bool:=aJ d.Ve x||aJ d.U8 x||aJ d.Vf x
theorem lQ(a:Db)(H:Nat->Hd)(x:ByteArray)(w:World)(h:aR w f T S d a H)(l:S.length=b)(c:fK a 1073741824) :
  Calls prog 254 #[.pointer (some ⟨f,b,none⟩),.string x] w fun e p=>e=.returned (.bool (dK a x))/\p=w:=by
 obtain⟨q,r,s,t,u,v,y,z,A,B,m,n,o⟩:=h.cells b l
 cases j:aJ a.Ve x
 ·cases k:aJ a.U8 x
  ·have g:Hid (dK a x=aJ a.U9 x):=by show dK a x=_;simp[dK,j,k]
   go_enter func254,ntmps254;go_wp2_with fail;refine(eN (H 0) a.Ve x _ (by exact h.own 0) c.Ve).mono ?_;rintro e i ⟨rfl,rfl⟩;go_wp2_with fail;refine(eN (H 1) a.U8 x _ (by exact h.own 1) c.U8).mono ?_;rintro e i ⟨rfl,rfl⟩;go_wp2_with fail;refine(eN (H 2) a.U9 x _ (by exact h.own 2) c.U9).mono ?_;rintro e i ⟨rfl,rfl⟩;go_wp2;go_ret;exact⟨aD (by rw[g.out]),rfl⟩
  ·have g:Hid (dK a x=true):=by show dK a x=_;simp[dK,j,k]
   go_enter func254,ntmps254;go_wp2_with fail;refine(eN (H 0) a.Ve x _ (by exact h.own 0) c.Ve).mono ?_;rintro e i ⟨rfl,rfl⟩;go_wp2_with fail;refine(eN (H 1) a.U8 x _ (by exact h.own 1) c.U8).mono ?_;rintro e i ⟨rfl,rfl⟩;go_wp2;go_ret;exact⟨aD (by rw[g.out]),rfl⟩
 ·have g:Hid (dK a x=true):=by show dK a x=_;simp[dK,j]
  go_enter func254,ntmps254;go_wp2_with fail;refine(eN (H 0) a.Ve x _ (by exact h.own 0) c.Ve).mono ?_;rintro e i ⟨rfl,rfl⟩;go_wp2;go_ret;exact⟨aD (by rw[g.out]),rfl⟩
theorem Ab(a:Db)(H:Nat->Hd)(x:ByteArray)(w:World)(h:aR w f T S d a H)(l:S.length=b)(c:fK a 1073741824) :
  Calls prog 255 #[.pointer (some ⟨f,b,none⟩),.string x] w fun e p=>e=.returned (.bool (dX a x))/\p=w:=by
 obtain⟨q,r,s,t,u,v,y,z,A,B,m,n,o⟩:=h.cells b l
 cases j:aJ a.Ve x
 ·cases k:aJ a.U8 x
  ·have g:Hid (dX a x=aJ a.Vf x):=by show dX a x=_;simp[dX,j,k]
   go_enter func255,ntmps255;go_wp2_with fail;refine(eN (H 0) a.Ve x _ (by exact h.own 0) c.Ve).mono ?_;rintro e i ⟨rfl,rfl⟩;go_wp2_with fail;refine(eN (H 1) a.U8 x _ (by exact h.own 1) c.U8).mono ?_;rintro e i ⟨rfl,rfl⟩;go_wp2_with fail;refine(eN (H 3) a.Vf x _ (by exact h.own 3) c.Vf).mono ?_;rintro e i ⟨rfl,rfl⟩;go_wp2;go_ret;exact⟨aD (by rw[g.out]),rfl⟩
  ·have g:Hid (dX a x=true):=by show dX a x=_;simp[dX,j,k]
   go_enter func255,ntmps255;go_wp2_with fail;refine(eN (H 0) a.Ve x _ (by exact h.own 0) c.Ve).mono ?_;rintro e i ⟨rfl,rfl⟩;go_wp2_with fail;refine(eN (H 1) a.U8 x _ (by exact h.own 1) c.U8).mono ?_;rintro e i ⟨rfl,rfl⟩;go_wp2;go_ret;exact⟨aD (by rw[g.out]),rfl⟩
 ·have g:Hid (dX a x=true):=by show dX a x=_;simp[dX,j]
  go_enter func255,ntmps255;go_wp2_with fail;refine(eN (H 0) a.Ve x _ (by exact h.own 0) c.Ve).mono ?_;rintro e i ⟨rfl,rfl⟩;go_wp2;go_ret;exact⟨aD (by rw[g.out]),rfl⟩
theorem lP(a:Db)(H:Nat->Hd)(w:World)(h:aR w f T S d a H)(c:S.length=b) :
  Calls prog 207 #[.pointer (some ⟨f,b,none⟩)] w fun e k=>e=.returned (.bool (decide (0<a.blocks.length)))/\k=w:=by
 obtain⟨l,m,n,o,p,q,r,s,t,u,g,i,j⟩:=h.cells b c;go_enter func207,ntmps207;go_wp2;go_ret;exact⟨rfl,rfl⟩
def kp(d:Db):Bool:=d.kind != 0||decide (0<d.blocks.length)
theorem sX(a:Db)(H:Nat->Hd)(w:World)(h:aR w f T S d a H)(i:S.length=b) :
  Calls prog 158 #[.pointer (some ⟨f,b,none⟩)] w fun e m=>e=.returned (.bool (kp a))/\m=w:=by
 obtain⟨n,o,p,q,r,s,t,u,v,x,j,k,l⟩:=h.cells b i
 cases g:(a.kind != 0)
 ·have c:Hid (kp a=decide (0<a.blocks.length)):=by show kp a=_;simp only[kp,g,Bool.false_or]
  go_enter func158,ntmps158;go_wp2_with fail;refine(lP f T b S d a H _ h i).mono ?_;rintro e y ⟨rfl,rfl⟩;go_wp2;go_ret;exact⟨aD (by rw[c.out]),rfl⟩
 ·have c:Hid (kp a=true):=by show kp a=_;simp only[kp,g,Bool.true_or]
  go_enter func158,ntmps158;go_wp2_with fail;go_ret;exact⟨aD (by rw[c.out]),rfl⟩
def l5(d:Db):Int:=if(d.kind==1)=true∨(d.kind==2)=true then 2 else 1
theorem t7(a:Db)(H:Nat->Hd)(w:World)(h:aR w f T S d a H)(j:S.length=b) :
  Calls prog 251 #[.pointer (some ⟨f,b,none⟩)] w fun e n=>e=.returned (.int .i64 (l5 a))/\n=w:=by
 obtain⟨o,p,q,r,s,t,u,v,x,y,k,l,m⟩:=h.cells b j
 cases g:(a.kind==1)
 ·cases i:(a.kind==2)
  all_goals
   have c:Hid (l5 a=if(a.kind==1)=true∨(a.kind==2)=true then 2 else 1):=rfl;go_enter func251,ntmps251;go_wp2;go_ret;exact⟨QN (by rw[c.out,g,i];simp),rfl⟩
 ·have c:Hid (l5 a=2):=by show l5 a=_;simp only[l5,g];simp
  go_enter func251,ntmps251;go_wp2;go_ret;exact⟨QN (by rw[c.out]),rfl⟩
theorem Ig(n:aw i L (aB I))(q:T<=1073741824) :
  Calls prog 262 #[.slice L.ao I.length L.cap,.int .i64 T] i fun e r=>e=.returned (.slice L.ao (if T<=I.length then T else I.length) L.cap)/\r=i:=by
 obtain⟨s,c⟩:=L
 by_cases a:T<=I.length
 ·rcases n.Vm with ⟨d,m,_⟩ | ⟨g,o,h,j,k,l,_⟩
  ·have b:I.length=0:=m
   have f:T=0:=by omega
   subst f
   injection d with d j
   subst d j;simp only[if_pos a];rw[b];clear n m a b q;go_enter func262,ntmps262;go_wp2;go_ret;exact⟨rfl,rfl⟩
  ·simp only at h k l
   have p:I.length<=c:=k;unfold maxLen at l;subst h;simp only[if_pos a];go_enter func262,ntmps262;go_wp2;go_ret;exact⟨rfl,rfl⟩
 ·simp only[if_neg a]
  go_enter func262,ntmps262;go_wp2;go_ret;exact⟨rfl,rfl⟩
theorem aw.cut(o:aw n zb (aB zt))(c:Nat)(s:c<=zt.length):aw n zb (aB (zt.take c)):=by
 have d:(zt.take c).length=c:=by simp;omega
 rcases o.Vm with ⟨k,p,_⟩ | ⟨g,b,f,l,h,i,j,m⟩
 ·have q:zt.length=0:=p
  have:c=0:=by omega
  subst this;subst k;exact⟨by simp[aB,cN],Q1 ⟨by simp[aB],by simp[aB]⟩⟩
 ·obtain⟨r,a⟩:=zb
  simp only at f h i j;subst f;refine⟨by simp[aB,cN],QV ⟨g,a,b,rfl,Ro _,l,?_,i,j,?_⟩⟩
  ·have:zt.length<=a:=h
   simp only[aB];omega
  ·have e:b.toList.take (zt.length*1)=cN zt:=m
   simp only[aB,d];have:cN (zt.take c)=(cN zt).take c:=by simp[cN,List.map_take]
   rw[this,<-e,UC]
   congr 1
   omega
theorem P9:(prog.info? 337).map (fun i=>(i.zero,i.size,i.bytes))=some (some (.agg #[.int .i64 0,.int .i64 0]),2,16):=by kernel_rfl
theorem rH:pairs (z7++[y9])=pairs z7++[.int .i64 y9.1,.int .i64 y9.2]:=by simp[pairs]
theorem JB:(⟨(nZ z7).e,(nZ z7).size,(nZ z7).n+1,(nZ z7).xs++[.int .i64 y9.1,.int .i64 y9.2]⟩:dN)=nZ (z7++[y9]):=by
 simp[nZ,rH]
set_option maxRecDepth 100000
theorem vK(a:Db)(H:Nat->Hd)(w:World)(h:aR w f T S d a H)(v:S.length=b)(O:a.blocks.length<=1073741824) :
  Calls prog 246 #[.pointer (some ⟨f,b,none⟩)] w fun e y=>e=.returned (.tuple #[])/\∃r,aR y f T S d { a with blocks:=a.blocks++[(a.Vf.length,a.Vi.length)] } r/\aA f w H y r:=by
 obtain⟨E,B,o,p,q⟩:=Re P9;obtain⟨Q,R,U,V,W,X,Y,Z,q8,q9,F,G,I⟩:=h.cells b v;have A:=h.free;have z:=h.lt;have t:Hid (aR (w.alloc (.cells #[.int .i64 a.Vf.length,.int .i64 a.Vi.length] 337)).drew f T S d a H):=h.Vb ((ab.refl [] w).alloc _).drew
 have J:Hid (∀j u,([.int .i64 a.Vf.length,.int .i64 a.Vi.length]:List Value)[j]?=some u->(w.alloc (.cells #[.int .i64 a.Vf.length,.int .i64 a.Vi.length] 337)).drew.cell? ((⟨w.heap.size,0,none⟩:Addr).add j)=some u):=by
  intro j u C;rw[bL];have D:(w.alloc (.cells #[.int .i64 a.Vf.length,.int .i64 a.Vi.length] 337)).drew.heap[w.heap.size]?=some (.cells #[.int .i64 a.Vf.length,.int .i64 a.Vi.length] 337 (0,0)):=QS _ _;rw[aa D];simpa using C
 have K:Hid (∀u∈([.int .i64 a.Vf.length,.int .i64 a.Vi.length]:List Value),u.oneCell'=true):=by
  intro u x;simp at x
  rcases x with rfl | rfl <;> rfl
 have L:Hid ((nZ a.blocks).n+1<=maxLen):=by show _<=_;simp only[nZ];unfold maxLen;omega
 have M:Hid (((nZ a.blocks).n+1)*16<=140737488355328):=by show _<=_;simp only[nZ];omega
 clear h;go_enter func246,ntmps246;go_wp2_with fail
 go_region_law (refine cd rfl (.tmp 6) (.tmp 18) 194 rfl E (.agg #[.int .i64 0,.int .i64 0]) 16 (H 5) (nZ a.blocks) underlying194 B o p q rfl Uq (by simp[Act.eval] <;> rfl) (t.out.own 5) ⟨w.heap.size,0,none⟩ 1 1 [.int .i64 a.Vf.length,.int .i64 a.Vi.length] (by simp[Act.eval]) rfl J.out K.out Rc L.out M.out ?_;intro g k w1 m l c;obtain⟨P,N,s⟩:=t.out.app (d':={ a with blocks:=a.blocks++[(a.Vf.length,a.Vi.length)] }) b 5 v 5 (by omega) g k ((nZ a.blocks).n+1) _ m (JB a.blocks (a.Vf.length,a.Vi.length)) l (by simpa using c) (uQ a H _) (by omega) _ rfl (by simp[b9,g9,nZ]);clear m l c)
 all_goals go_wp2
 all_goals go_end0
 all_goals exact⟨rfl,_,s.out.1,s.out.2.first ((ab.refl [] w).alloc _).drew⟩
theorem oJ(l:List (Nat×Nat)):(pairs l).length=l.length*2:=by
 induction l with
 | nil=>rfl
 | cons a r b=>simp only[pairs,List.flatMap_cons,List.length_append,List.length_cons,List.length_nil]at *;omega
theorem wJ:(pairs (z7++[y9]))[z7.length*2]?=some (.int .i64 y9.1)/\(pairs (z7++[y9]))[z7.length*2+1]?=some (.int .i64 y9.2):=by
 rw[rH];have:=oJ z7
 constructor
 ·rw[Q5 (by omega),this];simp
 ·rw[Q5 (by omega),this];simp
theorem aw.pop{l:List (Nat×Nat)}{x:Nat×Nat}(o:aw n zb (nZ (l++[x]))):aw n zb (nZ l):=by
 rcases o.Vm with ⟨s,q,_⟩ | ⟨g,b,f,k,h,i,j,m⟩
 ·have e:(l++[x]).length=0:=q
  simp at e
 ·obtain⟨r,a⟩:=zb
  simp only at f h i j;subst f;have c:(l++[x]).length<=a:=h;simp at c;refine⟨by simp only[nZ];exact oJ l,QV ⟨g,a,b,rfl,Ro _,k,?_,i,j,?_⟩⟩
  ·simp only[nZ];omega
  ·have d:b.toList.take ((l++[x]).length*2)=pairs (l++[x]):=m
   simp only[nZ];have p:pairs l=(pairs (l++[x])).take (l.length*2):=by rw[rH,List.take_left' (oJ l)]
   rw[p,<-d,UC]
   congr 1
   simp
def dq(d:Db)(bl:List (Nat×Nat))(x:Nat×Nat):Db:={ d with blocks:=bl,Vf:=d.Vf.take x.1,Vi:=d.Vi.take x.2 }
theorem MG:(x.take b).length=if b<=x.length then b else x.length:=by
 rw[RQ];split <;> omega
theorem aw.taken(o:aw n zb (aB zt))(c:Nat):aw n zb (aB (zt.take c)):=by
 by_cases a:c<=zt.length
 ·exact o.cut c a
 ·rw[Tu (by omega)];exact o
theorem wf(b:Hid ((I.take f).length=T))(c:aw i L (aB I))(a:f<=1073741824) :
  Calls prog 262 #[.slice L.ao I.length L.cap,.int .i64 f] i fun e d=>e=.returned (.slice L.ao T L.cap)/\d=i:=by
 have e:T=if f<=I.length then f else I.length:=by rw[<-b.out,MG]
 rw[e];exact Ig L I f i c a
theorem qk{d d':Db}(h:aR n H y k o d l)(g:k.length=D)(e:T<10)(m:aw n (l T) (aU d' l T))(a:∀j,j≠T->aU d' l j=aU d l j)(u:Value)(c:b<13)(f:(b9 d l).set b u=b9 d' (g9 l T (l T))) :
  aR (n.setCell ⟨H,D+b,none⟩ u) H y k o d' l/\aA H n l (n.setCell ⟨H,D+b,none⟩ u) l:=by
 have i:=MP l T;have:=h.put (d':=d') D b g T e (l T) m (UD _ _) (QV (Q1 rfl)) a u c f;rw[i]at this;exact this
theorem zN(i:Db)(H:Nat->Hd)(c:List (Nat×Nat))(x:Nat×Nat)(w:World)(h:aR w f T S d i H)(A:S.length=b)(F:i.blocks=c++[x])(hs:fK i 1073741824)(hx:x.1<=1073741824/\x.2<=1073741824) :
  Calls prog 248 #[.pointer (some ⟨f,b,none⟩)] w fun e w'=>e=.returned (.tuple #[])/\aR w' f T S d (dq i c x) H/\aA f w H w' H:=by
 obtain⟨M,N,O,P,Q,y,R,U,V,W,s,t,u⟩:=h.cells b A;obtain⟨j,l⟩:=x;simp only at hx;have r:=h.free;have ar:=h.lt;have J:=h.own 5;have k:aw w (H 5) (nZ (c++[(j,l)])):=by have:=J;simp only[aU,F]at this;exact this
 have v:=hs.blocks;rw[F]at v y;simp only[List.length_append,List.length_cons,List.length_nil]at v y
 rcases k.Vm with ⟨e0,h0,_⟩ | ⟨g,ap,L,e2,e3,Z,e5,e6⟩
 ·have ac:(c++[(j,l)]).length=0:=h0
  simp at ac
 ·have p1:=k.cell L (c.length*2) _ (wJ c (j,l)).1
  have p2:=k.cell L (c.length*2+1) _ (wJ c (j,l)).2;have ai:c.length+1<=(H 5).cap:=by have:(c++[(j,l)]).length<=(H 5).cap:=e3;simpa using this
  have af:(H 5).cap<=9223372036854775807:=by unfold maxLen at Z;exact Z
  have hg:=ae e2;have X:=qk 5 5 (d':={ i with blocks:=c }) h A (by omega) k.pop (uQ i H c) (.slice (some ⟨g,0,none⟩) c.length (H 5).cap) (by omega) (by simp[b9,g9,L]);obtain⟨p,n⟩:∃p,p=(w.setCell ⟨f,b+5,none⟩ (.slice (some ⟨g,0,none⟩) c.length (H 5).cap)).alloc (.cells #[.int .i64 j,.int .i64 l] 337):=⟨_,rfl⟩
  have z:aR p f T S d { i with blocks:=c } H:=by rw[n];exact X.1.Vb ((ab.refl [] _).alloc _)
  have T2:aA f w H p H:=by rw[n];exact X.2.Vb ((ab.refl [] _).alloc _)
  have B:p.heap[w.heap.size]?=some (.cells #[.int .i64 j,.int .i64 l] 337 (0,0)):=by
   rw[n];have:=QS (w.setCell ⟨f,b+5,none⟩ (.slice (some ⟨g,0,none⟩) c.length (H 5).cap)) (.cells #[.int .i64 j,.int .i64 l] 337);simpa [World.setCell] using this
  have HW:Hid ((w.setCell ⟨f,b+5,none⟩ (.slice (some ⟨g,0,none⟩) c.length (H 5).cap)).alloc (.cells #[.int .i64 j,.int .i64 l] 337)=p):=n.symm;have al:=hs.Vf;have an:=hs.Vi;rw[L]at y;simp only at p1 p2;clear J k e3 Z e5 e6 e2 h X n;go_enter func248,ntmps248
  go_upto_region 4 with fail
  rw[HW.out];have c0:p.cell? ⟨w.heap.size,0,none⟩=some (.int .i64 j):=by rw[aa B];rfl
  have c1:p.cell? ⟨w.heap.size,1,none⟩=some (.int .i64 l):=by rw[aa B];rfl
  have ag:w.heap.size≠f:=by omega
  have ad:=ae B;clear HW M N O P Q y R U V W s t u p1 p2 r hg;obtain⟨M,N,O,P,Q,y,R,U,V,W,s,t,u⟩:=z.cells b A;have r:=z.free;obtain⟨K,G⟩:∃m,Hid ((i.Vf.take j).length=m):=⟨_,rfl⟩
  obtain⟨m2,I⟩:∃m,Hid ((i.Vi.take l).length=m):=⟨_,rfl⟩
  have Y:=qk 3 3 (d':={ i with blocks:=c,Vf:=i.Vf.take j }) z A (by omega) ((z.own 3).taken j) (uP { i with blocks:=c } H (i.Vf.take j)) (.slice (H 3).ao K (H 3).cap) (by omega) (by simp only[b9,dh,<-G.out];rfl);obtain⟨q,o⟩:∃q,q=(p.setCell ⟨f,b+3,none⟩ (.slice (H 3).ao K (H 3).cap)).drew:=⟨_,rfl⟩
  have C:Hid (aR q f T S d { i with blocks:=c,Vf:=i.Vf.take j } H):=by rw[o];exact Y.1.Vb (ab.refl [] _).drew
  have T3:Hid (aA f w H q H):=by rw[o];exact T2.trans (Y.2.Vb (ab.refl [] _).drew)
  have B3:Hid (q.heap[w.heap.size]?=some (.cells #[.int .i64 j,.int .i64 l] 337 (0,0))):=by
   show q.heap[w.heap.size]?=_
   rw[o];exact(Q4 p ⟨f,b+3,none⟩ (.slice (H 3).ao K (H 3).cap) w.heap.size ag).trans B
  have E:Hid ((p.setCell ⟨f,b+3,none⟩ (.slice (H 3).ao K (H 3).cap)).drew=q):=o.symm;clear o Y
  go_region_with (go_at_call 262;refine(wf (H 3) i.Vf j K _ G (by exact z.own 3) hx.1).mono ?_;rintro e q ⟨rfl,rfl⟩)
  all_goals go_upto_region 5 with fail
  all_goals rw[E.out]
  all_goals
   clear E M N O P Q y R U V W s t u r z T2 B c0 c1 ad;have c0:q.cell? ⟨w.heap.size,0,none⟩=some (.int .i64 j):=by rw[aa B3.out];rfl
   have c1:q.cell? ⟨w.heap.size,1,none⟩=some (.int .i64 l):=by rw[aa B3.out];rfl
   obtain⟨M,N,O,P,Q,y,R,U,V,W,s,t,u⟩:=C.out.cells b A;have r:=C.out.free;have P4:=qk 4 4 (d':=dq i c (j,l)) C.out A (by omega) ((C.out.own 4).taken l) (xa { i with blocks:=c,Vf:=i.Vf.take j } H (i.Vi.take l)) (.slice (H 4).ao m2 (H 4).cap) (by omega) (by simp only[b9,dq,dh,<-I.out];rfl);have D:Hid _:=P4;clear P4
   go_region_with (go_at_call 262;refine(wf (H 4) i.Vi l m2 _ I (by exact C.out.own 4) hx.2).mono ?_;rintro e q ⟨rfl,rfl⟩)
   all_goals go_wp2
   all_goals go_end0
   all_goals exact⟨rfl,D.out.1.Vb (ab.refl [] _).drew,T3.out.trans (D.out.2.Vb (ab.refl [] _).drew)⟩
theorem BI{α:Type}(f:α->List Value)(n:Nat)(b:∀a,(f a).length=n)(l:List α):(l.flatMap f).length=l.length*n:=by
 induction l with
 | nil=>simp
 | cons a l c=>simp only[List.flatMap_cons,List.length_append,b,c,List.length_cons];rw[Uc];omega
theorem BH{α:Type}(f:α->List Value)(n:Nat)(b:∀a,(f a).length=n)(l:List α)(i j:Nat)(c:i<l.length)(g:j<n):(l.flatMap f)[i*n+j]?=(f l[i])[j]?:=by
 induction l generalizing i with
 | nil=>simp at c
 | cons a l d =>
  rw[RI]
  cases i with
  | zero=>rw[Q7 (by rw[b];omega)];simp
  | succ i =>
   have e:(i+1)*n+j=n+(i*n+j):=by rw[Uc];omega
   rw[Q5 (by rw[b,e];omega),b,e,show n+(i*n+j)-n=i*n+j by omega];exact d i (by simpa using c)
theorem Lh{α:Type}(f:α->List Value)(n:Nat)(b:∀a,(f a).length=n)(l:List α)(i j:Nat)(g:i<l.length)(k:j<n)(c:α)(v:Value)(d:f c=(f l[i]).set j v) :
  (l.flatMap f).set (i*n+j) v=(l.set i c).flatMap f:=by
 induction l generalizing i with
 | nil=>simp at g
 | cons a l h =>
  cases i with
  | zero =>
   rw[Tv,RI,RI,TM _ _ (by rw[b];omega),d];simp
  | succ i =>
   have e:(i+1)*n+j=n+(i*n+j):=by rw[Uc];omega
   rw[SB,RI,RI,SS _ _ (by rw[b,e];omega),b,e,show n+(i*n+j)-n=i*n+j by omega];rw[h i (by simpa using g) (by simpa using d)]
theorem My(l:List St)(H:Nat->Hd):(mo l H).length=l.length*8:=by
 unfold mo;rw[BI _ 8 (fun _=>rfl)];simp
theorem FK(l:List (ByteArray×Pl)):(nD l).length=l.length*4:=BI _ 4 (fun _=>rfl) l
theorem GP(l:List St)(H:Nat->Hd)(i:Nat)(a:i<l.length)(j:Nat)(b:j<8):(mo l H)[i*8+j]?=(JO l[i] (H (10+2*i)) (H (11+2*i)))[j]?:=by
 unfold mo;rw[BH _ 8 (fun _=>rfl) _ i j (by simpa using a) b];simp
theorem Ke(l:List (ByteArray×Pl))(i:Nat)(a:i<l.length)(j:Nat)(b:j<4):(nD l)[i*4+j]?=(qZ l[i])[j]?:=BH _ 4 (fun _=>rfl) l i j a b
theorem JZ(l:List St)(s:St)(H:Nat->Hd):mo (l++[s]) H=mo l H++JO s (H (10+2*l.length)) (H (11+2*l.length)):=by
 unfold mo;rw[List.zipIdx_append];simp
theorem FN(l:List St)(i:Nat)(s:St):(l.set i s).zipIdx=l.zipIdx.set i (s,i):=by
 apply Sq
 intro j;simp only[List.getElem?_zipIdx,List.getElem?_set,List.length_zipIdx]
 by_cases e:i=j
 ·subst e
  by_cases a:i<l.length <;> simp[a]
 ·simp[e]
theorem Mz(l:List St)(H:Nat->Hd)(i:Nat)(a:i<l.length)(N:Nat):(mo l H).set (i*8+7) (.int .i64 N)=mo (l.set i { l[i] with til:=N }) H:=by
 unfold mo;rw[FN];exact Lh _ 8 (fun _=>rfl) _ i 7 (by simpa using a) (by omega) _ _ (by simp[JO])
theorem C9:(cN x).length=x.length*1:=by simp[cN]
theorem yT:jX (ya++[b])=jX ya++[.int .i64 b]:=by simp[jX]
theorem mv:(⟨(bB ya).e,(bB ya).size,(bB ya).n+1,(bB ya).xs++[.int .i64 b]⟩:dN)=bB (ya++[b]):=by simp[bB,yT]
theorem yH:(prog.info? 3).map (fun i=>(i.zero,i.size,i.bytes))=some (some (.int .i64 0),1,8):=by kernel_rfl
def qP(k:Int):Bool:=k==4||k==5
set_option maxRecDepth 512
theorem dc(k:Int)(c d f g h i j:Value)(w:World) :
  Calls prog 160 #[.agg #[.int .i64 k,c,d,f,g,h,i,j]] w fun e l=>e=.returned (.bool (qP k))/\ab [] w l:=by
 cases b:(k==4)
 ·have a:Hid (qP k=(k==5)):=by show qP k=_;simp only[qP,b,Bool.false_or]
  go_enter func160,ntmps160;go_wp2;go_ret;exact⟨aD (by rw[a.out]),(ab.refl _ _).alloc _⟩
 ·have a:Hid (qP k=true):=by show qP k=_;simp only[qP,b,Bool.true_or]
  go_enter func160,ntmps160;go_wp2;go_ret;exact⟨aD (by rw[a.out]),(ab.refl _ _).alloc _⟩
set_option maxRecDepth 100000
theorem Ax(a:Db)(H:Nat->Hd)(w:World)(h:aR w f T S d a H)(z:S.length=b)(J:fK a 100000000) :
  Calls prog 247 #[.pointer (some ⟨f,b+6,none⟩)] w fun e B=>e=.returned (.tuple #[])/\∃v,aR B f T S d { a with rbl:=a.rbl++[a.Vn.length] } v/\aA f w H B v:=by
 obtain⟨K,E,m,o,p⟩:=Re yH;obtain⟨L,M,N,O,P,Q,q6,q7,R,U,q,r,s⟩:=h.cells b z;clear L M N O P Q R U q r s;have D:=h.free;have C:=h.lt;have I:=J.rbl;have y:Hid (aR (w.alloc (.cells #[.int .i64 a.Vn.length] 3)).drew f T S d a H):=h.Vb ((ab.refl [] w).alloc _).drew
 have V:Hid (∀j u,([.int .i64 a.Vn.length]:List Value)[j]?=some u->(w.alloc (.cells #[.int .i64 a.Vn.length] 3)).drew.cell? ((⟨w.heap.size,0,none⟩:Addr).add j)=some u):=by
  intro j u F;have G:(w.alloc (.cells #[.int .i64 a.Vn.length] 3)).drew.heap[w.heap.size]?=some (.cells #[.int .i64 a.Vn.length] 3 (0,0)):=QS _ _;rw[bL,aa G];simpa using F
 have W:Hid (∀u∈([.int .i64 a.Vn.length]:List Value),u.oneCell'=true):=by intro u A;simp at A;subst A;rfl
 have X:Hid ((bB a.rbl).n+1<=maxLen):=by show _<=_;simp only[bB];unfold maxLen;omega
 have Y:Hid (((bB a.rbl).n+1)*8<=140737488355328):=by show _<=_;simp only[bB];omega
 clear h;go_enter func247,ntmps247;go_wp2_with fail
 go_region_law (refine cd rfl (.tmp 6) (.tmp 12) 26 rfl K (.int .i64 0) 8 (H 7) (bB a.rbl) underlying26 E m o p rfl Rc (by simp[Act.eval] <;> rfl) (y.out.own 7) ⟨w.heap.size,0,none⟩ 1 1 [.int .i64 a.Vn.length] (by simp[Act.eval]) rfl V.out W.out Rc X.out Y.out ?_;intro g i w1 l k c;obtain⟨k5,Z,x⟩:=y.out.app (d':={ a with rbl:=a.rbl++[a.Vn.length] }) b 7 z 7 (by omega) g i ((bB a.rbl).n+1) _ l (mv a.rbl _) k (by simpa using c) (CV a H _) (by omega) _ rfl (by simp[b9,g9,bB]);clear l k c)
 all_goals go_wp2
 all_goals go_end0
 all_goals exact⟨rfl,_,x.out.1,x.out.2.first ((ab.refl [] w).alloc _).drew⟩
def lM(N:Nat)(s:St):St:=if s.til=0/\qP s.kind=false then { s with til:=N } else s
def fD(l:List St)(b n:Nat):List St:=l.mapIdx (fun i s=>if b<=i/\i<n then lM l.length s else s)
def gy(l:List St)(b:Nat):List St:=fD l b l.length
theorem jg(l:List St)(b n:Nat):(fD l b n).length=l.length:=by simp[fD]
theorem mt(l:List St)(b n i:Nat):(fD l b n)[i]?=l[i]?.map (fun s=>if b<=i/\i<n then lM l.length s else s):=by simp[fD]
theorem Bx(l:List St)(b:Nat):fD l b b=l:=by
 apply Sq
 intro i;rw[mt];have:¬(b<=i/\i<b):=by omega
 simp[this]
theorem vZ(l:List St)(b n:Nat)(c:b<=n)(d:n<l.length):fD l b (n+1)=(fD l b n).set n (lM l.length l[n]):=by
 apply Sq
 intro i;rw[RU,mt,mt,jg]
 by_cases e:n=i
 ·subst e
  have a:b<=n/\n<n+1:=⟨c,by omega⟩;simp[d,a]
 ·have:(b<=i/\i<n+1) ↔ (b<=i/\i<n):=by omega
  simp[e,this]
theorem DY(l:List St)(b n:Nat)(c:b<=n)(a:n<l.length)(h:lM l.length l[n]=l[n]):fD l b (n+1)=fD l b n:=by
 rw[vZ l b n c a,h]
 apply Sq
 intro i;rw[RU,jg]
 by_cases e:n=i
 ·subst e
  rw[mt];simp[a]
 ·simp[e]
theorem Lb(l:List St)(b n:Nat)(a:n<l.length):(fD l b n)[n]?=some l[n]:=by
 rw[mt];simp[a]
theorem xm(l:List St)(n:Nat)(b:n<l.length)(N:Nat)(i:Nat):symsAt (l.set n { l[n] with til:=N }) i=symsAt l i/\ti (l.set n { l[n] with til:=N }) i=ti l i:=by
 unfold symsAt ti;rw[RU]
 by_cases e:n=i
 ·subst e;simp[b]
 ·simp[e]
theorem aR.til{d:Db}(h:aR n H y k o d l)(g:Nat)(s:(l 6).ao=some ⟨g,0,none⟩)(b:Nat)(u:b<d.Vn.length)(N:Nat) :
  aR (n.setCell ⟨g,b*8+7,none⟩ (.int .i64 N)) H y k o { d with Vn:=d.Vn.set b { d.Vn[b] with til:=N } } l/\aA H n l (n.setCell ⟨g,b*8+7,none⟩ (.int .i64 N)) l:=by
 have c:(l 6).blk=some g:=by unfold Hd.blk;rw[s];rfl
 have t:g≠H:=by rintro rfl;exact h.off 6 c
 refine⟨⟨?_,?_,h.apart,h.off⟩,(eK.refl _ _).setCell (Q1 (QV ⟨6,c⟩)) _,fun _ p=>Q1 p⟩
 ·rw[Q4 _ _ _ _ (fun e=>t e.symm),h.blk]
  simp[b9]
 ·intro i
  by_cases e:i=6
  ·subst e
   have F:aw n (l 6) (iE d.Vn l):=h.own 6
   show aw _ (l 6) (iE (d.Vn.set b { d.Vn[b] with til:=N }) l)
   rcases F.Vm with ⟨G,D,_⟩ | ⟨v,j,f,x,z,A,B,C⟩
   ·have:d.Vn.length=0:=D
    omega
   ·have:v=g:=by rw[s]at f;injection f with f;injection f with f;exact f.symm
    subst this;refine⟨by simp only[iE];rw[My],QV ⟨v,(l 6).cap,j.setIfInBounds (b*8+7) (.int .i64 N),?_,Ro _,ah x _ _,?_,A,?_,?_⟩⟩
    ·simp[iE,s]
    ·simpa [iE] using z
    ·simpa [iE] using B
    ·have r:j.toList.take (d.Vn.length*8)=mo d.Vn l:=C
     simp only[iE,List.length_set,Array.toList_setIfInBounds,List.take_set,r];exact Mz d.Vn l b u N
  ·have E:aU { d with Vn:=d.Vn.set b { d.Vn[b] with til:=N } } l i=aU d l i:=by
    match i,e with
    | 0,_=>rfl
    | 1,_=>rfl
    | 2,_=>rfl
    | 3,_=>rfl
    | 4,_=>rfl
    | 5,_=>rfl
    | 6,e=>exact absurd rfl e
    | 7,_=>rfl
    | 8,_=>rfl
    | 9,_=>rfl
    | m+10,_=>simp only[aU,inner,(xm d.Vn b u N (m / 2)).1,(xm d.Vn b u N (m / 2)).2]
   rw[E];refine(h.own i).Vg (fun I p=>Q4 _ _ _ _ ?_);rintro rfl
   rcases h.apart i 6 e with a | a
   ·rw[a]at p;cases p
   ·exact a (p.trans c.symm)
theorem aR.stmt{d:Db}(h:aR n H y k o d l)(g:Nat)(b:(l 6).ao=some ⟨g,0,none⟩)(a:Nat)(s:St)(i:d.Vn[a]?=some s) :
  n.cell? ⟨g,a*8,none⟩=some (.int .i64 s.kind)/\n.cell? ⟨g,a*8+1,none⟩=some (.string s.label)/\n.cell? ⟨g,a*8+2,none⟩=some (.slice (l (10+2*a)).ao s.U6.length (l (10+2*a)).cap) /\
  n.cell? ⟨g,a*8+3,none⟩=some (.slice (l (11+2*a)).ao s.Vh.length (l (11+2*a)).cap)/\n.cell? ⟨g,a*8+4,none⟩=some (.string s.fin.file)/\n.cell? ⟨g,a*8+5,none⟩=some (.int .i64 s.fin.line) /\
  n.cell? ⟨g,a*8+6,none⟩=some (.int .i64 s.fin.col)/\n.cell? ⟨g,a*8+7,none⟩=some (.int .i64 s.til):=by
 obtain⟨f,rfl⟩:=Q8.1 i;have p:aw n (l 6) (iE d.Vn l):=h.own 6;have c:=fun j (e:j<8) v (m:(JO d.Vn[a] (l (10+2*a)) (l (11+2*a)))[j]?=some v)=>p.cell b (a*8+j) v ((GP d.Vn l a f j e).trans m)
 exact⟨c 0 (by omega) _ rfl,c 1 (by omega) _ rfl,c 2 (by omega) _ rfl,c 3 (by omega) _ rfl,c 4 (by omega) _ rfl,c 5 (by omega) _ rfl,c 6 (by omega) _ rfl,c 7 (by omega) _ rfl⟩
theorem Cx:(jX ya).length=ya.length*1:=by simp[jX]
theorem aw.popN(o:aw n zb (bB (M++[H]))):aw n zb (bB M):=by
 rcases o.Vm with ⟨r,p,_⟩ | ⟨g,b,f,k,h,i,j,l⟩
 ·have e:(M++[H]).length=0:=p
  simp at e
 ·obtain⟨q,a⟩:=zb
  simp only at f h i j;subst f;have c:(M++[H]).length<=a:=h;simp at c;refine⟨by simp only[bB];exact Cx M,QV ⟨g,a,b,rfl,Ro _,k,?_,i,j,?_⟩⟩
  ·simp only[bB];omega
  ·have d:b.toList.take ((M++[H]).length*1)=jX (M++[H]):=l
   simp only[bB];have m:jX M=(jX (M++[H])).take (M.length*1):=by rw[yT,List.take_left' (Cx M)]
   rw[m,<-d,UC]
   congr 1
   simp
theorem E3(a:Db)(H:Nat->Hd)(c:List Nat)(x:Nat)(w:World)(h:aR w f T S d a H)(ho:S.length=b)(O:a.rbl=c++[x])(hs:fK a 100000000)(hx:x<=a.Vn.length) :
  Calls prog 249 #[.pointer (some ⟨f,b+6,none⟩)] w fun e w'=>e=.returned (.tuple #[])/\aR w' f T S d { a with rbl:=c,Vn:=gy a.Vn x } H/\aA f w H w' H:=by
 obtain⟨R,U,V,W,X,Y,E,y,Z,q9,m,n,o⟩:=h.cells b ho;clear R U V W X Y Z q9 m n o;have B:=h.free;have az:=h.lt;have t:aw w (H 7) (bB (c++[x])):=by have:=h.own 7;simp only[aU,O]at this;exact this
 have v:=hs.rbl;have an:=hs.Vn;rw[O]at v y;simp only[List.length_append,List.length_cons,List.length_nil]at v y
 rcases t.Vm with ⟨e0,h0,_⟩ | ⟨g,ax,e1,e2,e3,e4,e5,z⟩
 ·have ad:(c++[x]).length=0:=h0
  simp at ad
 ·have p1:=t.cell e1 c.length (.int .i64 x) (by simp[bB,jX])
  have ar:c.length+1<=(H 7).cap:=by have:(c++[x]).length<=(H 7).cap:=e3;simpa using this
  have ag:(H 7).cap<=9223372036854775807:=by unfold maxLen at e4;exact e4
  have P1:=qk 7 7 (d':={ a with rbl:=c }) h ho (by omega) t.popN (CV a H c) (.slice (some ⟨g,0,none⟩) c.length (H 7).cap) (by omega) (by simp[b9,g9,e1]);rw[e1]at y;have HP:Hid _:=P1;clear t e3 e4 e5 z e2 h P1;go_enter func249,ntmps249;go_wp2
  go_loopg [4] (a.Vn.length-x) (fun g i wr=>∃k:Nat,x<=k/\k<=a.Vn.length/\g=a.Vn.length-k/\i=.int .i64 k/\aR wr f T S d { a with rbl:=c,Vn:=fD a.Vn x k } H/\aA f w H wr H)
  case atStart=>exact⟨x,by omega,hx,rfl,rfl,by rw[Bx];exact HP.out.1,HP.out.2⟩
  case round =>
   obtain⟨k,l,aT,hg,rfl,D,ac⟩:=hrel;clear HP E y p1 B;obtain⟨R,U,V,W,X,Y,E,y,Z,q9,m,n,o⟩:=D.cells b ho;clear R U V W X Y y Z q9 m n o;have B:=D.free;simp only[jg]at E
   by_cases r:k<a.Vn.length
   ·have q:=Lb a.Vn x k r
    have Q:aw wr (H 6) (iE (fD a.Vn x k) H):=D.own 6
    rcases Q.Vm with ⟨_,h0,_⟩ | ⟨L,ap,z,p,K,-⟩
    ·have:(fD a.Vn x k).length=0:=h0
     rw[jg]at this;omega
    ·obtain⟨c0,c1,c2,c3,c4,c5,c6,c7⟩:=D.stmt L z k _ q
     rw[z]at E;have A:=am p
     have HS:Hid (∀N:Nat,aR wr f T S d { a with rbl:=c,Vn:=fD a.Vn x k } H->∀F,ab [] wr F->aR (F.setCell ⟨L,k*8+7,none⟩ (.int .i64 N)) f T S d { a with rbl:=c,Vn:=(fD a.Vn x k).set k { a.Vn[k] with til:=N } } H/\aA f w H (F.setCell ⟨L,k*8+7,none⟩ (.int .i64 N)) H):=by
      intro N D F l;have G:=D.Vb l;have hn:k<(fD a.Vn x k).length:=by rw[jg];exact r
      have P:=G.til L z k hn N;have es:(fD a.Vn x k)[k]=a.Vn[k]:=by have:=q;rw[QP hn]at this;simpa using this
      simp only[es]at P;exact⟨P.1,(ac.Vb l).trans P.2⟩
     have I:Hid (lM a.Vn.length a.Vn[k]=a.Vn[k]->fD a.Vn x (k+1)=fD a.Vn x k):=DY a.Vn x k l r;have H2:Hid (fD a.Vn x (k+1)=(fD a.Vn x k).set k (lM a.Vn.length a.Vn[k])):=vZ a.Vn x k l r;have aS:=ae p;have al:=p;have M:Hid _:=q;have ai:a.Vn.length<=(H 6).cap:=by have:(fD a.Vn x k).length<=(H 6).cap:=K;rw[jg]at this;exact this
     clear q Q p K;generalize a.Vn[k]=s at *
     cases hz:((s.til:Int)==0)
     ·have J:Hid (fD a.Vn x (k+1)=fD a.Vn x k):=I.out (by
       have:¬s.til=0:=by intro e;simp[e]at hz
       simp[lM,this])
      clear HS I H2 A;go_wp2
      go_roundg (a.Vn.length-(k+1))
      case measure=>omega
      case rel=>exact⟨k+1,by omega,by omega,rfl,by go_num,by rw[J.out];exact D,ac⟩
     ·have C:s.til=0:=by have:=TR hz;omega
      cases ha:qP s.kind
      ·have J:Hid (fD a.Vn x (k+1)=(fD a.Vn x k).set k { s with til:=a.Vn.length }):=by
        show _=_;rw[H2.out];simp[lM,C,ha]
       clear I H2 C;go_wp2_with (go_at_call 160;refine(dc s.kind _ _ _ _ _ _ _ _).mono ?_;rintro e F ⟨rfl,j⟩;have af:=j.get al (by simp));have G:=D.Vb j;have PS:Hid _:=(fun N=>HS.out N D _ j);obtain⟨R,U,V,W,X,Y,E,y,Z,q9,m,n,o⟩:=G.cells b ho;clear R U V W X Y y Z q9 m n o;simp only[jg,z]at E;obtain⟨c0,c1,c2,c3,c4,c5,c6,c7⟩:=G.stmt L z k _ M.out;clear c0 c1 c2 c3 c4 c5 c6;have A:=am af;have B:=G.free
       go_region
       all_goals go_wp2
       all_goals
        go_roundg (a.Vn.length-(k+1))
        case measure=>omega
        case rel=>exact⟨k+1,by omega,by omega,rfl,by go_num,by rw[J.out];exact(PS.out _).1.Vb (ab.refl [] _).drew,(PS.out _).2.Vb (ab.refl [] _).drew⟩
      ·have J:Hid (fD a.Vn x (k+1)=fD a.Vn x k):=I.out (by simp[lM,ha])
       clear HS I H2 A C;go_wp2_with (go_at_call 160;refine(dc s.kind _ _ _ _ _ _ _ _).mono ?_;rintro e F ⟨rfl,j⟩)
       go_roundg (a.Vn.length-(k+1))
       case measure=>omega
       case rel=>exact⟨k+1,by omega,by omega,rfl,by go_num,by rw[J.out];exact D.Vb j,ac.Vb j⟩
   ·have e:k=a.Vn.length:=by omega
    subst e;go_wp2;go_end0;exact⟨rfl,D,ac⟩
theorem Qb:(prog.info? 158).map (fun i=>(i.zero,i.size,i.bytes))=some (some (.agg #[.int .i64 0,.string ⟨#[]⟩,.slice none 0 0,.slice none 0 0,.string ⟨#[]⟩,.int .i64 0,.int .i64 0,.int .i64 0]),8,112):=by kernel_rfl
theorem OC:(prog.info? 229).map (fun i=>(i.zero,i.size,i.bytes))=some (some (.agg #[.string ⟨#[]⟩,.string ⟨#[]⟩,.int .i64 0,.int .i64 0]),4,48):=by kernel_rfl
theorem uR(l:List St)(H a:Nat->Hd)(h:∀j,j<10+2*l.length->a j=H j):mo l a=mo l H:=by
 unfold mo;rw[Uo,Uo]
 congr 1
 apply Ux
 intro p b
 have:p.2<l.length:=by
  have:=List.snd_lt_add_of_mem_zipIdx b;omega
 rw[h _ (by omega),h _ (by omega)]
theorem Ml(o:aw ys L (aB x)):aw ys L (aB []):=by
 have:=o.taken 0;simpa using this
theorem Mn(l:List (ByteArray×Pl))(o:aw ys L (gN l)):aw ys L (gN []):=by
 rcases o.Vm with ⟨f,m,_⟩ | ⟨g,b,c,h,i,d,e,k⟩
 ·subst f
  exact⟨by simp[gN,nD],Q1 ⟨by simp[gN],by simp[gN]⟩⟩
 ·obtain⟨j,a⟩:=L
  simp only at c i d e;subst c;exact⟨by simp[gN,nD],QV ⟨g,a,b,rfl,Ro _,h,by simp[gN],d,e,by simp[gN,nD]⟩⟩
theorem aR.addst{w1:World}{d:Db}(T:aR n H y k o d l)(G:ab [] n v)(ho:k.length=D)(s:St)(C B:Hd)(N M:Nat)(ac:C.blk=some N)(Y:B.blk=some M)(Z:n.heap.size<=N)(X:n.heap.size<=M)(I:N≠M)(os:aw v C (aB s.U6))(op:aw v B (gN s.Vh))(g p:Nat)(ad:aw w1 ⟨some ⟨g,0,none⟩,p⟩ ⟨(iE d.Vn l).e,(iE d.Vn l).size,(iE d.Vn l).n+1,(iE d.Vn l).xs++JO s C B⟩)(F:v.grownBy w1 (l 6).blk)(z:(l 6).blk=some g∨v.heap.size<=g) :
  w1.cell? ⟨H,D+6,none⟩=some (.slice (l 6).ao d.Vn.length (l 6).cap)/\w1.frozen? ⟨H,D+6,none⟩=false /\
  Hid (∃R,aR (w1.setCell ⟨H,D+6,none⟩ (.slice (some ⟨g,0,none⟩) ((iE d.Vn l).n+1) p)) H y k o { d with Vn:=d.Vn++[s] } R /\
   aA H n l (w1.setCell ⟨H,D+6,none⟩ (.slice (some ⟨g,0,none⟩) ((iE d.Vn l).n+1) p)) R/\∀j,j<10->j≠6->R j=l j):=by
 have h:=T.Vb G;have O:=(F.block H h.lt (fun e=>h.off 6 e.symm)).trans h.blk;refine⟨(aa O (D+6)).trans (Am k (b9 d l) o D 6 ho (by simp[b9])),am O _,?_⟩;have V:=fun {A} (O:f9 l A)=>T.inlt O
 have af:=T.lt;obtain⟨b,x⟩:∃b,b=g9 (g9 l (10+2*d.Vn.length) C) (11+2*d.Vn.length) B:=⟨_,rfl⟩
 have r:∀j,j≠10+2*d.Vn.length->j≠11+2*d.Vn.length->b j=l j:=fun j a c=>by rw[x,bU _ _ _ _ c,bU _ _ _ _ a]
 have K:b (10+2*d.Vn.length)=C:=by rw[x,bU _ _ _ _ (by omega),dh]
 have L:b (11+2*d.Vn.length)=B:=by rw[x,dh]
 have e4:mo d.Vn b=mo d.Vn l:=uR _ _ _ (fun j w=>r j (by omega) (by omega));clear x
 have el:b9 d b=b9 d l:=by
  unfold b9;rw[r 0 (by omega) (by omega),r 1 (by omega) (by omega),r 2 (by omega) (by omega),r 3 (by omega) (by omega),r 4 (by omega) (by omega),r 5 (by omega) (by omega),r 6 (by omega) (by omega),r 7 (by omega) (by omega),r 8 (by omega) (by omega),r 9 (by omega) (by omega)]
 have er:∀j,aU d b j=aU d l j:=by
  intro j;unfold aU
  split <;> first | rfl | (simp only[iE,e4])
 have J:∀j,(b j).blk=(l j).blk∨((b j).blk=some N/\j=10+2*d.Vn.length)∨((b j).blk=some M/\j=11+2*d.Vn.length):=by
  intro j
  by_cases a:j=10+2*d.Vn.length
  ·subst a;rw[K];exact QV (Q1 ⟨ac,rfl⟩)
  ·by_cases c:j=11+2*d.Vn.length
   ·subst c;rw[L];exact QV (QV ⟨Y,rfl⟩)
   ·rw[r j a c];exact Q1 rfl
 have D1:aR v H y k o d b:=by
  refine⟨by rw[el];exact h.blk,?_,?_,?_⟩
  ·intro j
   rw[er j]
   by_cases a:j=10+2*d.Vn.length
   ·subst a
    rw[K]
    have:aU d l (10+2*d.Vn.length)=aB []:=by
     rw[show 10+2*d.Vn.length=2*d.Vn.length+10 by omega];simp[aU,inner,symsAt]
    rw[this];exact Ml v C _ os
   ·by_cases c:j=11+2*d.Vn.length
    ·subst c
     rw[L]
     have:aU d l (11+2*d.Vn.length)=gN []:=by
      rw[show 11+2*d.Vn.length=(2*d.Vn.length+1)+10 by omega];have q:(2*d.Vn.length+1) % 2=1:=by omega
      have q2:(2*d.Vn.length+1) / 2=d.Vn.length:=by omega
      simp[aU,inner,ti,q,q2]
     rw[this];exact Mn v B _ op
    ·rw[r j a c];exact h.own j
  ·intro i j U
   have f:∀i A,(l i).blk=some A->A<n.heap.size:=fun i A e=>V ⟨i,e⟩
   rcases J i with a | ⟨a,ai⟩ | ⟨a,ai⟩ <;> rcases J j with c | ⟨c,cj⟩ | ⟨c,cj⟩ <;> rw[a,c]
   ·exact h.apart i j U
   ·cases e:(l i).blk with
    | none=>exact Q1 rfl
    | some A=>right;intro t;cases t;have:=f i _ e;omega
   ·cases e:(l i).blk with
    | none=>exact Q1 rfl
    | some A=>right;intro t;cases t;have:=f i _ e;omega
   ·right;intro t;have:=f j _ t.symm;omega
   ·omega
   ·right;intro t;cases t;exact I rfl
   ·right;intro t;have:=f j _ t.symm;omega
   ·right;intro t;cases t;exact I rfl
   ·omega
  ·intro j
   rcases J j with a | ⟨a,_⟩ | ⟨a,_⟩ <;> rw[a]
   ·exact h.off j
   ·intro e;cases e;omega
   ·intro e;cases e;omega
 have T1:aA H n l v b:=by
  refine⟨G.toP (by simp),?_⟩;rintro A ⟨j,w⟩
  rcases J j with a | ⟨a,_⟩ | ⟨a,_⟩ <;> rw[a]at w
  ·exact Q1 ⟨j,w⟩
  ·cases w;exact QV Z
  ·cases w;exact QV X
 have h6:b 6=l 6:=r 6 (by omega) (by omega)
 have S:aU { d with Vn:=d.Vn++[s] } b 6=⟨(iE d.Vn l).e,(iE d.Vn l).size,(iE d.Vn l).n+1,(iE d.Vn l).xs++JO s C B⟩:=by
  simp only[aU,iE,JZ,K,L,e4,List.length_append,List.length_cons,List.length_nil]
 have P:=D1.putG (d':={ d with Vn:=d.Vn++[s] }) D 6 ho 6 (by omega) ⟨some ⟨g,0,none⟩,p⟩ (by rw[S];exact ad) (by rw[h6];exact F)
  (by
    rcases z with e | e
    ·exact QV (Q1 (by rw[h6];exact e.symm))
    ·exact QV (QV ⟨g,rfl,e⟩))
  (by
   intro j w
   by_cases a:j=10+2*d.Vn.length
   ·subst a
    rw[K]
    have:aU { d with Vn:=d.Vn++[s] } b (10+2*d.Vn.length)=aB s.U6:=by
     rw[show 10+2*d.Vn.length=2*d.Vn.length+10 by omega];simp[aU,inner,symsAt]
    rw[this];exact os
   ·by_cases c:j=11+2*d.Vn.length
    ·subst c
     rw[L]
     have:aU { d with Vn:=d.Vn++[s] } b (11+2*d.Vn.length)=gN s.Vh:=by
      rw[show 11+2*d.Vn.length=(2*d.Vn.length+1)+10 by omega];have q:(2*d.Vn.length+1) % 2=1:=by omega
      have q2:(2*d.Vn.length+1) / 2=d.Vn.length:=by omega
      simp[aU,inner,ti,q,q2]
     rw[this];exact op
    ·have:aU { d with Vn:=d.Vn++[s] } b j=aU d b j:=by
      match j,w,a,c with
      | 0,_,_,_=>rfl
      | 1,_,_,_=>rfl
      | 2,_,_,_=>rfl
      | 3,_,_,_=>rfl
      | 4,_,_,_=>rfl
      | 5,_,_,_=>rfl
      | 6,w,_,_=>exact absurd rfl w
      | 7,_,_,_=>rfl
      | 8,_,_,_=>rfl
      | 9,_,_,_=>rfl
      | m+10,_,a,c =>
       have hm:m / 2≠d.Vn.length:=by omega
       have e:(d.Vn++[s])[m / 2]?=d.Vn[m / 2]?:=by
        rcases UR (m / 2) d.Vn.length with Q | Q
        ·exact Q7 Q
        ·rw[Q5 Q,Rx Q,Rx (by simp;omega)]
       simp only[aU,inner,symsAt,ti,e]
     rw[this];exact D1.own j)
  (.slice (some ⟨g,0,none⟩) ((iE d.Vn l).n+1) p) (by omega) (by
   rw[el];have u:∀j,j<10->j≠6->g9 b 6 (⟨some ⟨g,0,none⟩,p⟩:Hd) j=l j:=fun j w W=>by rw[bU _ _ _ _ W];exact r j (by omega) (by omega)
   unfold b9;rw[u 0 (by omega) (by omega),u 1 (by omega) (by omega),u 2 (by omega) (by omega),u 3 (by omega) (by omega),u 4 (by omega) (by omega),u 5 (by omega) (by omega),u 7 (by omega) (by omega),u 8 (by omega) (by omega),u 9 (by omega) (by omega),dh];simp[iE])
 exact⟨_,P.1,T1.trans P.2,fun j w W=>by rw[bU _ _ _ _ W];exact r j (by omega) (by omega)⟩
theorem FL(l:List (ByteArray×Pl)):∀u∈nD l,u.oneCell'=true:=by
 intro u a;simp only[nD,List.mem_flatMap]at a;obtain⟨p,_,a⟩:=a;simp only[qZ,List.mem_cons,List.not_mem_nil,or_false]at a
 rcases a with rfl | rfl | rfl | rfl <;> rfl
theorem Oc(s:St)(a b:Hd):∀u∈JO s a b,u.oneCell'=true:=by
 intro u c;simp only[JO,List.mem_cons,List.not_mem_nil,or_false]at c
 rcases c with rfl | rfl | rfl | rfl | rfl | rfl | rfl | rfl <;> rfl
theorem rK(a:Db)(H:Nat->Hd)(k:Int)(p E:ByteArray)(l c:Int)(w:World)(h:aR w f T S d a H)(ho:S.length=b)(hs:fK a 100000000) :
  Calls prog 268 #[.pointer (some ⟨f,b+6,none⟩),.agg #[.int .i64 k,.string p,.slice (H 8).ao a.U6.length (H 8).cap,.slice (H 9).ao a.Vh.length (H 9).cap,.string E,.int .i64 l,.int .i64 c,.int .i64 0]] w fun e w' =>
   e=.returned (.tuple #[])/\∃Z,aR w' f T S d { a with Vn:=a.Vn++[⟨k,p,a.U6,a.Vh,⟨E,l,c⟩,0⟩] } Z/\aA f w H w' Z/\∀j,j<10->j≠6->Z j=H j:=by
 obtain⟨i0,hi,ba,aS,bc⟩:=Re js;obtain⟨i1,ar,a6,az,a7⟩:=Re OC;obtain⟨i2,a2,a3,a4,a5⟩:=Re Qb;have bk:=hs.U6;have bl:=hs.Vh;have bj:=hs.Vn;have m1:=fun w=>dB (P:=prog) w 61 9 i0 _ underlying61 hi ba a.U6.length 1 aS (by rw[bc];omega) (by omega)
 have m2:=fun w=>dB (P:=prog) w 156 229 i1 _ underlying156 ar a6 a.Vh.length 4 az (by rw[a7];omega) (by omega)
 obtain⟨C,A⟩:∃mc,mc=madeCells (Value.string ⟨#[]⟩).cells (a.U6.length*1):=⟨_,rfl⟩
 obtain⟨M,B⟩:∃mc,mc=madeCells (Value.agg #[.string ⟨#[]⟩,.string ⟨#[]⟩,.int .i64 0,.int .i64 0]).cells (a.Vh.length*4):=⟨_,rfl⟩
 have z1:C.size=a.U6.length*1:=by rw[A,Su]
 have z2:M.size=a.Vh.length*4:=by rw[B,Su]
 rw[<-A]at m1;rw[<-B]at m2;clear A B;obtain⟨bx,q⟩:∃bx:Array Value,bx=#[.int .i64 k,.string p,.slice (H 8).ao a.U6.length (H 8).cap,.slice (H 9).ao a.Vh.length (H 9).cap,.string E,.int .i64 l,.int .i64 c,.int .i64 0]:=⟨_,rfl⟩
 obtain⟨N,t⟩:∃N,N=(w.alloc (.cells #[.int .i64 k,.string p,.slice (H 8).ao a.U6.length (H 8).cap,.slice (H 9).ao a.Vh.length (H 9).cap,.string E,.int .i64 l,.int .i64 c,.int .i64 0] 158)).alloc (.cells C 9):=⟨_,rfl⟩
 have K2:ab [] w N:=by rw[t];exact((ab.refl [] _).alloc _).alloc _
 have D2:=h.Vb K2;have Z2:N.heap.size=w.heap.size+2:=by rw[t];simp
 have B2:N.heap[w.heap.size]?=some (.cells bx 158 (0,0)):=by
  rw[t,q];exact((ab.refl [] _).alloc _).get (QS _ _) (by simp)
 have G2:N.heap[w.heap.size+1]?=some (.cells C 9 (0,0)):=by
  rw[t];have:=QS (w.alloc (.cells #[.int .i64 k,.string p,.slice (H 8).ao a.U6.length (H 8).cap,.slice (H 9).ao a.Vh.length (H 9).cap,.string E,.int .i64 l,.int .i64 c,.int .i64 0] 158)) (.cells C 9);simpa using this
 have ad:Hid _:=t.symm;have bf:=h.lt;have ai:Hid ((prog.info? (aB a.U6).e).map (·.size)=some (aB a.U6).size):=by show _=_;simp[aB,hi,aS]
 have al:Hid ((prog.info? (gN a.Vh).e).map (·.size)=some (gN a.Vh).size):=by show _=_;simp[gN,ar,az]
 clear t;go_enter func268,ntmps268
 go_upto_region 2 with fail
 rw[ad.out];have b2:N.cell? ⟨w.heap.size,2,none⟩=some (.slice (H 8).ao a.U6.length (H 8).cap):=by rw[aa B2,q];rfl
 clear ad m1;obtain⟨w3,an,Q,U,L⟩:=tP (P:=prog) N 61 61 3 (w.heap.size+1) a.U6.length (H 8) (aB a.U6) C 9 underlying61 ai.out G2 (D2.own 8) z1 (lY _);simp only[aB]at an Q;have K3:ab [] w w3:=((K2.mono (S':=[w.heap.size+1]) (by simp)).trans U).mono (by simp);have B3:=U.get B2 (by simp);rw[Z2]at L;have b3:w3.cell? ⟨w.heap.size,3,none⟩=some (.slice (H 9).ao a.Vh.length (H 9).cap):=by rw[aa B3,q];rfl
 clear G2 B2 D2 U K2;obtain⟨O,x⟩:∃O,O=w3.alloc (.cells M 229):=⟨_,rfl⟩
 have K4:ab [] w O:=by rw[x];exact K3.alloc _
 have V:ab [] w3 O:=by rw[x];exact(ab.refl [] _).alloc _
 have D4:=h.Vb K4;have B4:=V.get B3 (by simp);have S4:=V.get Q (by simp);have G4:O.heap[w.heap.size+2]?=some (.cells M 229 (0,0)):=by rw[x,<-L];exact QS _ _
 have af:Hid _:=x.symm;have Z4:O.heap.size=w.heap.size+3:=by rw[x];simp[L]
 clear x V
 go_upto_region 4 with fail
 clear an b2;rw[af.out];have b4:O.cell? ⟨w.heap.size,3,none⟩=some (.slice (H 9).ao a.Vh.length (H 9).cap):=by rw[aa B4,q];rfl
 clear af m2 b3;obtain⟨Y,ap,R,J,bd⟩:=tP (P:=prog) O 156 156 3 (w.heap.size+2) a.Vh.length (H 9) (gN a.Vh) M 229 underlying156 al.out G4 (D4.own 9) z2 (FL _);simp only[gN]at ap R;have K5:ab [] w Y:=((K4.mono (S':=[w.heap.size+2]) (by simp)).trans J).mono (by simp);have X:=J.get B4 (by simp);have S5:=J.get S4 (by simp);rw[Z4]at bd;clear G4 B4 D4 J K4 S4;have aT:Y.cell? ⟨w.heap.size,2,none⟩=some (.slice (H 8).ao a.U6.length (H 8).cap):=by rw[aa X,q];rfl
 have a0:Y.cell? ⟨w.heap.size,3,none⟩=some (.slice (H 9).ao a.Vh.length (H 9).cap):=by rw[aa X,q];rfl
 have a1:Y.cell? ⟨w.heap.size,7,none⟩=some (.int .i64 0):=by rw[aa X,q];rfl
 have fx:=am X;obtain⟨D,z⟩:∃D,D=((Y.setCell ⟨w.heap.size,2,none⟩ (.slice (some ⟨w.heap.size+1,0,none⟩) a.U6.length a.U6.length)).setCell ⟨w.heap.size,3,none⟩ (.slice (some ⟨w.heap.size+2,0,none⟩) a.Vh.length a.Vh.length)).setCell ⟨w.heap.size,7,none⟩ (.int .i64 0):=⟨_,rfl⟩
 have ag:Hid _:=z.symm;have K8:ab [] w D:=by rw[z];exact((K5.setCell (QV (QR _)) _).setCell (QV (QR _)) _).setCell (QV (QR _)) _
 have W:ab [w.heap.size] Y D:=by rw[z];exact(((ab.refl _ _).setCell (Q1 (by simp)) _).setCell (Q1 (by simp)) _).setCell (Q1 (by simp)) _
 have B8:D.heap[w.heap.size]?=some (.cells (JO ⟨k,p,a.U6,a.Vh,⟨E,l,c⟩,0⟩ ⟨some ⟨w.heap.size+1,0,none⟩,a.U6.length⟩ ⟨some ⟨w.heap.size+2,0,none⟩,a.Vh.length⟩).toArray 158 (0,0)):=by
  rw[z,ah (ah (ah X _ _) _ _),q];rfl
 have S8:=W.get S5 (by simp);have P8:=W.get R (by simp);clear z W S5 R X
 go_upto_region 8 with fail
 rw[ag.out];clear ag ap aT a0 a1 fx b4 K5 q Q L B3 K3;have y:=fun j v (hv:(JO ⟨k,p,a.U6,a.Vh,⟨E,l,c⟩,0⟩ ⟨some ⟨w.heap.size+1,0,none⟩,a.U6.length⟩ ⟨some ⟨w.heap.size+2,0,none⟩,a.Vh.length⟩)[j]?=some v)=>(aa B8 j).trans (by simpa using hv)
 have y0:=y 0 _ rfl;have y1:=y 1 _ rfl;have y2:=y 2 _ rfl;have y3:=y 3 _ rfl;have y4:=y 4 _ rfl;have y5:=y 5 _ rfl;have y6:=y 6 _ rfl;have y7:=y 7 _ rfl;simp only at y0 y1 y2 y3 y4 y5 y6 y7;clear y;have D8:=h.Vb K8;have q6:=D8.cellAt b ho 6 (by omega);simp only[b9,List.getElem?_cons_succ,List.getElem?_cons_zero]at q6;have bg:=D8.free;have be:=D8.lt;obtain⟨i,o⟩:∃i:List Value,i=JO ⟨k,p,a.U6,a.Vh,⟨E,l,c⟩,0⟩ ⟨some ⟨w.heap.size+1,0,none⟩,a.U6.length⟩ ⟨some ⟨w.heap.size+2,0,none⟩,a.Vh.length⟩:=⟨_,rfl⟩
 obtain⟨F,G⟩:∃F,F=(D.alloc (.cells #[.int .i64 k,.string p,.slice (some ⟨w.heap.size+1,0,none⟩) a.U6.length a.U6.length,.slice (some ⟨w.heap.size+2,0,none⟩) a.Vh.length a.Vh.length,.string E,.int .i64 l,.int .i64 c,.int .i64 0] 158)).drew:=⟨_,rfl⟩
 have K9:ab [] D F:=by rw[G];exact((ab.refl [] _).alloc _).drew
 have G9:F.heap[D.heap.size]?=some (.cells i.toArray 158 (0,0)):=by rw[G,o];exact QS _ _
 have O1:aw F ⟨some ⟨w.heap.size+1,0,none⟩,a.U6.length⟩ (aB a.U6):=aw.made (r:=aB a.U6) (K9.get S8 (by simp)) (C9 _) (by simp only[aB];unfold maxLen;omega);have O2:aw F ⟨some ⟨w.heap.size+2,0,none⟩,a.Vh.length⟩ (gN a.Vh):=aw.made (r:=gN a.Vh) (K9.get P8 (by simp)) (FK _) (by simp only[gN];unfold maxLen;omega);have D9:Hid (aR F f T S d a H):=D8.Vb K9
 have s2:Hid (∀j u,i[j]?=some u->F.cell? ((⟨D.heap.size,0,none⟩:Addr).add j)=some u):=by
  intro j u hj;rw[bL,aa G9];simpa using hj
 have s3:Hid (∀u∈i,u.oneCell'=true):=by rw[o];exact Oc _ _ _
 have s4:Hid ((iE a.Vn H).n+1<=maxLen):=by show _<=_;simp only[iE];unfold maxLen;omega
 have s5:Hid (((iE a.Vn H).n+1)*112<=140737488355328):=by show _<=_;simp only[iE];omega
 have AF:=fun(g s:Nat) (w1:World) (K:aw w1 ⟨some ⟨g,0,none⟩,s⟩ ⟨(iE a.Vn H).e,(iE a.Vn H).size,(iE a.Vn H).n+1,(iE a.Vn H).xs++i⟩) I m=>h.addst (K8.trans K9) ho ⟨k,p,a.U6,a.Vh,⟨E,l,c⟩,0⟩ ⟨some ⟨w.heap.size+1,0,none⟩,a.U6.length⟩ ⟨some ⟨w.heap.size+2,0,none⟩,a.Vh.length⟩ (w.heap.size+1) (w.heap.size+2) rfl rfl (by omega) (by omega) (by omega) O1 O2 g s (w1:=w1) (by rw[<-o];exact K) I m
 have ac:Hid _:=AF;have ax:Hid (i.length=1*(iE a.Vn H).size):=by show _=_;rw[o];rfl
 rw[G]at D9 s2 ac;clear AF O1 O2 G9 K9 G F o P8 S8 B8
 go_region_law (refine cd rfl (.tmp 31) (.tmp 33) 74 rfl i2 (.agg #[.int .i64 0,.string ⟨#[]⟩,.slice none 0 0,.slice none 0 0,.string ⟨#[]⟩,.int .i64 0,.int .i64 0,.int .i64 0]) 112 (H 6) (iE a.Vn H) underlying74 a2 a3 a4 a5 rfl (Uz 7) (by simp[Act.eval] <;> rfl) (D9.out.own 6) ⟨D.heap.size,0,none⟩ 1 1 i (by simp[Act.eval]) ax.out s2.out s3.out Rc s4.out s5.out ?_;intro g s w1 K I m;obtain⟨k5,f5,HP⟩:=ac.out g s w1 K I (by simpa using m);clear K I m)
 all_goals go_wp2
 all_goals go_end0
 all_goals
  obtain⟨Z,P1,P2,P3⟩:=HP.out;exact⟨rfl,Z,P1,P2,P3⟩
def mY(d:Db)(p:Pl):Db:={ d with Vn:=d.Vn++[⟨d.kind,d.label,d.U6,d.Vh,p,0⟩] }
def mO(d:Db):Db:=if(d.kind==2)=true/\1<d.U6.length then { d with Vi:=d.Vi++[d.U6.getD 1 ⟨#[]⟩] } else d
def aY(d:Db)(p:Pl):Db :=
 if(d.kind==7)=true then { d with U8:=d.U8++d.U6 }
 else if(d.kind==8)=true then dO d d.U6.length
 else mY (mO d) p
theorem zy{d:Db}(c:aR n H y k o d l)(g:k.length=D)(e:l 8=N 8)(f:l 9=N 9) :
  n.cell? ⟨H,D+8,none⟩=some (.int .i64 d.kind)/\n.cell? ⟨H,D+9,none⟩=some (.string d.label)/\n.cell? ⟨H,D+10,none⟩=some (.slice (N 8).ao d.U6.length (N 8).cap)/\n.cell? ⟨H,D+12,none⟩=some (.slice (N 9).ao d.Vh.length (N 9).cap):=by
 obtain⟨m,p,q,r,s,t,u,v,i,j,a,h,b⟩:=c.cells D g;rw[e]at a;rw[f]at b;exact⟨i,j,a,b⟩
theorem zx{c:Int}(T:aA H n l v N)(B:n.heap[y]?=some (.cells #[.string g,.int .i64 yt,.int .i64 c] 36 (0,0)))(b:y≠H)(d:∀k,f9 l k->k≠y) :
  v.cell? ⟨y,0,none⟩=some (.string g)/\v.cell? ⟨y,1,none⟩=some (.int .i64 yt)/\v.cell? ⟨y,2,none⟩=some (.int .i64 c):=by
 have a:=T.1.get B (by rintro (e | e);exact b e;exact d _ e rfl);refine⟨?_,?_,?_⟩ <;> rw[aa a] <;> rfl
theorem Bt(a:Db)(H:Nat->Hd)(i:ByteArray)(l c:Int)(w:World)(h:aR w f T S d a H)(m:S.length=b)(hm:0<a.U6.length)(j:fK a 10000000) :
  Calls prog 252 #[.pointer (some ⟨f,b,none⟩),.agg #[.string i,.int .i64 l,.int .i64 c]] w fun e g=>e=.returned (.tuple #[])/\∃H',aR g f T S d (aY a ⟨i,l,c⟩) H'/\aA f w H g H':=by
 obtain⟨W,Y⟩:∃W,W=w.alloc (.cells #[.string i,.int .i64 l,.int .i64 c] 36):=⟨_,rfl⟩
 have K:ab [] w W:=by rw[Y];exact(ab.refl [] _).alloc _
 have D:=h.Vb K;have L:Hid _:=Y.symm;have B:W.heap[w.heap.size]?=some (.cells #[.string i,.int .i64 l,.int .i64 c] 36 (0,0)):=by rw[Y];exact QS _ _
 have p:w.heap.size≠f:=by have:=h.lt;omega
 have z:Hid (∀k,f9 H k->k≠w.heap.size):=fun k hk=>by have:=h.inlt hk;omega
 have q:=(show Hid (fK a 100000000) from⟨by have:=j.Ve;omega,by have:=j.U8;omega,by have:=j.U9;omega,by have:=j.Vf;omega,by have:=j.Vi;omega,by have:=j.blocks;omega,by have:=j.Vn;omega,by have:=j.rbl;omega,by have:=j.U6;omega,by have:=j.Vh;omega⟩);clear Y;obtain⟨q0,q1,q2,q3,q4,q5,q6,q7,q8,q9,r,E,F⟩:=D.cells b m;clear q0 q1 q2 q3 q4 q5 q6 q7 E;have an:=j.U6
 cases Z:(a.kind==7)
 ·cases k8:(a.kind==8)
  ·by_cases I:(a.kind==2)=true/\1<a.U6.length
   ·have o:Hid (aY a ⟨i,l,c⟩=mY { a with Vi:=a.Vi++[a.U6.getD 1 ⟨#[]⟩] } ⟨i,l,c⟩):=by show aY a ⟨i,l,c⟩=_;unfold aY mO;rw[Z,k8,QW I];simp
    obtain⟨N,A⟩:=I;have hx:a.U6.getD 1 ⟨#[]⟩=a.U6[1]:=by rw[QQ,QP A];rfl
    rw[hx]at o;have C:aw W (H 8) (aB a.U6):=D.own 8
    rcases C.Vm with ⟨_,h0,_⟩ | ⟨g8,ag,e8,-,ad,-⟩
    ·have:a.U6.length=0:=h0
     omega
    ·have c1:=C.cell e8 1 (.string a.U6[1]) (tC a.U6 1 A)
     rw[e8]at r;have al:a.U6.length<=(H 8).cap:=ad;have ap:=j.Vi;clear C hx;generalize a.U6[1]=x at *;go_enter func252,ntmps252
     go_upto_region 1 with fail
     rw[L.out]
     go_upto_region 3 with fail
     go_region_with (go_at_call 267;refine(zB f T b S d a H x _ (by exact D.Vb (ab.refl [] _).drew) m (by omega)).mono ?_;rintro e V ⟨rfl,n,G,u⟩)
     all_goals
      have y:=z;have X:=u.1.get (by exact B) (by rintro (e | e);exact p e;exact y.out _ e rfl);have ai:=ae B
      have M:Hid (∀k,f9 n k->k≠w.heap.size):=fun k hk=>by
       rcases u.2 k hk with h' | h'
       ·exact y.out k h'
       ·rintro rfl
        have h2:W.heap.size<=w.heap.size:=h';omega
      have ac:Hid _:=(u.first (ab.refl [] _).drew).first K;clear q8 q9 r F c1 u D B;obtain⟨q0,q1,q2,q3,q4,q5,q6,q7,q8,q9,r,E,F⟩:=G.cells b m;clear q0 q1 q2 q3 q4 q5 q6 q7 E;simp only at q8 q9 r F;have O:V.cell? ⟨w.heap.size,0,none⟩=some (.string i):=by rw[aa X];rfl
      have P:V.cell? ⟨w.heap.size,1,none⟩=some (.int .i64 l):=by rw[aa X];rfl
      have Q:V.cell? ⟨w.heap.size,2,none⟩=some (.int .i64 c):=by rw[aa X];rfl
      have af:=(show Hid (fK { a with Vi:=a.Vi++[x] } 100000000) from⟨by have:=j.Ve;simp only;omega,by have:=j.U8;simp only;omega,by have:=j.U9;simp only;omega,by have:=j.Vf;simp only;omega,by simp;omega,by have:=j.blocks;simp only;omega,by have:=j.Vn;simp only;omega,by have:=j.rbl;simp only;omega,by have:=j.U6;simp only;omega,by have:=j.Vh;simp only;omega⟩)
     all_goals go_upto_region 4 with fail
     all_goals go_region_held3 (fun g=>g.cell? ⟨f,b+8,none⟩=some (.int .i64 a.kind)/\g.cell? ⟨f,b+9,none⟩=some (.string a.label)/\g.cell? ⟨f,b+10,none⟩=some (.slice (n 8).ao a.U6.length (n 8).cap)/\g.cell? ⟨f,b+12,none⟩=some (.slice (n 9).ao a.Vh.length (n 9).cap)/\g.cell? ⟨w.heap.size,0,none⟩=some (.string i)/\g.cell? ⟨w.heap.size,1,none⟩=some (.int .i64 l)/\g.cell? ⟨w.heap.size,2,none⟩=some (.int .i64 c)) (go_keep) (first | (go_at_call 268;refine(rK f T b S d { a with Vi:=a.Vi++[x] } n a.kind a.label i l c _ (by exact G.Vb (ab.refl [] _).drew) m af.out).mono ?_;rintro e w9 ⟨rfl,J,s,v,t⟩;obtain⟨r8,r9,R,U⟩:=zy s m (t 8 (by omega) (by omega)) (t 9 (by omega) (by omega));obtain⟨O,P,Q⟩:=zx v (by exact X) p M.out))
     all_goals go_wp2
     all_goals go_end0
     all_goals exact⟨rfl,J,by rw[o.out];exact s,aA.trans ac.out (v.first (ab.refl [] _).drew)⟩
   ·have o:Hid (aY a ⟨i,l,c⟩=mY a ⟨i,l,c⟩):=by show aY a ⟨i,l,c⟩=_;unfold aY mO;rw[Z,k8,QT I];simp
    cases N:(a.kind==2)
    ·clear I
     go_enter func252,ntmps252
     go_upto_region 1 with fail
     rw[L.out]
     go_upto_region 4 with fail
     have O:W.cell? ⟨w.heap.size,0,none⟩=some (.string i):=by rw[aa B];rfl
     have P:W.cell? ⟨w.heap.size,1,none⟩=some (.int .i64 l):=by rw[aa B];rfl
     have Q:W.cell? ⟨w.heap.size,2,none⟩=some (.int .i64 c):=by rw[aa B];rfl
     go_region_held3 (fun g=>g.cell? ⟨f,b+8,none⟩=some (.int .i64 a.kind)/\g.cell? ⟨f,b+9,none⟩=some (.string a.label)/\g.cell? ⟨f,b+10,none⟩=some (.slice (H 8).ao a.U6.length (H 8).cap)/\g.cell? ⟨f,b+12,none⟩=some (.slice (H 9).ao a.Vh.length (H 9).cap)/\g.cell? ⟨w.heap.size,0,none⟩=some (.string i)/\g.cell? ⟨w.heap.size,1,none⟩=some (.int .i64 l)/\g.cell? ⟨w.heap.size,2,none⟩=some (.int .i64 c)) (go_keep) (first | (go_at_call 268;refine(rK f T b S d a H a.kind a.label i l c _ (by exact D.Vb (ab.refl [] _).drew) m q.out).mono ?_;rintro e w9 ⟨rfl,J,s,v,t⟩;obtain⟨r8,r9,R,U⟩:=zy s m (t 8 (by omega) (by omega)) (t 9 (by omega) (by omega));obtain⟨O,P,Q⟩:=zx v (by exact B) p z.out))
     all_goals go_wp2
     all_goals go_end0
     all_goals exact⟨rfl,J,by rw[o.out];exact s,(v.first (ab.refl [] _).drew).first K⟩
    ·have A:¬1<a.U6.length:=fun hh=>I ⟨N,hh⟩
     clear I;go_enter func252,ntmps252
     go_upto_region 1 with fail
     rw[L.out]
     go_upto_region 4 with fail
     have O:W.cell? ⟨w.heap.size,0,none⟩=some (.string i):=by rw[aa B];rfl
     have P:W.cell? ⟨w.heap.size,1,none⟩=some (.int .i64 l):=by rw[aa B];rfl
     have Q:W.cell? ⟨w.heap.size,2,none⟩=some (.int .i64 c):=by rw[aa B];rfl
     go_region_held3 (fun g=>g.cell? ⟨f,b+8,none⟩=some (.int .i64 a.kind)/\g.cell? ⟨f,b+9,none⟩=some (.string a.label)/\g.cell? ⟨f,b+10,none⟩=some (.slice (H 8).ao a.U6.length (H 8).cap)/\g.cell? ⟨f,b+12,none⟩=some (.slice (H 9).ao a.Vh.length (H 9).cap)/\g.cell? ⟨w.heap.size,0,none⟩=some (.string i)/\g.cell? ⟨w.heap.size,1,none⟩=some (.int .i64 l)/\g.cell? ⟨w.heap.size,2,none⟩=some (.int .i64 c)) (go_keep) (first | (go_at_call 268;refine(rK f T b S d a H a.kind a.label i l c _ (by exact D.Vb (ab.refl [] _).drew) m q.out).mono ?_;rintro e w9 ⟨rfl,J,s,v,t⟩;obtain⟨r8,r9,R,U⟩:=zy s m (t 8 (by omega) (by omega)) (t 9 (by omega) (by omega));obtain⟨O,P,Q⟩:=zx v (by exact B) p z.out))
     all_goals go_wp2
     all_goals go_end0
     all_goals exact⟨rfl,J,by rw[o.out];exact s,(v.first (ab.refl [] _).drew).first K⟩
  ·have o:Hid (aY a ⟨i,l,c⟩=dO a a.U6.length):=by show aY a ⟨i,l,c⟩=_;unfold aY;rw[Z,k8];simp
   go_enter func252,ntmps252
   go_upto_region 1 with fail
   rw[L.out];go_wp2_with fail
   go_region_with (go_at_call 266;refine(tH f T b S d a H _ (by exact D.Vb (ab.refl [] _).drew) m hm q.out).mono ?_;rintro e V ⟨rfl,n,G,u⟩)
   all_goals go_wp2
   all_goals go_end0
   all_goals exact⟨rfl,n,by rw[o.out];exact G,(u.first (ab.refl [] _).drew).first K⟩
 ·have o:Hid (aY a ⟨i,l,c⟩={ a with U8:=a.U8++a.U6 }):=by show aY a ⟨i,l,c⟩=_;unfold aY;rw[Z];simp
  go_enter func252,ntmps252
  go_upto_region 1 with fail
  rw[L.out];go_wp2_with fail
  go_region_with (go_at_call 265;refine(tG f T b S d a H _ (by exact D.Vb (ab.refl [] _).drew) m hm q.out).mono ?_;rintro e V ⟨rfl,n,G,u⟩)
  all_goals go_wp2
  all_goals go_end0
  all_goals exact⟨rfl,n,by rw[o.out];exact G,(u.first (ab.refl [] _).drew).first K⟩
end Go.Proofs.YtpddjjabfbfifaaGreat
