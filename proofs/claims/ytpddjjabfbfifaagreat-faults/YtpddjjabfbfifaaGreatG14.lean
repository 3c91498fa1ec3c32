import Derived.Test.YtpddjjabfbfifaaGreatG06
import Derived.Test.YtpddjjabfbfifaaGreatG13
namespace Go.Proofs.YtpddjjabfbfifaaGreat
open Go.RowKit Tryz
set_option maxHeartbeats 0
variable{o:Fs}{b D L:Nat}{I:FP}{a:List Tk×List Bool}{M:List Tk}{n:List ByteArray}(v:List Tk)(k:Tk)(w:Fs)(H:ByteArray)(x:Int)(S:List St)(y:Nat)(f:List ByteArray)(i l:Nat)
section
variable (rec:Nat->List Bool->List Tk->List Tk×List Bool) (fs:Fs)
theorem GF(t:Tk)(r:List Tk)(b:List Bool)(a:List Tk)(h:((t.rule==0)&&(t.s.toList == []))=true):cv rec fs (t :: r) b a=((if dg a=true then a else a++[qO t 7]),b):=by
 rw[cv.eq_def];exact QW h
theorem wR(t:Tk)(r:List Tk)(b:List Bool)(a:List Tk)(h:((t.rule==0)&&(t.s.toList == []))=false)(c:(t.s.toList == [36,91])=false):cv rec fs (t :: r) b a=cv rec fs r b (a++[t]):=by
 rw[cv.eq_def];simp only;rw[QT (by rw[h];simp),QW c]
theorem Mb(t:Tk)(r:List Tk)(b:List Bool)(a:List Tk)(h:((t.rule==0)&&(t.s.toList == []))=false)(c:(t.s.toList == [36,91])=true)(d:dg a=false):cv rec fs (t :: r) b a=(a++[qO t 4],b):=by
 rw[cv.eq_def];simp only;rw[QT (by rw[h];simp),QT (by rw[c];simp),QW d]
theorem GG(t a:Tk)(c:List Bool)(b:List Tk)(h:((t.rule==0)&&(t.s.toList == []))=false)(d:(t.s.toList == [36,91])=true)(e:dg b=true):cv rec fs [t,a] c b=(b++[qO a (dm fs a.s a.rule)],c):=by
 rw[cv.eq_def];simp only;rw[QT (by rw[h];simp),QT (by rw[d];simp),QT (by rw[e];simp)]
theorem GH(t a b:Tk)(r:List Tk)(d:List Bool)(c:List Tk)(h:((t.rule==0)&&(t.s.toList == []))=false)(e:(t.s.toList == [36,91])=true)(f:dg c=true):cv rec fs (t :: a :: b :: r) d c =
  if(dm fs a.s a.rule==0)=false then(c++[qO a (dm fs a.s a.rule)],d)
  else if(dI b.s b.rule==0)=false then(c++[qO b (dI b.s b.rule)],d)
  else if d.getD (bF fs a.s).toNat true=true then cv rec fs r d c
  else if eu (rec (bF fs a.s).toNat d c).1=true then rec (bF fs a.s).toNat d c
  else cv rec fs r (rec (bF fs a.s).toNat d c).2 (rec (bF fs a.s).toNat d c).1:=by
 rw[cv.eq_def];simp only;rw[QT (by rw[h];simp),QT (by rw[e];simp),QT (by rw[f];simp)]
theorem Au(g:∀j d c,∃V,(rec j d c).1=c++V)(n:Nat):∀L,L.length<=n->∀d c,∃V,(cv rec fs L d c).1=c++V:=by
 induction n with
 | zero =>
  intro L f d c;have:L=[]:=Rk (by omega);subst this;exact⟨[],by rw[cv.eq_def];simp⟩
 | succ n m =>
  intro L f d c
  cases L with
  | nil=>exact⟨[],by rw[cv.eq_def];simp⟩
  | cons t r =>
   simp only[List.length_cons]at f
   cases h:((t.rule==0)&&(t.s.toList == []))
   ·cases e:(t.s.toList == [36,91])
    ·rw[wR rec fs t r d c h e]
     obtain⟨V,k⟩:=m r (by omega) d (c++[t]);exact⟨t :: V,by rw[k];simp⟩
    ·cases i:dg c
     ·rw[Mb rec fs t r d c h e i];exact⟨_,rfl⟩
     ·match r,f with
      | [],_ =>
       refine⟨[],?_⟩;rw[cv.eq_def];simp only;rw[QT (by rw[h];simp),QT (by rw[e];simp),QT (by rw[i];simp)];simp
      | [a],_=>rw[GG rec fs t a d c h e i];exact⟨_,rfl⟩
      | a :: b :: r',f =>
       simp only[List.length_cons]at f;rw[GH rec fs t a b r' d c h e i]
       split
       ·exact⟨_,rfl⟩
       ·split
        ·exact⟨_,rfl⟩
        ·split
         ·exact m r' (by omega) d c
         ·obtain⟨V,k⟩:=g (bF fs a.s).toNat d c
          split
          ·exact⟨V,k⟩
          ·obtain⟨o,l⟩:=m r' (by omega) (rec (bF fs a.s).toNat d c).2 (rec (bF fs a.s).toNat d c).1
           exact⟨V++o,by rw[l,k];simp⟩
   ·rw[GF rec fs t r d c h]
    simp only
    split
    ·exact⟨[],by simp⟩
    ·exact⟨_,rfl⟩
end
theorem ud(n:Nat):∀j b a,∃V,(dQ w n j b a).1=a++V:=by
 induction n with
 | zero=>intro j b a;exact⟨[],by simp[dQ]⟩
 | succ n c=>intro j b a;rw[dQ];exact Au (dQ w n) w c _ _ (QR _) _ _
def GV(L:List Tk):Prop:=∀t∈L,t.rule=0
def MW(t:Tk):Pl:=⟨t.file,t.line,t.col⟩
structure OJ(fs:Fs)(bg sn:List Bool):Prop where
 b:bg.length=4
 s:sn.length=fs.length
 e:∀j,j<fs.length->bg.getD j true=sn.getD j true
theorem OJ.set{a c:List Bool}(h:OJ o a c)(d:o.length<=4)(k:Nat)(g:k<o.length):OJ o (a.set k true) (c.set k true):=by
 refine⟨by rw[Rv];exact h.b,by rw[Rv];exact h.s,fun j f=>?_⟩;have:=h.b;have:=h.s;rw[QQ,QQ,RU,RU]
 by_cases e:k=j
 ·rw[QW e,QW e,QW (by omega),QW (by omega)]
 ·rw[QT e,QT e]
  have:=h.e j f;rw[QQ,QQ]at this;exact this
def qC(fs:Fs)(N:Nat)(res:FP)(R:List Tk×List Bool):Prop :=
 (res.1=cY/\oj R.1 res.2.2/\GV R.1/\OJ fs res.2.1 R.2/\R.1.length+1025*aQ R.2<=N) ∨
 (∃(W:List Tk) (u:Tk) (d:Db),R.1=W++[u]/\(u.rule==0)=false/\oj W d/\GV W/\res.1=(u.rule,MW u)) ∨
 ∃(W:List Tk) (t:Tk) (V:List Tk) (d:Db) (r:Int),R.1=W++t :: V/\t.rule=0/\oj W d/\W.length+1<=N/\bh (W++[t]) (aj (W++[t])) W.length=r/\(r==0)=false/\res.1=(r,MW t)
theorem qC.good(c:I.1=cY)(d:oj a.1 I.2.2)(e:GV a.1)(f:OJ o I.2.1 a.2)(g:a.1.length+1025*aQ a.2<=b):qC o b I a:=Q1 ⟨c,d,e,f,g⟩
theorem qC.ends(d:Db)(c:a.1=v++[k])(e:(k.rule==0)=false)(f:oj v d)(g:GV v)(h:I.1=(k.rule,MW k)):qC o b I a:=QV (Q1 ⟨v,k,d,c,e,f,g,h⟩)
theorem qC.rule(V:List Tk)(d:Db)(r:Int)(c:a.1=v++k :: V)(e:k.rule=0)(f:oj v d)(g:v.length+1<=b)(h:bh (v++[k]) (aj (v++[k])) v.length=r)(i:(r==0)=false)(j:I.1=(r,MW k)):qC o b I a:=QV (QV ⟨v,k,V,d,r,c,e,f,g,h,i,j⟩)
theorem ye(h:GV M):eu M=false:=by
 unfold eu
 cases e:M.getLast? with
 | none=>rfl
 | some t =>
  have:=h t (List.mem_of_getLast? e);simp[this]
theorem t9(k:Nat)(a:k<=H.size):(aI (ay H k).1=true->((ay H k).1.text.toList == [])=false/\(ay H k).1.rule=0)/\(aI (ay H k).1=false->(ay H k).1.text=⟨#[]⟩/\((ay H k).1.fin=true->(ay H k).1.rule=0)):=by
 have d:∀f k,k<=H.size->aI (bX H f k).1=false->(bX H f k).1.text=⟨#[]⟩/\((bX H f k).1.fin=true->(bX H f k).1.rule=0):=by
  intro f
  induction f with
  | zero=>intro k _ _;exact⟨rfl,fun h=>by cases h⟩
  | succ f g =>
   intro k a h;have c:=gq H k a;rw[bX]at h ⊢
   split
   ·next e =>
    rw[QW e]at h
    split
    ·exact⟨rfl,fun h=>by cases h⟩
    ·next b =>
     rw[QT b]at h;exact g _ c.2.1 h
   ·next e =>
    rw[QT e]at h
    split
    ·exact⟨rfl,fun h=>by cases h⟩
    ·next b =>
     rw[QT b]at h;exact(tu H k a).2 h
 unfold ay
 suffices hs:∀f k,k<=H.size->(aI (dH H f k).1=true->((dH H f k).1.text.toList == [])=false/\(dH H f k).1.rule=0)/\(aI (dH H f k).1=false->(dH H f k).1.text=⟨#[]⟩/\((dH H f k).1.fin=true->(dH H f k).1.rule=0)) from hs _ _ a
 clear a k;intro f
 induction f with
 | zero=>intro k a;exact⟨fun h=>by simp[dH,aI]at h,fun _=>⟨rfl,fun _=>rfl⟩⟩
 | succ f g =>
  intro k a;have c:=gq H k a;have i:=i9 H (bC H k).2 c.2.1;rw[dH]
  split
  ·split
   ·exact g _ i.2
   ·next b =>
    refine⟨fun h=>absurd h b,fun h=>?_⟩;exact d _ _ c.2.1 h
  ·exact tu H k a
theorem IS(h:(x==0)=false):dm w H x=x:=by unfold dm;exact QW h
theorem IT(h:x=0)(a:H=⟨#[]⟩):dm w H x=7:=by
 subst h a;unfold dm;rw[QT (by simp),QW oI]
theorem EF(h:x=0)(a:(H.toList == [])=false):dm w H x=if dA H=true then 5 else if bF w H<0 then 6 else 0:=by
 subst h;unfold dm;rw[QT (by simp),QT (by rw[a];simp),ia]
theorem DN(h:(x==0)=false):dI H x=x:=by unfold dI;exact QW h
theorem DO(h:x=0)(a:H=⟨#[]⟩):dI H x=7:=by
 subst h a;unfold dI;rw[QT (by simp),QW oI]
theorem Bm(h:x=0)(a:(H.toList == [])=false):dI H x=if(H.toList == [36,93])=false then 5 else 0:=by
 subst h;unfold dI;rw[QT (by simp),QT (by rw[a];simp)]
theorem Me(az:w.length<=4)(a0:∀j,j<w.length->(ak w j).size<=1024)(f:Nat):∀n x k c y d b N,x<w.length->k<=(ak w x).size->OJ w c y->aQ y<=n ->
  ((ak w x).size-k+1)+1025*aQ y<=f->oj b d->GV b->b.length+((ak w x).size-k+1)+1025*aQ y<=N->N<=100000 ->
  qC w N (bq w f x k c d) (cv (dQ w n) w (lZ (aE w x) (ak w x) k) y b):=by
 induction f with
 | zero=>intro n x k c y d b N _ _ _ _ h;omega
 | succ f ih =>
  intro n x k c y d b N hx hk hS hn hf K T hN U;have hl:=fG (ak w x) k hk;obtain⟨t1,t2⟩:=t9 (ak w x) k hk;have C:=K.open
  cases D:aI (ay (ak w x) k).1
  ·-- the file ends,or a word's stead is taken
   obtain⟨x1,x2⟩:=t2 D;rw[j5 _ _ k D]
   cases F:(ay (ak w x) k).1.fin
   ·have hr:((ay (ak w x) k).1.rule==0)=false:=km D F
    have P:((lH (aE w x) (ak w x) (ay (ak w x) k).1).rule==0&&((lH (aE w x) (ak w x) (ay (ak w x) k).1).s.toList == []))=false:=by simp only[lH];rw[hr];rfl
    have e2:((lH (aE w x) (ak w x) (ay (ak w x) k).1).s.toList == [36,91])=false:=by simp only[lH];rw[x1];decide +kernel
    rw[wR _ _ _ _ _ _ P e2,wk w f x k c d D (by rw[F];simp)];refine qC.ends b _ d (by rw[cv.eq_def]) hr K T ?_;simp[iK,F,lH,MW,kK]
   ·have P:((lH (aE w x) (ak w x) (ay (ak w x) k).1).rule==0&&((lH (aE w x) (ak w x) (ay (ak w x) k).1).s.toList == []))=true:=by simp only[lH];rw[x1,x2 F,oI];rfl
    rw[GF _ _ _ _ _ _ P]
    cases Q:dg b
    ·rw[Q]at C
     rw[wk w f x k c d D (by rw[C];simp)];refine qC.ends b (qO (lH (aE w x) (ak w x) (ay (ak w x) k).1) 7) d (by simp) rfl K T ?_;simp[iK,F,lH,MW,kK,qO]
    ·rw[Q]at C
     rw[zW w f x k c d D F C];exact qC.good rfl (by simp only[if_true];exact K) (by simp only[if_true];exact T) hS (by simp only[if_true];omega)
  ·have aS:=hl.2.2 D
   obtain⟨x1,x2⟩:=t1 D;rw[j6 _ _ k hk D];have P:((lH (aE w x) (ak w x) (ay (ak w x) k).1).rule==0&&((lH (aE w x) (ak w x) (ay (ak w x) k).1).s.toList == []))=false:=by simp only[lH];rw[x1];simp
   cases hi:((ay (ak w x) k).1.text.toList == [36,91])
   ·-- a word is taken
    rw[wR _ _ _ _ _ _ P (by exact hi)]
    have J:fZ w f x k c d=((if((aX d (ay (ak w x) k).1.text (kK (aE w x) (ak w x) (ay (ak w x) k).1.pos)).1==0)=true then cY else((aX d (ay (ak w x) k).1.text (kK (aE w x) (ak w x) (ay (ak w x) k).1.pos)).1,kK (aE w x) (ak w x) (ay (ak w x) k).1.pos),c,(aX d (ay (ak w x) k).1.text (kK (aE w x) (ak w x) (ay (ak w x) k).1.pos)).2),(ay (ak w x) k).2):=by
     unfold fZ jN;rw[hi];simp
    obtain⟨g1,g2⟩:=K.step (t:=lH (aE w x) (ak w x) (ay (ak w x) k).1) (by omega) x1 (kK (aE w x) (ak w x) (ay (ak w x) k).1.pos);have e3:(lH (aE w x) (ak w x) (ay (ak w x) k).1).s=(ay (ak w x) k).1.text:=rfl;rw[e3]at g1 g2
    cases h2:((aX d (ay (ak w x) k).1.text (kK (aE w x) (ak w x) (ay (ak w x) k).1.pos)).1==0)
    ·rw[ox w f x k c d D (by rw[J,h2];simpa using h2),J,h2]
     obtain⟨V,hV⟩:=Au (dQ w n) w (ud w n) _ _ (QR _) y (b++[lH (aE w x) (ak w x) (ay (ak w x) k).1]);exact qC.rule b (lH (aE w x) (ak w x) (ay (ak w x) k).1) V d _ (by rw[hV];simp) x2 K (by omega) g1 h2 (by simp[lH,MW,kK])
    ·rw[yD w f x k c d D (by rw[J,h2];rfl),J]
     refine ih n x _ c y _ _ N hx hl.2.1 hS hn (by omega) (g2 (by simpa using h2)) ?_ (by simp;omega) U;intro u hu
     rcases Rr.1 hu with hu | hu
     ·exact T u hu
     ·rw[Q9.1 hu];exact x2
   ·-- an inclusion
    have J:fZ w f x k c d=mX (cn w f) w x (ay (ak w x) k).2 (kK (aE w x) (ak w x) (ay (ak w x) k).1.pos) c d:=by
     unfold fZ jN;rw[hi,QW rfl]
    have p:∀(W:List Tk) (u:Tk) (fl:pA),rx w x (ay (ak w x) k).2 (kK (aE w x) (ak w x) (ay (ak w x) k).1.pos) d=.inl fl->fl=(u.rule,MW u)->(u.rule==0)=false->qC w N (bq w (f+1) x k c d) (b++[u],y):=fun W u fl af e h0=>by
     have e2:mX (cn w f) w x (ay (ak w x) k).2 (kK (aE w x) (ak w x) (ay (ak w x) k).1.pos) c d=((fl,c,d),(ay (ak w x) k).2):=by
      unfold mX;rw[af]
     rw[ox w f x k c d D (by rw[J,e2,e];exact h0),J,e2];exact qC.ends b u d rfl h0 K T e
    cases Q:dg b
    ·rw[Q]at C
     rw[Mb _ _ _ _ _ _ P (by exact hi) Q];exact p b (qO (lH (aE w x) (ak w x) (ay (ak w x) k).1) 4) _ (by unfold rx;rw[QW (by rw[C];rfl)];rfl) rfl rfl
    ·rw[Q]at C
     have v:¬kp d=true:=by rw[C];simp
     obtain⟨z,hz⟩:∃z,z=(ay (ak w x) k).2:=⟨_,rfl⟩
     rw[<-hz]at hl aS J p ⊢;have ha:=fG (ak w x) z hl.2.1;obtain⟨a1,a2⟩:=t9 (ak w x) z hl.2.1
     cases g:aI (ay (ak w x) z).1
     ·obtain⟨y1,y2⟩:=a2 g
      rw[j5 _ _ z g,GG _ _ _ _ _ _ P (by exact hi) Q]
      have O:dm w (lH (aE w x) (ak w x) (ay (ak w x) z).1).s (lH (aE w x) (ak w x) (ay (ak w x) z).1).rule=if(ay (ak w x) z).1.fin=true then 7 else(ay (ak w x) z).1.rule:=by
       cases B:(ay (ak w x) z).1.fin
       ·exact IS w _ _ (km g B)
       ·exact IT w _ _ (y2 B) y1
      refine p b _ _ (by unfold rx;rw[QT v,QW g]) (by simp only[iK,qO,MW];rw[O];rfl) ?_;simp only[qO];rw[O]
      cases B:(ay (ak w x) z).1.fin
      ·exact km g B
      ·rfl
     ·have ap:=ha.2.2 g
      obtain⟨y1,y2⟩:=a1 g;obtain⟨o,I⟩:∃o,o=(ay (ak w x) z).2:=⟨_,rfl⟩
      rw[j6 _ _ z hl.2.1 g,<-I];rw[<-I]at ha ap;have X:=fG (ak w x) o ha.2.1;obtain⟨b1,b2⟩:=t9 (ak w x) o ha.2.1
      obtain⟨tl,Y⟩:∃tl,lZ (aE w x) (ak w x) o=lH (aE w x) (ak w x) (ay (ak w x) o).1 :: tl:=by
       cases i:aI (ay (ak w x) o).1
       ·exact⟨[],j5 _ _ o i⟩
       ·exact⟨_,j6 _ _ o ha.2.1 i⟩
      rw[Y,GH _ _ _ _ _ _ _ _ P (by exact hi) Q]
      have O:dm w (lH (aE w x) (ak w x) (ay (ak w x) z).1).s (lH (aE w x) (ak w x) (ay (ak w x) z).1).rule=if dA (ay (ak w x) z).1.text=true then 5 else if bF w (ay (ak w x) z).1.text<0 then 6 else 0:=by
       exact EF w _ _ y2 y1
      rw[O];have ax:(lH (aE w x) (ak w x) (ay (ak w x) z).1).s=(ay (ak w x) z).1.text:=rfl;rw[ax]
      cases H:dA (ay (ak w x) z).1.text
      ·by_cases E:bF w (ay (ak w x) z).1.text<0
       ·simp only[Bool.false_eq_true,if_false,if_pos E]
        rw[QW (show((6:Int)==0)=false from rfl)];exact p b _ _ (by unfold rx;rw[QT v,QT (by rw[g];simp),QT (by rw[H];simp),QW E];rfl) rfl rfl
       ·simp only[Bool.false_eq_true,if_false,if_neg E]
        rw[QT (show ¬((0:Int)==0)=false by decide)]
        have ar:dI (lH (aE w x) (ak w x) (ay (ak w x) o).1).s (lH (aE w x) (ak w x) (ay (ak w x) o).1).rule=if aI (ay (ak w x) o).1=false then(if(ay (ak w x) o).1.fin=true then 7 else(ay (ak w x) o).1.rule) else if((ay (ak w x) o).1.text.toList == [36,93])=false then 5 else 0:=by
         cases i:aI (ay (ak w x) o).1
         ·obtain⟨y3,y4⟩:=b2 i
          rw[QW rfl]
          cases B:(ay (ak w x) o).1.fin
          ·exact DN _ _ (km i B)
          ·exact DO _ _ (y4 B) y3
         ·obtain⟨y3,y4⟩:=b1 i
          rw[QT (by simp)];exact Bm _ _ y4 y3
        rw[ar]
        cases i:aI (ay (ak w x) o).1
        ·rw[QW rfl]
         have ag:((if(ay (ak w x) o).1.fin=true then 7 else(ay (ak w x) o).1.rule)==0)=false:=by
          cases B:(ay (ak w x) o).1.fin
          ·exact km i B
          ·rfl
         rw[QW ag];exact p b _ _ (by unfold rx;rw[QT v,QT (by rw[g];simp),QT (by rw[H];simp),QT E,<-I,QW i];rfl) rfl ag
        ·simp only[Bool.true_eq_false,if_false]
         cases ad:((ay (ak w x) o).1.text.toList == [36,93])
         ·rw[QW rfl,QW (show((5:Int)==0)=false from rfl)]
          exact p b _ _ (by unfold rx;rw[QT v,QT (by rw[g];simp),QT (by rw[H];simp),QT E,<-I,QT (by rw[i];simp),QW ad];rfl) rfl rfl
         ·simp only[Bool.true_eq_false,if_false]
          rw[QT (show ¬((0:Int)==0)=false by decide)]
          -- the file is named
          have a4:=X.2.2 i
          have al:tl=lZ (aE w x) (ak w x) (ay (ak w x) o).2:=by
           rw[j6 _ _ o ha.2.1 i]at Y;exact(List.cons.inj Y).2.symm
          rw[al];obtain⟨j,hj⟩:∃j,j=(bF w (ay (ak w x) z).1.text).toNat:=⟨_,rfl⟩
          have M:j<w.length:=by
           rcases pI (ay (ak w x) z).1.text w with h | ⟨q,hq,h⟩
           ·rw[h]at E;omega
           ·rw[hj,h,Sa];exact hq
          rw[<-hj]
          have l:fZ w f x k c d=(cn w f j c d,(ay (ak w x) o).2):=by
           rw[J];unfold mX rx;rw[QT v,QT (by rw[g];simp),QT (by rw[H];simp),QT E,<-I,QT (by rw[i];simp),QT (by rw[ad];simp),<-hj]
          have G:=hS.e j M
          cases L:c.getD j true
          ·rw[L]at G
           have aT:y[j]?=some false:=by
            have:=hS.s;rw[QP (by omega)];rw[QQ,QP (by omega)]at G;exact congrArg some G.symm
           have a5:=lC y j aT;rw[QT (by rw[<-G];simp)];have A:cn w f j c d=bq w f j 0 (c.set j true) d:=by unfold cn;rw[L,QT (by simp)]
           obtain⟨m,hm⟩:∃m,n=m+1:=⟨n-1,by omega⟩
           have er:dQ w n j y b=cv (dQ w m) w (lZ (aE w j) (ak w j) 0) (y.set j true) b:=by rw[hm,dQ,zn]
           have a3:=a0 j M;have R1:=ih m j 0 (c.set j true) (y.set j true) d b (b.length+1025*aQ y) M (Ro _) (hS.set az j M) (by omega) (by omega) K T (by omega) (by omega);rw[<-er,<-A]at R1;have ai:=ud w n j y b;generalize dQ w n j y b=S at *
           rcases R1 with ⟨Z,R,r3,r4,r5⟩ | ⟨W,u,d0,Z,R,r3,r4,r5⟩ | ⟨W,t,V,d0,r,Z,R,r3,r4,r5,r6,r7⟩
           ·rw[ye r3,QT (by simp),yD w f x k c d D (by rw[l,Z];rfl),l]
            have a6:aQ S.2<=aQ y:=by
             obtain⟨V,hV⟩:=ai;rw[hV,Q0]at r5;omega
            exact ih n x _ _ S.2 _ S.1 N hx X.2.1 r4 (by omega) (by simp only;omega) R r3 (by simp only;omega) U
           ·have ac:eu S.1=true:=by unfold eu;rw[Z,Tc];simp only;rw[R];rfl
            rw[ac,QW rfl,ox w f x k c d D (by rw[l,r5];exact R),l];exact qC.ends W u d0 Z R r3 r4 r5
           ·rw[ox w f x k c d D (by rw[l,r7];exact r6),l]
            cases ac:eu S.1
            ·rw[QT (by simp)]
             obtain⟨V2,ao⟩:=Au (dQ w n) w (ud w n) _ (lZ (aE w x) (ak w x) (ay (ak w x) o).2) (QR _) S.2 S.1;exact qC.rule W t (V++V2) d0 r (by rw[ao,Z];simp) R r3 (by omega) r5 r6 r7
            ·rw[QW rfl]
             exact qC.rule W t V d0 r Z R r3 (by omega) r5 r6 r7
          ·rw[L]at G
           have A:cn w f j c d=(cY,c,d):=by unfold cn;rw[L,QW rfl]
           rw[QW G.symm,yD w f x k c d D (by rw[l,A];rfl),l,A];exact ih n x _ c y d b N hx X.2.1 hS hn (by omega) K T (by omega) U
      ·simp only[if_true]
       rw[QW (show((5:Int)==0)=false from rfl)];exact p b _ _ (by unfold rx;rw[QT v,QT (by rw[g];simp),QW H];rfl) rfl rfl
def Lj(t:Tk):pA:=(t.rule,MW t)
def fE(fs:Fs)(k:Nat):pA :=
 if((yp (cC fs k).1 (aj (cC fs k).1)).rule==0)=false then Lj (yp (cC fs k).1 (aj (cC fs k).1)) else Lj (cC fs k).2
theorem Gi{d:Db}(h:oj M d):yp M (aj M)=jf:=Oq h.u
theorem v7(k:w.length<=4)(q:∀j,j<w.length->(ak w j).size<=1024)(o:l<w.length) :
  (bK w l).1=fE w l/\(((bK w l).1.1==0)=true->oj (cC w l).1 (bK w l).2.2/\(cC w l).1.length<=10000):=by
 have i:OJ w F3 (List.replicate w.length false):=⟨rfl,by simp,fun j n=>by
  rw[QQ,QQ,Sf,QW n]
  match j,(show j<4 by omega) with
  | 0,_=>rfl
  | 1,_=>rfl
  | 2,_=>rfl
  | 3,_=>rfl⟩
 have p:(List.replicate w.length false)[l]?=some false:=by rw[Sf,QW o]
 have A:=lC _ l p;rw[mP]at A;have D:=q l o
 have H:bK w l=bq w 5000 l 0 (F3.set l true) fm:=by
  unfold bK cn;rw[i.e l o,QQ,p];rfl
 have I:dQ w w.length l (List.replicate w.length false) []=cv (dQ w (w.length-1)) w (lZ (aE w l) (ak w l) 0) ((List.replicate w.length false).set l true) []:=by
  obtain⟨m,K⟩:∃m,w.length=m+1:=⟨w.length-1,by omega⟩
  have:w.length-1=m:=by omega
  rw[this]
  conv=>lhs;rw[show dQ w w.length=dQ w (m+1) by rw[K]]
  rw[dQ,zn]
 have C:=Me w k q 5000 (w.length-1) l 0 (F3.set l true) ((List.replicate w.length false).set l true) fm [] 5000 o (Ro _) (i.set k l o) (by omega) (by omega) (Lm rfl) (fun t L=>by cases L) (by simp only[List.length_nil];omega) (by omega);rw[<-H,<-I]at C;have s:(dQ w w.length l (List.replicate w.length false) []).1=pt w l:=rfl;generalize dQ w w.length l (List.replicate w.length false) []=N at *;unfold fE cC
 rcases C with ⟨b,d,f,E,g⟩ | ⟨W,u,G,b,d,f,E,g⟩ | ⟨W,t,V,G,r,b,d,f,E,g,B,F⟩
 ·rw[s]at d f g
  simp only[ye f,Bool.false_eq_true,if_false];rw[Gi d,QT (by decide)];exact⟨b,fun _=>⟨d,by omega⟩⟩
 ·rw[s]at b
  have a:eu (pt w l)=true:=by unfold eu;rw[b,Tc];simp only;rw[d];rfl
  rw[a,QW rfl,b,List.dropLast_concat,Tc];simp only[Option.getD_some];rw[Gi f,QT (by decide)];exact⟨g,fun h=>by rw[g]at h;simp only at h;rw[d]at h;cases h⟩
 ·rw[s]at b
  obtain⟨c,x⟩:∃c,(if eu (pt w l)=true then((pt w l).dropLast,(pt w l).getLast?.getD jf) else(pt w l,jf)).1=(W++[t])++c:=by
   cases a:eu (pt w l)
   ·rw[QT (by simp)]
    exact⟨V,by simp only;rw[b];simp⟩
   ·rw[QW rfl]
    cases V with
    | nil =>
     unfold eu at a;rw[b,Tc]at a;simp only[d]at a
     cases a
    | cons v V=>exact⟨(v :: V).dropLast,by simp only;rw[b,List.dropLast_append_of_ne_nil (by simp),List.dropLast_cons_of_ne_nil (by simp)];simp⟩
  rw[x];have M:=rm W (t :: c) (by omega) f.u;have y:=vP (W++[t]) c (by simp;omega) W.length (by simp) (fun j n=>rm W [t] (by omega) f.u j n);rw[g]at y
  have z:=Lc (T:=(W++[t])++c) (S:=aj ((W++[t])++c)) (k:=W.length) (by simp) (by rw[y];exact B) (fun j n=>by
   have:=M j n;rw[show W++t :: c=(W++[t])++c by simp]at this;exact this)
  have J:((W++[t])++c).getD W.length jf=t:=by
   rw[QQ,Sy,Q5 (QR _),RY];simp
  rw[z,y,J];simp only;rw[QW B];exact⟨F,fun h=>by rw[F]at h;simp only at h;rw[B]at h;cases h⟩
def xX(R:List St)(a:Nat)(vs:List ByteArray)(k i j:Nat):Bool:=(List.range k).any (fun n=>sA R a n&&(bD vs (symsAt R n)).contains i&&(bD vs (symsAt R n)).contains j)
theorem Cr(a:List Nat)(b:List Bool)(q:Nat)(c:q<b.length):(kI i l a b).getD q false=(b.getD q false||a.any (fun g=>l*i+g==q)):=by
 unfold kI
 induction a generalizing b with
 | nil=>simp
 | cons m a f =>
  simp only[List.foldl_cons,List.any_cons];rw[f (b.set (l*i+m) true) (by simpa using c)]
  by_cases e:l*i+m=q
  ·subst e
   rw[QQ,Ug c];simp
  ·have d:(l*i+m==q)=false:=by rw[Rh];exact e
   rw[QQ,Us e,<-QQ,d,Sp]
theorem Cq(a r:List Nat)(b:List Bool)(q:Nat)(d:q<b.length):(r.foldl (fun b c=>kI l c a b) b).getD q false=(b.getD q false||r.any (fun c=>a.any (fun f=>c*l+f==q))):=by
 induction r generalizing b with
 | nil=>simp
 | cons m r e =>
  simp only[List.foldl_cons,List.any_cons];rw[e (kI l m a b) (by rw[pO];exact d),Cr l m a b q d,TF]
theorem CA{a c:Nat}(e:c<b)(f:L<b)(h:a*b+c=D*b+L):a=D/\c=L:=by
 have d:(a*b+c) / b=a:=by rw[Nat.mul_comm,Nat.mul_add_div (by omega)];rw[Nat.div_eq_of_lt e];omega
 have g:(D*b+L) / b=D:=by rw[Nat.mul_comm,Nat.mul_add_div (by omega)];rw[Nat.div_eq_of_lt f];omega
 rw[h]at d;have:a=D:=by omega
 subst this;exact⟨rfl,by omega⟩
theorem IP(k i j:Nat)(n:i<f.length)(e:j<f.length):(de S y f k).getD (i*f.length+j) false=xX S y f k i j:=by
 have g:i*f.length+j<f.length*f.length:=zj n e
 induction k with
 | zero =>
  unfold xX;rw[de,QQ,Sf,QW g];rfl
 | succ k h =>
  have l:xX S y f (k+1) i j=(xX S y f k i j||(sA S y k&&(bD f (symsAt S k)).contains i&&(bD f (symsAt S k)).contains j)):=by
   unfold xX;rw[R6,UW];simp
  rw[l,de]
  cases p:sA S y k
  ·simp only[Bool.false_eq_true,if_false,Bool.false_and,Bool.or_false]
   exact h
  ·simp only[if_true,Bool.true_and]
   unfold lS;rw[Cq _ _ _ _ _ (by rw[ko];exact g),h]
   congr 1
   rw[SA];simp only[List.any_eq_true,Bool.and_eq_true,List.contains_iff_mem,beq_iff_eq]
   constructor
   ·rintro ⟨q,c,r,b,m⟩
    obtain⟨o,d⟩:=R0 b;have a:=s9 f (symsAt S k) o d.1;rw[d.2]at a;obtain⟨rfl,rfl⟩:=CA a e m;exact⟨c,b⟩
   ·rintro ⟨c,b⟩
    exact⟨i,c,j,b,rfl⟩
theorem G0(a:i<f.length)(b:l<f.length):eD f.length (fN S y f) i l=(!(i==l)&&xX S y f S.length i l):=by
 unfold eD fN;rw[IP S y f S.length i l a b]
theorem wh{α:Type}(l:List Nat)(f g:Nat->List α)(h:∀x∈l,f x=g x):l.flatMap f=l.flatMap g:=by
 induction l with
 | nil=>rfl
 | cons a l c=>rw[RI,RI,h a (by simp),c (fun x b=>h x (Rm _ b))]
def nS(l N:List St)(a:Nat):List ByteArray:=((List.range N.length).filter (fun j=>zQ (l++N) a (l.length+j))).flatMap (symsAt N)
def Qw(vs:List ByteArray)(A:Nat->Nat->Bool):List Pr:=(List.range vs.length).flatMap (fun i=>((List.range vs.length).filter (fun j=>decide (i<j)&&A i j)).map (fun j=>(gD vs i,gD vs j)))
theorem Pp:At f (fN S y f)=Qw f (fun i j=>!(i==j)&&xX S y f S.length i j):=by
 unfold At te Qw mH;refine wh _ _ _ (fun i a=>?_);have a:=Ra.1 a
 congr 1
 exact Uj (fun j b=>by rw[G0 S y f i j a (Ra.1 b)])
section
variable {T:List Tk} {d:Db}
theorem kP.vars(R:kP T d)(F:PM T (aj T))(q:b<d.Vn.length):eW d.Vn (aK d.Vn b)=fO T (aj T) (bW T (aj T) (bR (aj T) b)) (bW T (aj T) (bR (aj T) b)).length:=by
 unfold fO;rw[RK,<-R.hyps F q];unfold eW
 have a:∀n∈aK d.Vn b,n<d.Vn.length:=fun n i=>by
  unfold aK dG at i;exact Ra.1 (RH.1 i).1
 generalize aK d.Vn b=L at a
 induction L with
 | nil=>rfl
 | cons n L j =>
  obtain⟨s,r,f,-,g⟩:=R.get (a n (by simp));have p:=R.hel.at_ (a n (by simp));rw[List.filterMap_cons,Tp,List.filter_cons];unfold mQ;rw[r];simp only;rw[(fS f).2.1]
  cases e:((au (aj T) (bR (aj T) n)).k.toList == [36,102])
  ·rw[QT (by simp),QT (by simp)]
   exact j (fun m c=>a m (by simp[c]))
  ·obtain⟨l,o⟩:=F _ p e
   have t:aL s=tS T ((au (aj T) (bR (aj T) n)).h+1):=by
    unfold aL;rw[QW ⟨by rw[(fS f).2.1];exact e,by rw[g];exact l⟩,g,o]
   rw[QW rfl,QW rfl,Tp,<-t]
   show aL s :: _=_
   congr 1
   exact j (fun m c=>a m (by simp[c]))
def Oo(vs:List ByteArray):Prop:=∀i j,i<j->j<vs.length->((vs.getD i ⟨#[]⟩).toList==(vs.getD j ⟨#[]⟩).toList)=false
theorem Oo.ne(h:Oo n){i j:Nat}(b:i<n.length)(c:j<n.length)(d:i≠j):((n.getD i ⟨#[]⟩).toList==(n.getD j ⟨#[]⟩).toList)=false:=by
 rcases Nat.lt_or_gt_of_ne d with a | a
 ·exact h i j a c
 ·have:=h j i a b
  rw[Rh]at this ⊢;exact fun e=>this e.symm
theorem LV(h:Oo n)(a:b<n.length)(x:ByteArray):pu n x=some b ↔ ((n.getD b ⟨#[]⟩).toList==x.toList)=true:=by
 unfold pu
 constructor
 ·intro e
  have:=Tm e;simpa using this
 ·intro e
  rw[Up];refine⟨e,b,by rw[Tf];exact a,by rw[Ub],fun j f=>?_⟩;rw[Ub];have:=h.ne (i:=j) (j:=b) (by omega) a (by omega);simp only[Bool.not_eq_true',beq_eq_false_iff_ne];rw[Rh]at this;intro c;have d:(n.getD b ⟨#[]⟩).toList=x.toList:=by simpa using e
  exact this (c.trans d.symm)
theorem vt(h:Oo n)(d:b<n.length)(f:List ByteArray):(bD n f).contains b=aJ f (n.getD b ⟨#[]⟩):=by
 unfold bD aJ;rw[SA,TG,UE,RC]
 constructor
 ·rintro ⟨x,c,e⟩
  have:=(LV h d x).1 e;refine⟨x,c,?_⟩;have a:(n.getD b ⟨#[]⟩).toList=x.toList:=by simpa using this
  rw[a];exact UQ _
 ·rintro ⟨x,c,e⟩
  refine⟨x,c,(LV h d x).2 ?_⟩;have a:x.toList=(n.getD b ⟨#[]⟩).toList:=by simpa using e
  rw[a];exact UQ _
theorem kP.tog(R:kP T d)(p:b<d.Vn.length)(h:Oo n)(y:D<n.length)(u:L<n.length)(t:D<L):xX d.Vn b n d.Vn.length D L=hQ T (aj T) (n.getD D ⟨#[]⟩) (n.getD L ⟨#[]⟩) (bR (aj T) b):=by
 have B:=R.hel.len;have C:=R.hel.at_ p;have v:=h D L t u;unfold xX hQ;rw[SA,RC,RC]
 constructor
 ·rintro ⟨l,a,e⟩
  have a:=Ra.1 a;obtain⟨s,j,i,-,A⟩:=R.get a;simp only[Bool.and_eq_true]at e;obtain⟨⟨c,m⟩,o⟩:=e;rw[vt h y,R.symsAt a]at m;rw[vt h u,R.symsAt a]at o;unfold sA at c;rw[j]at c;simp only[Bool.and_eq_true]at c;have x:((au (aj T) (bR (aj T) l)).k.toList == [36,100])=true:=by rw[<-(fS i).2.2.1];exact c.1
  have g:qP s.kind=false:=by rw[(fS i).2.2.2,ci x,ci x];decide
  have r:=c.2;rw[R.held j g p,Rg]at r;refine⟨bR (aj T) l,Ra.2 (of_decide_eq_true r.1),?_⟩;unfold PC;rw[x,v,m,o,r.2];rfl
 ·rintro ⟨q,w,e⟩
  have w:=Ra.1 w;unfold PC at e;simp only[Bool.and_eq_true]at e;obtain⟨c,-,m,o,z⟩:=e;have f:q∈lV (aj T):=RH.2 ⟨Ra.2 (by omega),by unfold nu;rw[c];simp⟩;rw[wQ]at f;obtain⟨l,a,rfl⟩:=Si.1 f;have a:l<d.Vn.length:=by rw[B];exact Ra.1 a
  obtain⟨s,j,i,-,A⟩:=R.get a;have g:qP s.kind=false:=by rw[(fS i).2.2.2,ci c,ci c];decide
  refine⟨l,Ra.2 a,?_⟩;rw[vt h y,vt h u,R.symsAt a,m,o];unfold sA;rw[j];simp only;rw[(fS i).2.2.1,c,R.held j g p,z,SM w];rfl
theorem kP.pairs(R:kP T d)(F:PM T (aj T))(f:b<d.Vn.length)(g:Oo (eW d.Vn (aK d.Vn b))):gI d.Vn b=fH T (aj T) (bR (aj T) b):=by
 unfold gI fH;rw[Pp,<-R.vars F f];generalize eW d.Vn (aK d.Vn b)=a at g;unfold Qw lg jY
 apply wh
 intro i c;have c:=Ra.1 c
 have e:(List.range a.length).filter (fun j=>decide (i<j)&&(!(i==j)&&xX d.Vn b a d.Vn.length i j))=(List.range a.length).filter (fun j=>decide (i<j)&&hQ T (aj T) (a.getD i ⟨#[]⟩) (a.getD j ⟨#[]⟩) (bR (aj T) b)):=by
  apply dW
  intro j k
  by_cases h:i<j
  ·have:(i==j)=false:=Rh.2 (by omega)
   rw[R.tog f g c k h,this];simp
  ·rw[Sb h];rfl
 rw[e];rfl
def kn(T:List Tk)(S:List Sm)(j:Nat):ByteArray:=(bu T (au S j).h).foldl (fun s x=>s++⟨#[32]⟩++x) (bG T (au S j)++⟨#[32]⟩++(au S j).k)
def pL(T:List Tk)(S:List Sm)(a:Nat):List ByteArray:=(bW T S a).map (kn T S)++(fH T S a).map fh++[kn T S a]
theorem BK(L:List ByteArray):∀s:ByteArray,L.foldl (fun t x=>t++(⟨#[32]⟩++x)) s=L.foldl (fun s x=>s++⟨#[32]⟩++x) s:=by
 induction L with
 | nil=>intro s;rfl
 | cons x L a=>intro s;rw[TA,TA,a,ByteArray.append_assoc]
theorem Lz{k:ByteArray}{n:Int}(h:eZ k.toList n)(a:n=2∨n=3∨n=4∨n=5):sN n=k:=by
 apply ym
 generalize k.toList=l at h
 rcases a with rfl | rfl | rfl | rfl <;> rcases h with ⟨rfl,h⟩ | ⟨rfl,h⟩ | ⟨rfl,h⟩ | ⟨rfl,h⟩ | ⟨rfl,h⟩ | ⟨rfl,h⟩ | ⟨rfl,h⟩ <;> first | (exfalso;revert h;decide) | decide +kernel
theorem kP.line(R:kP T d)(h:b<d.Vn.length)(f:∀s,d.Vn[b]?=some s->s.kind=2∨s.kind=3∨s.kind=4∨s.kind=5):yN d.Vn b=kn T (aj T) (bR (aj T) b):=by
 obtain⟨s,a,c,g,e⟩:=R.get h;unfold yN kn;rw[a];simp only;unfold sR nz;rw[RK,e,g,Lz c (f s a),BK]
theorem kP.lines(R:kP T d)(F:PM T (aj T))(e:b<d.Vn.length)(k:Oo (eW d.Vn (aK d.Vn b)))(j:∀s,d.Vn[b]?=some s->qP s.kind=true):cW d.Vn b=pL T (aj T) (bR (aj T) b):=by
 unfold cW pL;rw[R.pairs F e k,<-R.hyps F e,List.map_map,R.line e (fun s g=>by have:=j s g;unfold qP at this;simp at this;omega)]
 congr 2
 apply Ux
 intro n i;unfold aK dG at i;have a:=RH.1 i;have f:=Ra.1 a.1;refine R.line f (fun s g=>?_);have c:=a.2;unfold l6 pN at c;rw[g]at c;simp only[Bool.and_eq_true]at c;have h:=c.2
 split at h
 ·next q=>left;simpa using q
 ·right;left;simpa using h
theorem xA.vsd(F:xA d):Oo (eW d.Vn (aK d.Vn b)):=by
 have E:(aK d.Vn b).Pairwise (fun n m=>n<m/\n∈aK d.Vn b/\m∈aK d.Vn b):=by
  have h:(aK d.Vn b).Pairwise (· < ·):=List.Pairwise.filter _ Ui;exact h.imp_of_mem (fun z A B=>⟨B,z,A⟩)
 have G:(eW d.Vn (aK d.Vn b)).Pairwise (fun x y=>(x.toList==y.toList)=false):=by
  unfold eW;refine List.Pairwise.filterMap _ (fun n m h x a y H=>?_) E;obtain⟨r,o,D⟩:=h
  have l:∀n x,n∈aK d.Vn b->mQ d.Vn n=some x->∃s,d.Vn[n]?=some s/\s.kind=2/\x=vr s/\g7 d.Vn n b=true:=fun n x o a=>by
   unfold mQ at a
   cases g:d.Vn[n]? with
   | none=>rw[g]at a;cases a
   | some s =>
    rw[g]at a;simp only at a
    split at a
    ·next k =>
     have w:s.kind=2:=by simpa using k
     have C:=F.fl n s g w;have e:aL s=vr s:=by unfold aL vr;rw[QW ⟨k,C⟩]
     refine⟨s,rfl,w,by rw[<-e];cases a;rfl,?_⟩;unfold aK dG at o;have:=(RH.1 o).2;unfold l6 at this;rw[g]at this;simp only[Bool.and_eq_true]at this;exact this.1
    ·cases a
  obtain⟨s,g,I,rfl,c⟩:=l n x o a;obtain⟨u,v,J,rfl,f⟩:=l m y D H;refine F.ds n m s u g v I J r ?_;unfold g7 at c f;rw[g]at c;rw[v]at f;simp only[Bool.and_eq_true,Bool.or_eq_true,decide_eq_true_eq]at c f
  rcases c.2 with q | q
  ·left;simpa using q
  ·right;have:=f.1;omega
 intro i j p t;have:=UJ.1 G i j (by omega) t p;rw[QQ,QQ,QP t,QP (by omega)];exact this
theorem kP.frame(R:kP T d)(F:xA d)(c:b<d.Vn.length)(a:∀s,d.Vn[b]?=some s->qP s.kind=true):cW d.Vn b=pL T (aj T) (bR (aj T) b) :=
 R.lines (R.flo F) c F.vsd a
end
end Go.Proofs.YtpddjjabfbfifaaGreat
