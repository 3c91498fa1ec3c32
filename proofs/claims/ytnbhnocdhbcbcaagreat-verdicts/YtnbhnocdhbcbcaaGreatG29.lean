import Derived.Test.YtnbhnocdhbcbcaaGreatG02
import Derived.Test.YtnbhnocdhbcbcaaGreatG28
namespace Go.Proofs.YtnbhnocdhbcbcaaGreat
open Go.RowKit Tryz
open Value IntKind Ending
set_option maxHeartbeats 0
variable{l H:World}{w f:Nat}{b:Fs}{x:Hd}{n T S:Value}
theorem Et(a:Fs)(k j:Nat)(h:j<k):aD (a.take k) j=aD a j/\ak (a.take k) j=ak a j:=by
 unfold aD ak;rw[RT,UK,RY h,RT];exact⟨rfl,rfl⟩
theorem nH.take{a:Option Addr}(h:nH l a w b)(k:Nat)(g:k<=b.length):nH l a w (b.take k):=by
 have d:(b.take k).length=k:=by rw[To];omega
 refine⟨by rw[d];exact Sc g h.1,fun j c=>?_⟩;rw[d]at c;obtain⟨e,f⟩:=Et b k j c;rw[e,f];exact h.2 j (by omega)
theorem LN(h:nH l (some ⟨w,0,none⟩) f b)(j:Nat)(u:Value)(a:(ri b)[j]?=some u):l.cell? ⟨w,j,none⟩=some u:=by
 have m:j<b.length*2:=by
  rw[<-vT];exact(R8.1 a).1
 obtain⟨k,e,-,c,d⟩:=h.2 (j / 2) (by omega);cases e
 obtain⟨g,i⟩:=wQ b (j / 2) (by omega);rcases VD j with e | e
 ·rw[show j / 2*2=j by omega]at c g;rw[g]at a;rw[c,<-a]
 ·rw[show j / 2*2+1=j by omega]at d i;rw[i]at a;rw[d,<-a]
def QC(w:World)(v:Nat)(h:Hd)(fs:Fs)(p2 p3 p4:Value)(r:Int)(w':World):Prop:=(r=0->∃h',fX w' v fs h' false p2 p3 p4/\aa (v :: h.blk.toList) w w'/\∀b,h'.blk=some b->h.blk=some b∨w.heap.size<=b)/\(r≠0->aa [] w w')
theorem QC.stay{r:Int}(a:r≠0)(k:aa [] l H):QC l w x b n T S r H:=⟨fun e=>absurd e a,fun _=>k⟩
theorem fX.newRow{c:Fs}{i:Hd}{m:Bool}(a:fX l w b x m n T S)(k:aa [] l H)(o:aC H i (cK c))(r:∀q,i.blk=some q->l.heap.size<=q)(s:c.length<=4)(t:f=c.length):fX (H.setCell ⟨w,0,none⟩ (slice i.ao f i.cap)) w c i m n T S:=by
 have p:=k.get a.d (by simp);have y:=ae a.d;have g:i.blk≠some w:=fun v=>by have:=r w v;omega
 have u:aa [w] H (H.setCell ⟨w,0,none⟩ (slice i.ao f i.cap)):=(aa.refl _ _).setCell (R4 (by simp)) _;subst t;exact⟨by rw[ah p];rfl,o.Wo (fun q j=>u.block q (o.lt j) (by simp;intro e;exact g (by rw[<-e];exact j))),g,s⟩
set_option maxRecDepth 100000
theorem EQ(v:Nat)(p a:Fs)(h:Hd)(on:Bool)(p2 p3 p4:Value)(G:Option Addr)(i:Nat)(w:World)(hR:fX w v p h on p2 p3 p4)(hS:nH w G i a)(hn:G=none->a.length=0/\i=0)(ha:∀C,G=some C->∃g,C=⟨g,0,none⟩)(R:∀j,j<a.length->(aD a j).size<=1073741824/\(ak a j).size<=1073741824) :
  Calls prog 32 #[pointer (some ⟨v,0,none⟩),slice G a.length i] w fun e s=>e=returned (int i64 (dF a))/\QC w v h (jK p a) p2 p3 p4 (dF a) s:=by
 have HR:Hid _:=hR;by_cases h4:4<a.length
 ·have I:Hid (dF a=1):=by show _=_;unfold dF;rw[RY h4]
  rw[I.out];have ap:(4:Int)<a.length:=by omega
  clear hR;go_enter func32,ntmps32;go_wp2;go_ret;exact⟨rfl,QC.stay (by decide) (aa.refl _ _)⟩
 ·have I:Hid (dF a=cQ (DQ a) a.length):=by show _=_;unfold dF;rw[RU h4]
  obtain⟨r,Hr⟩:∃r,Hid (dF a=r):=⟨_,rfl⟩
  rw[Hr.out]at I ⊢;have ap:¬(4:Int)<a.length:=by omega
  have W:Hid _:=hS;have HN:Hid _:=hn;have Y:Hid _:=ha;have L:Hid _:=R;obtain⟨iF,aT,T,U,V⟩:=Sr Ax;clear hR hS hn ha R;go_enter func32,ntmps32;go_wp2
  go_loopg [5] a.length (fun g iv wr=>∃k:Nat,k<=a.length/\g=a.length-k/\iv=int i64 k/\Hid (cQ (DQ a) k=0)/\Hid (aa [] w wr))
  case atStart=>exact⟨0,by omega,rfl,rfl,rfl,aa.refl _ _⟩
  case round =>
   obtain⟨k,hk,hg,rfl,HZ,x⟩:=hrel;by_cases z:k<a.length
   ·have a3:(k:Int)<a.length:=(by omega);have a2:(0:Int)<=(k:Int):=(by omega);have a1:=W.out.1;obtain⟨D,rfl,y,c0,c1⟩:=(nH.Wj W.out x.out).2 k z;have HC:Hid (∀s,aa [] wr s->s.cell? ⟨D,k*2,none⟩=some (string (aD a k))/\s.cell? ⟨D,k*2+1,none⟩=some (string (ak a k))/\D<s.heap.size):=fun s kw=>⟨by rw[Sh (kw.block D y (by simp))];exact c0,by rw[Sh (kw.block D y (by simp))];exact c1,R6 y kw.size⟩
    have A:Hid (∀t,aa [] wr t->Calls prog 36 #[slice (some ⟨D,0,none⟩) k i,string (aD a k)] t fun e s=>e=returned (int i64 (bM (a.take k) (aD a k)))/\s=t):=fun t kx=>by
     have hl:(a.take k).length=k:=(by rw[To];omega);have:=mX (a.take k) (some ⟨D,0,none⟩) i (aD a k) t (by omega) (nH.take (nH.Wj W.out (x.out.trans kx)) k hk);rw[hl]at this;exact this
    have H:Hid (∀t,Calls prog 35 #[string (aD a k),string (ak a k)] t fun e s=>e=returned (int i64 (dc (aD a k) (ak a k)))/\s=t):=fun t=>Cm _ _ t (L.out k z).1 (by have:=(L.out k z).2;omega);have l:Hid (DQ a k=if(dc (aD a k) (ak a k)==0)=false then dc (aD a k) (ak a k) else if 0<=bM (a.take k) (aD a k) then 4 else 0):=rfl;have K:Hid ((DQ a k==0)=false->r=DQ a k):=fun q=>by rw[I.out];exact mM HZ.out q z
    have Z:Hid (DQ a k=0->cQ (DQ a) (k+1)=0):=fun q=>by rw[cQ,HZ.out];exact q
    generalize aD a k=nm at *;generalize ak a k=dt at *;obtain⟨M,al⟩:∃M,Hid (dc nm dt=M):=⟨_,rfl⟩
    rw[al.out]at H l;obtain⟨fi,an⟩:∃fi,Hid (bM (a.take k) nm=fi):=⟨_,rfl⟩
    rw[an.out]at A l;(go_upto_region 6 with fail);go_region_with (go_at_call 35;refine(H.out _).mono ?_;rintro e F ⟨rfl,a0⟩)
    all_goals
     subst a0;obtain⟨F,H9⟩:∃F,Hid (wr.drew=F):=⟨_,rfl⟩
     rw[H9.out];have f:Hid (aa [] wr F):=by show aa _ _ _;rw[<-H9.out];exact(aa.refl [] wr).drew
     clear c0 c1 y;cases c:(M==0)
     ·rw[c,RY rfl]at l;have o:Hid _:=(K.out (by rw[l.out];exact c));rw[l.out]at o;have aS:(M != 0)=true:=(by unfold bne;rw[c];rfl);go_wp2;go_ret;exact⟨au o.out.symm,QC.stay (by rw[o.out];exact fun q=>by rw[q]at c;cases c) (x.out.trans f.out)⟩
     ·rw[c,RU (by simp)]at l;have aS:(M != 0)=false:=(by unfold bne;rw[c];rfl);obtain⟨d0,d1,d2⟩:=HC.out F f.out;by_cases P:0<=fi
      ·rw[RY P]at l;have o:Hid _:=(K.out (by rw[l.out];rfl));rw[l.out]at o;(go_upto_region 9 with fail);go_region_with (go_at_call 36;refine(A.out _ (by exact f.out.drew)).mono ?_;rintro e w8 ⟨rfl,E⟩)
       all_goals
        subst E;have B:Hid (aa [] w F.drew):=(x.out.trans f.out).drew;go_wp2;go_ret;exact⟨au o.out.symm,QC.stay (by rw[o.out];decide) B.out⟩
      ·rw[RU P]at l;have HM:Hid _:=Z.out l.out;(go_upto_region 9 with fail);go_region_with (go_at_call 36;refine(A.out _ (by exact f.out.drew)).mono ?_;rintro e w8 ⟨rfl,E⟩)
       all_goals
        subst E;have B:Hid (aa [] w F.drew):=(x.out.trans f.out).drew;go_wp2;go_roundg (a.length-(k+1))
        case measure=>omega
        case rel=>exact⟨k+1,by omega,rfl,by go_num,HM,B⟩
   ·have e:k=a.length:=(by omega);subst e;have o:Hid (r=0):=by show _=_;rw[I.out];exact HZ.out
    have a4:¬(a.length:Int)<a.length:=(by omega);have J:Hid _:=HR.out.Wj x.out;have ax:aC wr ⟨none,0⟩ (cK []):=Sb _ _ _ _;have ag:Hid _:=nH.Wj W.out x.out;have az:Hid (∀C,G=some C->∀j u,(ri a)[j]?=some u->wr.cell? (C.add j)=some u):=fun C e j u hu=>by
     obtain⟨g,rfl⟩:=Y.out C e;rw[bS];exact LN (by rw[<-e];exact ag.out) j u hu
    have ar:Hid ((cK ([]:Fs)).n+a.length<=1000000000):=(by show 0+a.length<=_;omega);have af:Hid (∀m:Nat,(cK ([]:Fs)).n+m=m):=fun m=>Ut m;(go_upto_region 12 with fail);go_wp2_with (at_builtin;refine eN _ rfl (.const (slice none 0 0)) (.tmp 43) 33 rfl iF (agg #[string ⟨#[]⟩,string ⟨#[]⟩]) 32 ⟨none,0⟩ (cK []) underlying33 aT T U V rfl VN rfl ax G a.length i (ri a) rfl (vT a) HN.out az.out (GG a) ar.out (by omega) ?_;intro h5 w5 S Q;have K5:aa [] wr w5:=(Q.kept.mono (by simp[Hd.blk]));have N:=K5.get J.out.d (by simp);have v0:w5.cell? ⟨v,0,none⟩=some (slice h.ao p.length h.cap):=(by rw[aj N];rfl);have v1:w5.cell? ⟨v,1,none⟩=some (bool on):=(by rw[aj N];rfl);have e0:=am N 0;have e1:=am N 1;have vz:=ae N);go_ret;have er:(⟨(cK []).e,(cK []).size,(cK []).n+a.length,(cK []).xs++ri a⟩:eB)=cK a:=by
     show eB.mk _ _ (0+a.length) ([]++ri a)=_;rw[Ut];rfl
    rw[er]at S;have O:∀q,h5.blk=some q->wr.heap.size<=q:=by
     intro q X;rcases Q.blk with e | ⟨g,e,hg⟩
     ·rw[e]at X;cases X
     ·rw[e]at X;cases X;exact hg
    have ac:=(J.out.newRow K5 S O (by omega) (af.out a.length)).off;have ai:Hid _:=zo (fs0:=p) (Hr.out.trans o.out);exact⟨au o.out.symm,by rw[ai.out];exact⟨fun _=>⟨h5,ac,(((x.out.trans K5).mono (by simp)).setCell (R4 (by simp)) _).setCell (R4 (by simp)) _,fun b hb=>RZ (Sc x.out.size (O b hb))⟩,fun q=>absurd o.out q⟩⟩
end Go.Proofs.YtnbhnocdhbcbcaaGreat
