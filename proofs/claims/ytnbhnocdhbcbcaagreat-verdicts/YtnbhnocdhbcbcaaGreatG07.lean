import Derived.Test.YtnbhnocdhbcbcaaGreatG06
namespace Go.Proofs.YtnbhnocdhbcbcaaGreat
open Go.RowKit Tryz
open Value IntKind Ending
set_option maxHeartbeats 0
variable{T o:World}{v a:Nat}{z6:List Value}{y:Nat->Hd}{S:List St}{I:List Nat}{z5:Nat->Bool}{m:Hd}{N:List ByteArray}(x:List St)(D H:Nat)(z4:List ByteArray)(l w:Nat)(n:Fs)(L:List Value)(b:List St)(d:Nat->Hd)(i:St)(M g:Hd)(f:World)
set_option maxRecDepth 100000
theorem yC(cq:∀j,j<n.length->(ak n j).size<=1024)(bz:H≠D)(IH:∀g,g<w->∀(j:Nat) (G:List Bool) (d:Db) (I:Nat->Hd) (i:World) (m:Nat),j<n.length->G.length=4->nZ d m->m+eC n G<=9000000->eC n G<=g->aV i D 200 (ed H G) [] d I->bF i H l n L->¬gO I H->jX D H n g j G d I i)(j:Nat)(G:List Bool)(d:Db)(I:Nat->Hd)(i:World)(m:Nat)(hj:j<n.length)(al:G.length=4)(hB:nZ d m)(hm:m+eC n G<=9000000)(hf:eC n G<=w)(h:aV i D 200 (ed H G) [] d I)(ht:bF i H l n L)(bT:¬gO I H)(hb:G.getD j true=false):jX D H n w j G d I i:=by
 unfold jX cJ;rw[RU (by rw[hb];simp)];have cz:=ht.2;have hs:=cq j hj;have bp:=xk n G j al hb;obtain⟨v,hn⟩:∃v,aD n j=v:=⟨_,rfl⟩
 obtain⟨s,af⟩:∃s,ak n j=s:=⟨_,rfl⟩
 rw[af]at hs bp;have cR:=h.lt;have cb:=h.free;have c3:=ht.lt;have c1:=h.preCell (1+j) (by rw[jG H G al];omega);rw[C2 H G j al (by omega),hb]at c1;have c0:=h.preCell 0 (by simp[ed]);have b4:i.cell? ⟨D,0,none⟩=some (pointer (some ⟨H,0,none⟩)):=c0;clear c0;have P1:=h.pre (1+j) (by rw[jG H G al];omega) (bool true);rw[JL]at P1;obtain⟨c,an⟩:∃c,G.set j true=c:=⟨_,rfl⟩
 have cf:c.length=4:=by rw[<-an];simpa using al
 rw[an]at P1 bp ⊢;clear an;obtain⟨W,hW⟩:∃W,W=(i.setCell ⟨D,1+j,none⟩ (bool true)).alloc (.cells #[int i64 0,string ⟨#[]⟩,int i64 0,int i64 0] 87):=⟨_,rfl⟩
 have D1:aV W D 200 (ed H c) [] d I:=by rw[hW];exact P1.1.Wj ((aa.refl [] _).alloc _)
 have T1:aB D i I W I:=by rw[hW];exact P1.2.Wj ((aa.refl [] _).alloc _)
 have F1:W.heap[i.heap.size]?=some (.cells bD 87):=by
  rw[hW];have:=R2 (i.setCell ⟨D,1+j,none⟩ (bool true)) (.cells bD 87);simpa [World.setCell,bD] using this
 have bd:bF W H l n L:=⟨T1.1.get ht.1 (by rintro (e | e);exact bz e;exact bT e),ht.2⟩;have ax:Hid (∀k,i.heap.size<=k->¬gO I k):=fun k hk hm=>by have:=h.inlt hm;omega
 have HW:Hid _:=hW.symm;have b1:Hid _:=IH;clear P1 hW IH;go_enter func112,ntmps112;go_wp2_with fail;rw[HW.out];clear HW c1 b4 cb ht h;refine(LO H l j n L _ bd hj).mono ?_;rintro e w2 ⟨rfl,Z⟩;rw[hn,af];go_wp2_with fail;refine(CR v s _).mono ?_;rintro e w3 ⟨sp,rfl,cX,h3,ac⟩;go_wp2_with fail;refine(tJ sp 0 v s _ hs (by omega) h3).mono ?_;rintro e w4 ⟨rfl,h4,ad⟩;have cP:=ae F1;have c4:=Z.size;have c5:=ac.size;have c6:=ad.size;have cB:i.heap.size<sp:=by omega
 have bx:sp≠D:=by omega
 have b0:H≠sp:=by omega
 have T4:aB D i I w4 I:=(((T1.Wj Z).Wj ac).beyond ad (by simp;omega));have F4:w4.heap[i.heap.size]?=some (.cells bD 87):=ad.get (ac.get (Z.get F1 (by simp)) (by simp)) (by simp;omega);have D4:aV w4 D 200 (ed H c) [] d I:=((D1.Wj Z).Wj ac).kept ad (by simp;omega) (by intro k hk;simp;rintro rfl;exact ax.out _ (by omega) hk);have bf:bF w4 H l n L:=((bd.kept Z (by simp)).kept ac (by simp)).kept ad (by simp;omega);have cA:=ae h4;clear D1 T1 F1 bd Z ac ad h3;simp only[fA];go_wp2
 go_loopg [7] s.size (fun gk _ wr=>∃(k g m1:Nat) (b:List Bool) (x:Db) (J:Nat->Hd),k<=s.size/\gk=s.size-k/\b.length=4/\nZ x m1/\m1+(s.size-k)+eC n b<=9000000/\(s.size-k)+eC n b+1<=g/\g<=w /\
  Hid (bA n w j 0 c d=bA n g j k b x)/\b7 wr sp v s (aA s k).2/\jL wr w4.heap.size v s (aA s k).1 /\
  wr.heap[i.heap.size]?=some (.cells bD 87)/\aV wr D 200 (ed H b) [] x J/\bF wr H l n L/\aB D i I wr J/\(¬gO J sp/\¬gO J w4.heap.size/\¬gO J i.heap.size/\¬gO J H))
 case atStart=>exact⟨0,w,m,c,d,I,by omega,by omega,cf,hB,by omega,by omega,RV _,rfl,h4.kept ((aa.refl [] _).alloc _) (by simp),R2 _ _,((aa.refl [] _).alloc _).get F4 (by simp),D4.Wj ((aa.refl [] _).alloc _),bf.kept ((aa.refl [] _).alloc _) (by simp),T4.Wj ((aa.refl [] _).alloc _),ax.out _ (by omega),ax.out _ (by omega),ax.out _ (by omega),bT⟩
 case round =>
  obtain⟨k,g,m1,b,x,J,hk,hg,ap,aS,cV,cS,cT,hR,h5,Y,hF,ag,TB,T,br,bs,O,bc⟩:=hrel;obtain⟨M,rfl⟩:∃M,g=M+1:=⟨g-1,by omega⟩
  clear D4 T4 F4 bf h4;have bv:=fT s k hk;have cu:=rY s k hs;have SK:=Dt n M (LV n M).2 j k b x m1 (by rw[af];exact hk) ap aS;have L1:=zh n M j k b x;have L2:=oR n M j k b x;have L3:=Av n M j k b x;have L4:=wY n M j k b x;have ST:gJ n M j k b x=j9 (cJ n M) n j (aA s k).2 (aA s k).1.text (kR v s (aA s k).1.pos) b x:=by unfold gJ;rw[hn,af]
  rw[af]at SK L1 L2 L3 L4;rw[hn]at L4;rw[ST]at SK L1 L2;have L6:aK (aA s k).1=false->(aA s k).1.fin=false->((aA s k).1.rule==0)=false:=kF;have V:Hid _:=SK;have R:Hid _:=L1;have S:Hid _:=L2;have U:Hid _:=L3;have K:Hid _:=L4;have ai:Hid _:=L6;clear SK L1 L2 L3 L4 L6 ST;generalize hrr:aA s k=r at *;obtain⟨⟨t,u,fi,p⟩,z⟩:=r;clear hrr;simp only at h5 Y bv cu V R S U K ai;obtain⟨q0,q1,q2,q3,q4,q5⟩:=Y.cells;have cH:=ae hF;have c2:=ae h5;have cL:=ae Y;have cF:=ag.lt;cases hw:(u==0 && !fi)
  ·cases fi
   ·have P:Hid (bA n w j 0 c d=(i9 v s ⟨t,u,false,p⟩,b,x)):=hR.out.trans (K.out hw (by simp));have hu:(u==0)=false:=(by simpa using hw);clear R S U K ai V;go_wp2_with fail;refine(cY t v _ (aR s p) (bC s p) _ _).mono ?_;rintro e w5 ⟨rfl,a⟩;have q:=Y.kept a (by simp);have f:=a.get hF (by simp);have D5:=ag.Wj a;have T5:=T.Wj a;clear q0 q1 q2 q3 q4 q5 Y h5 hF ag T a TB;obtain⟨q0,q1,q2,q3,q4,q5⟩:=q.cells;go_wp2_with fail;refine(nJ t v u (aR s p) (bC s p) _ _).mono ?_;rintro e w6 ⟨rfl,a7⟩;simp only[Bool.false_eq_true,if_false];have A:=a7.get f (by simp);have D6:=D5.Wj a7;have T6:=T5.Wj a7;have o:Hid _:=(fun a0 a1 a2 a3=>om D6 T6 (F:=i.heap.size) (RV _) (by omega) O a0 a1 a2 a3);obtain⟨z0,z1,z2,z3⟩:=cD A;have y:=am A;go_wp2;exact Sa (v:=agg #[int i64 u,string v,int i64 (aR s p),int i64 (bC s p)]) (by simp[results,results112,go_sem,z0,z1,z2,z3]) rfl
     ⟨by rw[P.out];rfl,J,by rw[P.out];exact(o.out _ _ _ _).1,(o.out _ _ _ _).2⟩
   ·cases ho:lB x
    ·have P:Hid (bA n w j 0 c d=(cM,b,x)):=hR.out.trans (U.out hw rfl ho);clear R S U K ai V;go_wp2_with fail;refine(cY t v _ (aR s p) (bC s p) _ _).mono ?_;rintro e w5 ⟨rfl,a⟩;have q:=Y.kept a (by simp);have f:=a.get hF (by simp);have D5:=ag.Wj a;have T5:=T.Wj a;clear q0 q1 q2 q3 q4 q5 Y h5 hF ag T a TB;obtain⟨q0,q1,q2,q3,q4,q5⟩:=q.cells;go_wp2_with fail;refine(tK D 200 5 (ed H b) [] x J _ D5 (jG H b ap)).mono ?_;rintro e w6 ⟨rfl,be⟩;subst be;rw[ho];have o:Hid _:=(fun a0 a1 a2 a3=>om D5 T5 (F:=i.heap.size) (RV _) (by omega) O a0 a1 a2 a3);obtain⟨z0,z1,z2,z3⟩:=cD f;have y:=am f;go_wp2;exact Sa (v:=agg #[int i64 0,string ⟨#[]⟩,int i64 0,int i64 0]) (by simp[results,results112,go_sem,z0,z1,z2,z3]) rfl
      ⟨by rw[P.out];rfl,J,by rw[P.out];exact(o.out _ _ _ _).1,(o.out _ _ _ _).2⟩
    ·have P:Hid (bA n w j 0 c d=(i9 v s ⟨t,u,true,p⟩,b,x)):=hR.out.trans (K.out hw (by simp[ho]));clear R S U K ai V;go_wp2_with fail;refine(cY t v _ (aR s p) (bC s p) _ _).mono ?_;rintro e w5 ⟨rfl,a⟩;have q:=Y.kept a (by simp);have f:=a.get hF (by simp);have D5:=ag.Wj a;have T5:=T.Wj a;clear q0 q1 q2 q3 q4 q5 Y h5 hF ag T a TB;obtain⟨q0,q1,q2,q3,q4,q5⟩:=q.cells;go_wp2_with fail;refine(tK D 200 5 (ed H b) [] x J _ D5 (jG H b ap)).mono ?_;rintro e w6 ⟨rfl,be⟩;subst be;rw[ho];go_wp2_with fail;refine(nJ t v u (aR s p) (bC s p) _ _).mono ?_;rintro e w7 ⟨rfl,ba⟩;simp only[if_true];have bk:=ba.get f (by simp);have D7:=D5.Wj ba;have T7:=T5.Wj ba;have o:Hid _:=(fun a0 a1 a2 a3=>om D7 T7 (F:=i.heap.size) (RV _) (by omega) O a0 a1 a2 a3);obtain⟨z0,z1,z2,z3⟩:=cD bk;have y:=am bk;go_wp2;exact Sa (v:=agg #[int i64 7,string v,int i64 (aR s p),int i64 (bC s p)]) (by simp[results,results112,go_sem,z0,z1,z2,z3]) rfl
      ⟨by rw[P.out];rfl,J,by rw[P.out];exact(o.out _ _ _ _).1,(o.out _ _ _ _).2⟩
  ·have hu:u=0:=(by simp at hw;exact hw.1);have ca:fi=false:=(by simp at hw;exact hw.2);subst hu ca;have cp:=aS.small (N:=10000000) (by omega);have bw:=(aS.small (N:=100000000) (by omega)).2;have RW:=fun(w':World) (h':aV w' D 200 (ed H b) [] x J) (co:b7 w' sp v s z) (cs:bF w' H l n L)=>AZ D H l sp M j z n L b ap x J v s t (aR s p) (bC s p) w' h' hn af hs bv.2.1 co cs bx b0 br cp.1 (by omega) bw
    (fun jj ww cc b6 ct=>b1.out M (by omega) jj b x J ww m1 cc ap aS (by omega) (by omega) b6 ct bc)
   have a5:Hid _:=RW;have E:Hid _:=V.out hw;have B:Hid _:=R.out hw;have C:Hid _:=S.out hw;clear RW R S U K ai V;simp only[kR]at E B C;generalize j9 (cJ n M) n j z t ⟨v,aR s p,bC s p⟩ b x=Q at *;obtain⟨⟨⟨r,pf,pl,pc⟩,a6,d2⟩,z2⟩:=Q;simp only[ij]at E B C a5;have ar:=E.out.2;obtain⟨bo,cj,m2,bj,ch⟩:=E.out.1;simp only at bo cj bj ch ar;clear E;cases hr:(r==0)
   ·have ck:(r != 0)=true:=(by simp[bne,hr]);have P:Hid (bA n w j 0 c d=((r,⟨pf,pl,pc⟩),a6,d2)):=hR.out.trans (C.out hr);clear B C;go_wp2_with fail;refine(cY t v _ (aR s p) (bC s p) _ _).mono ?_;rintro e w5 ⟨rfl,a⟩;have q:=Y.kept a (by simp);have az:=h5.kept a (by simp);have f:=a.get hF (by simp);have D5:=ag.Wj a;have T5:=T.Wj a;have X:=TB.kept a (by simp);clear q0 q1 q2 q3 q4 q5 Y h5 hF ag T TB a;obtain⟨q0,q1,q2,q3,q4,q5⟩:=q.cells;go_wp2_with fail;refine(a5.out _ D5 az X).mono ?_;rintro e w6 ⟨rfl,H2,D6,M6,-⟩;have A:=M6.1.get f (by rintro (e | e | e);omega;omega;exact O e);have m3:=M6.fresh i.heap.size (ae f) O;have T7:=T5.word M6 (by omega);have a4:=ae A;have y6:=am A;obtain⟨z0,z1,z2,z3⟩:=cD A;have o:Hid _:=(fun a0 a1 a2 a3=>om D6 T7 (F:=i.heap.size) (RV _) (by omega) m3 a0 a1 a2 a3);clear q0 q1 q2 q3 q4 q5;go_wp2;exact Sa (v:=agg #[int i64 r,string pf,int i64 pl,int i64 pc]) (by simp[results,results112,go_sem,a4,z0,z1,z2,z3]) rfl
     ⟨by rw[P.out];rfl,H2,by rw[P.out];exact(o.out _ _ _ _).1.Wj ((aa.refl [] _).alloc _),((o.out _ _ _ _).2.Wj ((aa.refl [] _).alloc _))⟩
   ·have ck:(r != 0)=false:=(by simp[bne,hr]);have P:Hid (bA n w j 0 c d=bA n M j z2 a6 d2):=hR.out.trans (B.out hr);clear B C;go_wp2_with fail;refine(cY t v _ (aR s p) (bC s p) _ _).mono ?_;rintro e w5 ⟨rfl,a⟩;have q:=Y.kept a (by simp);have az:=h5.kept a (by simp);have f:=a.get hF (by simp);have D5:=ag.Wj a;have T5:=T.Wj a;have X:=TB.kept a (by simp);clear q0 q1 q2 q3 q4 q5 Y h5 hF ag T TB a;obtain⟨q0,q1,q2,q3,q4,q5⟩:=q.cells;go_wp2_with fail;refine(a5.out _ D5 az X).mono ?_;rintro e w6 ⟨rfl,H2,D6,M6,cl⟩;have h6:=cl hr;have A:=M6.1.get f (by rintro (e | e | e);omega;omega;exact O e);have bl:jL w6 w4.heap.size v s ⟨t,0,false,p⟩:=M6.1.get q (by rintro (e | e | e);omega;omega;exact bs e);have b2:bF w6 H l n L:=⟨M6.1.get X.1 (by rintro (e | e | e);exact bz e;exact b0 e;exact bc e),X.2⟩;have e1:=M6.fresh sp (ae az) br;have e2:=M6.fresh w4.heap.size (ae q) bs;have e3:=M6.fresh i.heap.size (ae f) O;have e4:=M6.fresh H X.lt bc;have T7:=T5.word M6 (by omega);have a4:=ae A;have cx:=ae bl;have cE:=ae h6;go_wp2_with fail;refine(tJ sp z2 v s _ hs ar.2 (by exact h6.kept ((aa.refl [] _).alloc _) (by simp))).mono ?_;rintro e w8 ⟨rfl,h8,ao⟩;have aT:=(bl.kept ((aa.refl [] _).alloc _) (by simp)).kept ao (by simp;omega);have b5:=ao.get (((aa.refl [] _).alloc _).get A (by simp)) (by simp;omega);have D8:=(D6.Wj ((aa.refl [] _).alloc _)).kept ao (by simp;omega) (by intro k hk;simp;rintro rfl;exact e1 hk);have b3:=(b2.kept ((aa.refl [] _).alloc _) (by simp)).kept ao (by simp;omega);have T8:=(T7.Wj ((aa.refl [] _).alloc _)).beyond ao (by simp;omega);have yy:=am aT;have cy:=ae aT;clear q0 q1 q2 q3 q4 q5;obtain⟨q0,q1,q2,q3,q4,q5⟩:=aT.cells;simp only[fA];go_wp2;go_roundg (s.size-z2)
    case measure=>omega
    case rel =>
     exact⟨z2,M,m2,a6,d2,H2,ar.2,rfl,bo,bj,by omega,by omega,by omega,P.out,ii h8 (by omega) _ _ _ _ _ _,pX aT _,uN b5 (by omega) _ _ _ _ _ _,
      D8.kept (Fy _ _ _ _ _ _) (by simp;omega) (by intro k hk;simp;rintro rfl;exact e2 hk),b3.kept (Fy _ _ _ _ _ _) (by simp;omega),T8.beyond (Fy _ _ _ _ _ _) (by simp;omega),e1,e2,e3,e4⟩
theorem AY(g:∀j,j<n.length->(ak n j).size<=1024)(i:l≠H)(f:Nat):∀(j:Nat) (a:List Bool) (d:Db) (b:Nat->Hd) (c:World) (m:Nat),j<n.length->a.length=4->nZ d m->m+eC n a<=9000000->eC n a<=f->aV c H 200 (ed l a) [] d b->bF c l w n L->¬gO b l->jX H l n f j a d b c:=by
 induction f using Nat.strongRecOn with
 | _ f IH =>
  intro j a d b c m s e q t r h p k;cases o:a.getD j true with
  | true=>exact xy H l f j n a e d b c (by have:=p.2;omega) h o
  | false=>exact yC H l w f n L g i IH j a d b c m s e q t r h p k o
structure hQ(w:World)(l:List St)(H:Nat->Hd):Prop where
  own:aC w (H 6) (iW l H)
  syms:∀i s,l[i]?=some s->aC w (H (10+2*i)) (aG s.We)
  prfs:∀i s,l[i]?=some s->aC w (H (11+2*i)) (ic s.Wp)
theorem aV.record{b:List Value}{d:Db}(h:aV T v a z6 b d y):hQ T d.Wv y:=by
  refine⟨h.own 6,fun i s c=>?_,fun i s c=>?_⟩
  · have:=h.own (10+2*i)
    rw[show 10+2*i=2*i+10 by omega]at this ⊢;have e:aY d y (2*i+10)=aG s.We:=by simp[aY,inner,symsAt,c]
    rw[e]at this;exact this
  · have:=h.own (11+2*i)
    rw[show 11+2*i=(2*i+1)+10 by omega]at this ⊢;have q:(2*i+1) % 2=1:=by omega
    have f:(2*i+1) / 2=i:=(by omega);have e:aY d y ((2*i+1)+10)=ic s.Wp:=(by simp[aY,inner,tO,q,f,c]);rw[e]at this;exact this
theorem hQ.keptP{P:Nat->Prop}(h:hQ T S y)(k:fy P T o)(c:∀x,gO y x->¬P x):hQ o S y :=
  ⟨h.own.Wo (fun x a=>k.block x (h.own.lt a) (c x ⟨6,a⟩)),fun i s b=>(h.syms i s b).Wo (fun x a=>k.block x ((h.syms i s b).lt a) (c x ⟨_,a⟩)),fun i s b=>(h.prfs i s b).Wo (fun x a=>k.block x ((h.prfs i s b).lt a) (c x ⟨_,a⟩))⟩
theorem hQ.kept(h:hQ T S y)(k:aa I T o)(a:∀x,gO y x->x∉I):hQ o S y :=
  h.keptP (k.toP (P:=(·∈I)) (fun _ b _=>b)) a
theorem hQ.Wj(h:hQ T S y)(k:aa [] T o):hQ o S y:=h.kept k (by simp)
def nt:Nat->Hd:=fun _=>⟨none,0⟩
theorem uE:¬gO nt w:=by rintro ⟨i,h⟩;simp[nt,Hd.blk]at h
def Gx:List Bool:=[false,false,false,false]
theorem aV.begin(h:T.heap[v]?=some (.cells (z6++(cr fG nt++[])).toArray a)):aV T v a z6 [] fG nt:=by
  refine⟨h,?_,fun i j _=>R4 rfl,fun i e=>by simp[nt,Hd.blk]at e⟩;intro i
  match i with
  | 0=>exact Sb _ _ _ _
  | 1=>exact Sb _ _ _ _
  | 2=>exact Sb _ _ _ _
  | 3=>exact Sb _ _ _ _
  | 4=>exact Sb _ _ _ _
  | 5=>exact Sb _ _ _ _
  | 6=>exact Sb _ _ _ _
  | 7=>exact Sb _ _ _ _
  | 8=>exact Sb _ _ _ _
  | 9=>exact Sb _ _ _ _
  | n+10 =>
    have e:aY fG nt (n+10)=if n % 2=0 then aG [] else ic []:=(by simp[aY,inner,fG,symsAt,tO]);rw[e];split
    · exact Sb _ _ _ _
    · exact Sb _ _ _ _
set_option maxRecDepth 512
theorem Fn(b:List Value)(d:Db)(a:Nat->Hd)(i:World)(h:aV i H l L b d a)(k:L.length=w) :
    Calls prog 113 #[pointer (some ⟨H,w,none⟩)] i fun e u=>e=returned (agg #[slice (a 6).ao d.Wv.length (a 6).cap,slice (a 7).ao d.rbl.length (a 7).cap])/\aa [] i u:=by
  obtain⟨m,n,o,p,q,r,x,y,s,t,c,f,g⟩:=h.cells w k;clear m n o p q r s t c f g;have j:=h.lt;go_enter func113,ntmps113;go_wp2;exact Sa (v:=agg #[slice (a 6).ao d.Wv.length (a 6).cap,slice (a 7).ao d.rbl.length (a 7).cap]) (by simp[results,results113,go_sem]) rfl ⟨rfl,(aa.refl _ _).alloc _⟩
theorem AM(a:∀j,j<n.length->(ak n j).size<=1024)(b:List Bool):eC n b<=4104:=by
  have h:∀j,NL n b j<=1026:=by
    intro j;unfold NL;split
    · omega
    · rcases V5 j n.length with h | h
      · have:=a j h;omega
      · have:(ak n j).size=0:=by unfold ak;rw[RT,SG h];rfl
        omega
  have c:=h 0;have d:=h 1;have e:=h 2;have f:=h 3;unfold eC;omega
theorem AC(h:aa I T o)(c:v∈I∨T.heap.size<=v)(b:a∈I∨T.heap.size<=a)(d e f g i j:Value) :
    aa I T ((((((o.setCell ⟨v,0,none⟩ d).setCell ⟨v,1,none⟩ e).setCell ⟨a,0,none⟩ f).setCell ⟨a,1,none⟩ g).setCell ⟨a,2,none⟩ i).setCell ⟨a,3,none⟩ j) :=
  (((((h.setCell c _).setCell c _).setCell b _).setCell b _).setCell b _).setCell b _
def cv(fs:Fs)(root:Nat):Gm:=cJ fs 5000 root Gx fG
set_option maxRecDepth 100000
theorem MV(Y:bF f H l n L)(P:w<n.length)(o:∀j,j<n.length->(ak n j).size<=1024) :
    Calls prog 80 #[pointer (some ⟨H,0,none⟩),int i64 w] f fun e Z =>
      (if((cv n w).1.1==0)=true then ∃p,e=returned (tuple #[agg #[slice (p 6).ao (cv n w).2.2.Wv.length (p 6).cap,slice (p 7).ao (cv n w).2.2.rbl.length (p 7).cap],ij cM])/\hQ Z (cv n w).2.2.Wv p/\(∀k,gO p k->f.heap.size<=k)
       else e=returned (tuple #[agg #[slice none 0 0,slice none 0 0],ij (cv n w).1]))/\aa [] f Z:=by
  have ad:=Y.lt
  obtain⟨W,q⟩:∃W,W=((f.alloc (.cells #[slice none 0 0,slice none 0 0] 76)).alloc (.cells #[int i64 0,string ⟨#[]⟩,int i64 0,int i64 0] 87)).alloc (.cells #[pointer (some ⟨H,0,none⟩),bool false,bool false,bool false,bool false,
    slice none 0 0,slice none 0 0,slice none 0 0,slice none 0 0,slice none 0 0,slice none 0 0,slice none 0 0,slice none 0 0,int i64 0,string ⟨#[]⟩,slice none 0 0,bool false,slice none 0 0] 200):=⟨_,rfl⟩
  have i:aa [] f W:=by rw[q];exact(((aa.refl [] _).alloc _).alloc _).alloc _
  have hA:W.heap[f.heap.size]?=some (.cells #[slice none 0 0,slice none 0 0] 76):=by
    rw[q];exact(((aa.refl [] _).alloc _).alloc _).get (R2 _ _) (by simp)
  have V:W.heap[f.heap.size+1]?=some (.cells bD 87):=by
    rw[q];have e:(f.alloc (.cells #[slice none 0 0,slice none 0 0] 76)).heap.size=f.heap.size+1:=by simp
    rw[<-e];exact((aa.refl [] _).alloc _).get (R2 _ _) (by simp)
  have U:aV W (f.heap.size+2) 200 (ed H Gx) [] fG nt:=by
    refine aV.begin ?_;rw[q];have e:((f.alloc (.cells #[slice none 0 0,slice none 0 0] 76)).alloc (.cells #[int i64 0,string ⟨#[]⟩,int i64 0,int i64 0] 87)).heap.size=f.heap.size+2:=by simp
    rw[<-e];exact R2 _ _
  have hT:bF W H l n L:=Y.kept i (by simp);have HW:Hid _:=q.symm;have O:=AY (f.heap.size+2) H l n L o (by omega) 5000 w Gx fG nt W 0 P rfl nZ.empty (by have:=AM n o Gx;omega) (by have:=AM n o Gx;omega) U hT (uE _);unfold jX at O;have t:Hid _:=O;clear q O;have s:Hid ((cJ n 5000 w Gx fG).2.1.length=4):=((LV n 5000).2 w Gx fG 0 rfl nZ.empty).1;have S:Hid (cv n w=cJ n 5000 w Gx fG):=rfl;rw[S.out];clear S;generalize cJ n 5000 w Gx fG=R at *;obtain⟨⟨r,pf,pl,pc⟩,u,D⟩:=R;simp only[ij]at t s ⊢;go_enter func80,ntmps80;go_upto_region 2 with fail
  rw[HW.out];go_wp2_with fail;refine R0 t.out ?_;rintro e w2 ⟨rfl,b,K,a⟩;have c:=a.1.get hA (by rintro (e | e);omega;exact uE _ e);have d:=a.1.get V (by rintro (e | e);omega;exact uE _ e);have af:=a.1.size;have ac:=K.lt;have N:Hid (∀k,gO b k->f.heap.size<=k):=fun k m=>by
    rcases a.2 k m with h | h
    · exact absurd h (uE _)
    · have:=i.size;omega
  have M:Hid (∀k,gO b k->k≠f.heap.size/\k≠f.heap.size+1/\k≠f.heap.size+2):=fun k m=>by
    have hz:=ae V;have ag:=U.lt;rcases a.2 k m with h | h
    · exact absurd h (uE _)
    · omega
  have T:Hid (aa [] f w2):=⟨a.1.os.trans i.os,a.1.tape.trans i.tape,a.1.output.trans i.output,Sc i.size a.1.size,fun k m _=>(a.1.block k (R6 m i.size) (by rintro (e | e);omega;exact uE _ e)).trans (i.block k m (by simp))⟩;obtain⟨B,C⟩:=Ai c;obtain⟨F,G,I,J⟩:=cD d;have ya:=am c;have yf:=am d;have v:=ae c;have y:=ae d;cases X:(r==0)
  · have Q:(r != 0)=true:=by simp[bne,X]
    go_wp2_with fail;go_region
    all_goals go_wp2
    all_goals exact Sa (v:=tuple #[agg #[slice none 0 0,slice none 0 0],agg #[int i64 r,string pf,int i64 pl,int i64 pc]]) (by simp[results,results80,go_sem,B,C,F,G,I,J,v,y]) rfl ⟨rfl,((AC T.out (RZ (RV _)) (RZ (Vd _)) _ _ _ _ _ _).alloc _).drew⟩
  · have Q:(r != 0)=false:=by simp[bne,X]
    go_wp2_with fail;refine(Fn (f.heap.size+2) 200 5 (ed H u) [] D b _ (by exact K.Wj ((aa.refl [] _).alloc _)) (jG H u s.out)).mono ?_;rintro e E ⟨rfl,A⟩;have g:aa [] w2 E:=((aa.refl [] _).alloc _).trans A;have x:=g.get c (by simp);have z:=g.get d (by simp);have K4:Hid (aa [] f E):=T.out.trans g;have S4:Hid (hQ E D.Wv b):=K.record.Wj g;clear B C F G I J ya yf A;obtain⟨B,C⟩:=Ai x;obtain⟨F,G,I,J⟩:=cD z;have ya:=am x;have yf:=am z;go_wp2;exact Sa (v:=tuple #[agg #[slice (b 6).ao D.Wv.length (b 6).cap,slice (b 7).ao D.rbl.length (b 7).cap],agg #[int i64 0,string ⟨#[]⟩,int i64 0,int i64 0]]) (by simp[results,results80,go_sem,B,C,F,G,I,J]) rfl
      ⟨⟨b,rfl,S4.out.kept (AC (aa.refl [f.heap.size,f.heap.size+1] E) (R4 (by simp)) (R4 (by simp)) _ _ _ _ _ _) (fun k m=>by have:=M.out k m;simp;omega),N.out⟩,
        AC K4.out (RZ (RV _)) (RZ (Vd _)) _ _ _ _ _ _⟩
structure f9(w:World)(b o:Nat)(l:List St)(H:Nat->Hd):Prop where
 cell:∃arr t,w.heap[b]?=some (.cells arr t)/\arr[o]?=some (slice (H 6).ao l.length (H 6).cap)
 Wv:hQ w l H
theorem f9.at(h:f9 T v a S y):T.cell? ⟨v,a,none⟩=some (slice (y 6).ao S.length (y 6).cap):=by
 obtain⟨b,t,c,d⟩:=h.cell;rw[aj c];exact d
theorem f9.lt(h:f9 T v a S y):v<T.heap.size:=by
 obtain⟨b,t,c,d⟩:=h.cell;exact ae c
theorem f9.kept(h:f9 T v a S y)(k:aa I T o)(f:v∉I)(e:∀x,gO y x->x∉I):f9 o v a S y:=by
 obtain⟨b,t,c,d⟩:=h.cell;exact⟨⟨b,t,k.get c f,d⟩,h.Wv.kept k e⟩
theorem f9.Wj(h:f9 T v a S y)(k:aa [] T o):f9 o v a S y:=h.kept k (by simp) (by simp)
theorem hQ.stmt(h:hQ T S y)(n:Nat)(k:n<S.length) :
  ∃g,(y 6).ao=some ⟨g,0,none⟩/\S.length<=(y 6).cap/\(y 6).cap<=9223372036854775807/\T.cell? ⟨g,n*8,none⟩=some (int i64 S[n].kind)/\T.cell? ⟨g,n*8+1,none⟩=some (string S[n].label)/\T.cell? ⟨g,n*8+2,none⟩=some (slice (y (10+2*n)).ao S[n].We.length (y (10+2*n)).cap) /\
  T.cell? ⟨g,n*8+3,none⟩=some (slice (y (11+2*n)).ao S[n].Wp.length (y (11+2*n)).cap)/\T.cell? ⟨g,n*8+4,none⟩=some (string S[n].fin.file)/\T.cell? ⟨g,n*8+5,none⟩=some (int i64 S[n].fin.line) /\
  T.cell? ⟨g,n*8+6,none⟩=some (int i64 S[n].fin.col)/\T.cell? ⟨g,n*8+7,none⟩=some (int i64 S[n].til):=by
 rcases h.own.Wu with ⟨_,f,_⟩ | ⟨g,d,a,m,e,b,-⟩
 ·have:S.length=0:=f;omega
 ·have c:=fun j (i:j<8) v (l:(Kk S[n] (y (10+2*n)) (y (11+2*n)))[j]?=some v)=>h.own.cell a (n*8+j) v ((Ic S y n k j i).trans l);exact⟨g,a,e,by unfold maxLen at b;exact b,c 0 (by omega) _ rfl,c 1 (by omega) _ rfl,c 2 (by omega) _ rfl,c 3 (by omega) _ rfl,c 4 (by omega) _ rfl,c 5 (by omega) _ rfl,c 6 (by omega) _ rfl,c 7 (by omega) _ rfl⟩
set_option maxRecDepth 512
theorem fe(h:f9 f l w b d) :
  Calls prog 81 #[pointer (some ⟨l,w,none⟩)] f fun e a=>e=returned (int i64 b.length)/\a=f:=by
 have c:=h.at;go_enter func81,ntmps81;go_wp2;go_ret;exact⟨rfl,rfl⟩
def fL(s:St)(a b:Hd):Value :=
 agg #[int i64 s.kind,string s.label,slice a.ao s.We.length a.cap,slice b.ao s.Wp.length b.cap,string s.fin.file,int i64 s.fin.line,int i64 s.fin.col,int i64 s.til]
theorem bG(h:f9 f H l b d)(k:w<b.length) :
  Calls prog 98 #[pointer (some ⟨H,l,none⟩),int i64 w] f fun e m=>e=returned (fL b[w] (d (10+2*w)) (d (11+2*w)))/\aa [] f m:=by
 have c:=h.at;have i:=h.lt;obtain⟨g,a,x,y,n,o,p,q,r,s,t,u⟩:=h.Wv.stmt w k;have j:=h.Wv.own.lt (k:=g) (by unfold Hd.blk;rw[a];rfl);rw[a]at c;unfold fL;clear h;go_enter func98,ntmps98;go_wp2;exact Sa (v:=agg #[int i64 b[w].kind,string b[w].label,slice (d (10+2*w)).ao b[w].We.length (d (10+2*w)).cap,slice (d (11+2*w)).ao b[w].Wp.length (d (11+2*w)).cap,string b[w].fin.file,int i64 b[w].fin.line,int i64 b[w].fin.col,int i64 b[w].til])
  (by simp[results,results98,go_sem]) rfl ⟨rfl,(aa.refl _ _).alloc _⟩
def fg(l:List St)(n a:Nat):Bool:=match l[n]? with | some s=>decide (n<a)&&(s.til==0||decide (a<s.til)) | none=>false
theorem Oh(h:l<x.length):fg x l w=(decide (l<w)&&(x[l].til==0||decide (w<x[l].til))):=by
 unfold fg;rw[RQ h]
theorem hZ(h:f9 f D H b d)(n:l<b.length) :
  Calls prog 188 #[pointer (some ⟨D,H,none⟩),int i64 l,int i64 w] f fun e y=>e=returned (bool (fg b l w))/\y=f:=by
 have c:=h.at;obtain⟨g,x,A,B,o,p,q,r,s,u,v,z⟩:=h.Wv.stmt l n;clear o p q r s u v;rw[x]at c;have i:Hid _:=Oh b l w n;generalize b[l].til=t at *;clear h;by_cases k:l<w
 ·cases m:((t:Int)==0)
  ·have a:(t==0)=false:=by cases t <;> simp at m ⊢
   have j:Hid (fg b l w=decide (w<t)):=(by show _=_;rw[i.out,a];simp[k]);clear i;go_enter func188,ntmps188;go_wp2;go_ret;exact⟨aE (by rw[j.out]),rfl⟩
  ·have a:(t==0)=true:=by cases t <;> simp at m ⊢ <;> omega
   have j:Hid (fg b l w=true):=(by show _=_;rw[i.out,a];simp[k]);clear i;go_enter func188,ntmps188;go_wp2;go_ret;exact⟨aE (by rw[j.out]),rfl⟩
 ·have j:Hid (fg b l w=false):=by show _=_;rw[i.out];simp[k]
  clear i;go_enter func188,ntmps188;go_wp2;go_ret;exact⟨aE (by rw[j.out]),rfl⟩
def mB(l:List St)(lab:ByteArray)(a n:Nat):Bool:=match l[n]? with | some s=>(s.label.toList==lab.toList) && !(s.kind==1)&&fg l n a | none=>false
def jo(l:List St)(lab:ByteArray)(a:Nat):Option Nat:=(List.range l.length).find? (mB l lab a)
def qe:Option Nat->Int
 | some n=>n
 | none=>-1
theorem Mu(c:ByteArray)(a n:Nat)(h:n<b.length):mB b c a n=((b[n].label.toList==c.toList) && !(b[n].kind==1)&&fg b n a):=by
 unfold mB;rw[RQ h]
theorem qM(d:a<v)(e:z5 a=true)(b:∀i,i<a->z5 i=false):(List.range v).find? z5=some a :=
 Tx.2 ⟨e,by simpa using d,fun j c=>by simp[b j c]⟩
theorem pg(a:∀i,i<v->z5 i=false):(List.range v).find? z5=none :=
 Tn.2 (fun i b=>by simp[a i (by simpa using b)])
theorem iG(b:ByteArray)(a:List St)(n:Nat->Hd)(p:World)(h:f9 p H l a n)(P:a.length<=1073741824) :
  Calls prog 186 #[pointer (some ⟨H,l,none⟩),string b,int i64 w] p fun e G=>e=returned (int i64 (qe (jo a b w)))/\G=p:=by
 have c:=h.at;go_enter func186,ntmps186;go_wp2
 go_loopg [7] a.length (fun g i wr=>∃k:Nat,k<=a.length/\g=a.length-k/\i=int i64 k/\Hid (∀i,i<k->mB a b w i=false)/\wr=p)
 case atStart=>exact⟨0,by omega,by omega,rfl,fun i v=>by omega,rfl⟩
 case round =>
  obtain⟨k,O,N,rfl,d,rfl⟩:=hrel;by_cases f:k<a.length
  ·obtain⟨g,D,L,M,J,K,x,y,z,A,B,C⟩:=h.Wv.stmt k f;clear x y z A B C;rw[D]at c;have m:Hid _:=Mu a b w k f;have s:Hid (f9 wr H l a n):=h;generalize a[k].label=F at *;generalize a[k].kind=r at *;have next:Hid (mB a b w k=false->∀i,i<k+1->mB a b w i=false):=by
    intro E i v;by_cases e:i=k
    ·subst e;exact E
    ·exact d.out i (by omega)
   cases t:(F.toList==b.toList)
   ·have j:Hid (mB a b w k=false):=(by show _=_;rw[m.out,t];simp);clear m h;go_wp2;go_roundg (a.length-(k+1))
    case measure=>omega
    case rel=>exact⟨k+1,by omega,rfl,by go_num,next.out j.out,rfl⟩
   ·cases o:(r==1)
    ·have q:(r != 1)=true:=(by simp[bne,o]);cases u:fg a k w
     ·have j:Hid (mB a b w k=false):=(by show _=_;rw[m.out,u];simp);clear m h;go_wp2_with (go_at_call 188;refine(hZ H l k w a n _ s.out f).mono ?_;rintro e I ⟨rfl,rfl⟩);go_roundg (a.length-(k+1))
      case measure=>omega
      case rel=>exact⟨k+1,by omega,rfl,by go_num,next.out j.out,rfl⟩
     ·have j:Hid (jo a b w=some k):=qM f (by rw[m.out,t,o,u];rfl) d.out;clear m h;go_wp2_with (go_at_call 188;refine(hZ H l k w a n _ s.out f).mono ?_;rintro e I ⟨rfl,rfl⟩);go_ret;exact⟨au (by rw[j.out];rfl),rfl⟩
    ·have q:(r != 1)=false:=(by simp[bne,o]);have j:Hid (mB a b w k=false):=(by show _=_;rw[m.out,o];simp);clear m h;go_wp2;go_roundg (a.length-(k+1))
     case measure=>omega
     case rel=>exact⟨k+1,by omega,rfl,by go_num,next.out j.out,rfl⟩
  ·have j:Hid (jo a b w=none):=pg (fun i v=>d.out i (by omega));clear h;go_wp2;go_ret;exact⟨au (by rw[j.out];rfl),rfl⟩
def kI(w:World)(h:Hd)(l:List ByteArray):Prop :=
 l=[]∨∃g off cur t,h.ao=some ⟨g,off,none⟩/\w.heap[g]?=some (.cells cur t)/\(∀j x,l[j]?=some x->cur[off+j]?=some (string x))/\l.length<=h.cap/\h.cap<=9223372036854775807
theorem aC.view(o:aC T m (aG N)):kI T m N:=by
 rcases o.Wu with ⟨_,l,_⟩ | ⟨g,a,e,f,i,c,p,k⟩
 ·exact R4 (Sw l)
 ·refine RZ ⟨g,0,a,_,e,f,?_,i,by unfold maxLen at c;exact c⟩;intro j x d;have n:j<N.length:=(R8.1 d).1;have b:a.toList.take (N.length*1)=eS N:=k;have:(eS N)[j]?=some (string x):=by simp[eS,d]
  rw[<-b,UK]at this;rw[Ut];simp at this;exact this.2
theorem kI.kept(v:kI T m N)(k:aa I T o)(f:∀x,m.blk=some x->x∉I):kI o m N:=by
 rcases v with v | ⟨g,b,a,t,c,d,e⟩
 ·exact R4 v
 ·exact RZ ⟨g,b,a,t,c,k.get d (f g (by unfold Hd.blk;rw[c];rfl)),e⟩
theorem kI.Wj(v:kI T m N)(k:aa [] T o):kI o m N:=v.kept k (by simp)
theorem qN{a b:ByteArray}(h:a=b):Ending.returned (string a)=returned (string b):=by rw[h]
theorem LM(l:List ByteArray)(x:ByteArray)(w:World)(s:kI w g l)(r:l.length<=1073741824) :
  Calls prog 219 #[slice g.ao l.length g.cap,string x] w fun e u=>e=returned (bool (aJ l x))/\u=w:=by
 obtain⟨v,o⟩:=g;rcases s with rfl | ⟨j,d,p,t,m,q,f,z,A⟩
 ·clear r;go_enter func219,ntmps219;go_wp2;refine Uh 1 ?_;rw[UD];go_wp2;go_ret;exact⟨rfl,rfl⟩
 ·simp only at m;subst m;go_enter func219,ntmps219;go_wp2
  go_loopg [5] l.length (fun j i wr=>∃k:Nat,k<=l.length/\j=l.length-k/\i=int i64 k/\Hid (aJ l x=aJ (l.drop k) x)/\wr=w)
  case atStart=>exact⟨0,by omega,by omega,rfl,rfl,rfl⟩
  case round =>
   obtain⟨k,C,B,rfl,b,rfl⟩:=hrel;by_cases a:k<l.length
   ·have y:wr.cell? ⟨j,d+k,none⟩=some (string l[k]):=(aj q (d+k)).trans (f k l[k] (RQ a));cases n:((l[k]).toList==x.toList)
    ·have c:Hid (aJ l x=aJ (l.drop (k+1)) x):=Cu l x k a b.out n;clear b f;go_wp2;go_roundg (l.length-(k+1))
     case measure=>omega
     case rel=>exact⟨k+1,by omega,rfl,by go_num,c,rfl⟩
    ·have c:Hid (aJ l x=true):=GK l x k a b.out n;clear b f;go_wp2;go_ret;exact⟨aE c.out.symm,rfl⟩
   ·have c:Hid (aJ l x=false):=Cv l x k a b.out;clear b f;go_wp2;go_ret;exact⟨aE c.out.symm,rfl⟩
def gF(s:St):ByteArray:=s.We.getD 0 ⟨#[]⟩
def aL(s:St):ByteArray:=if(s.kind==2)=true/\2<=s.We.length then s.We.getD 1 ⟨#[]⟩ else⟨#[]⟩
theorem vV(h:w<z4.length):z4.getD w ⟨#[]⟩=z4[w]:=by rw[RT,RQ h];rfl
theorem Bf(u:kI f M i.We)(s:i.We.length<=1073741824) :
  Calls prog 192 #[fL i M g] f fun e v=>e=returned (string (gF i))/\aa [] f v:=by
 unfold fL;obtain⟨w,o⟩:=M;rcases u with j | ⟨q,c,p,t,l,m,n,y,z⟩
 ·have a:Hid (gF i=⟨#[]⟩):=by show _=_;unfold gF;rw[j];rfl
  rw[j];simp only[List.length_nil];clear s j;go_enter func192,ntmps192;go_wp2;go_ret;exact⟨qN a.out.symm,(aa.refl _ _).alloc _⟩
 ·simp only at l;subst l;by_cases d:i.We.length=0
  ·have k:((i.We.length:Int)==0)=true:=(by simp[d]);have a:Hid (gF i=⟨#[]⟩):=(by show _=_;unfold gF;rw[Sw d];rfl);clear d;go_enter func192,ntmps192;go_wp2;go_ret;exact⟨qN a.out.symm,(aa.refl _ _).alloc _⟩
  ·have k:((i.We.length:Int)==0)=false:=Sp.2 (by omega);have b:0<i.We.length:=(by omega);have a:Hid (gF i=i.We[0]):=vV _ _ b;have x:f.cell? ⟨q,c,none⟩=some (string i.We[0]):=(aj m c).trans (n 0 _ (RQ b));have r:=ae m;clear n d;go_enter func192,ntmps192;go_wp2;go_ret;exact⟨qN a.out.symm,(aa.refl _ _).alloc _⟩
theorem pq(s:kI f M i.We)(z:i.We.length<=1073741824) :
  Calls prog 190 #[fL i M g] f fun e u=>e=returned (string (aL i))/\aa [] f u:=by
 unfold fL;cases d:(i.kind==2)
 ·have j:(i.kind != 2)=true:=by simp[bne,d]
  have b:Hid (aL i=⟨#[]⟩):=by show _=_;unfold aL;rw[d];simp
  go_enter func190,ntmps190;go_wp2;go_ret;exact⟨qN b.out.symm,(aa.refl _ _).alloc _⟩
 ·have j:(i.kind != 2)=false:=by simp[bne,d]
  by_cases A:i.We.length<2
  ·have b:Hid (aL i=⟨#[]⟩):=(by show _=_;unfold aL;rw[RU (by omega)]);go_enter func190,ntmps190;go_wp2;go_ret;exact⟨qN b.out.symm,(aa.refl _ _).alloc _⟩
  ·have a:1<i.We.length:=(by omega);obtain⟨v,n⟩:=M;rcases s with p | ⟨q,c,o,t,k,l,m,x,y⟩
   ·rw[p]at a;simp at a
   ·simp only at k;subst k;have b:Hid (aL i=i.We[1]):=by show _=_;unfold aL;rw[RY ⟨d,by omega⟩];exact vV _ _ a
    have w:f.cell? ⟨q,c+1,none⟩=some (string i.We[1]):=(aj l (c+1)).trans (m 1 _ (RQ a));have r:=ae l;clear m;go_enter func190,ntmps190;go_wp2;go_ret;exact⟨qN b.out.symm,(aa.refl _ _).alloc _⟩
def qc(s:St)(syms:List ByteArray):Bool:=if(s.kind==2)=true then aJ syms (aL s) else(s.kind==3)
theorem vK(b:Hd)(l:List ByteArray)(w:World)(r:kI w M i.We)(m:kI w b l)(q:i.We.length<=1073741824)(j:l.length<=1073741824) :
  Calls prog 189 #[fL i M g,slice b.ao l.length b.cap] w fun e c=>e=returned (bool (qc i l))/\aa [] w c:=by
 have n:=fun(c:World) (k:kI c M i.We)=>pq i M g c k q;have a:Hid _:=n;unfold fL at a ⊢;clear n;cases p:(i.kind==2)
 ·have d:Hid (qc i l=(i.kind==3)):=by show _=_;unfold qc;rw[p];simp
  go_enter func189,ntmps189;go_wp2;go_ret;exact⟨aE (by rw[d.out]),(aa.refl _ _).alloc _⟩
 ·have d:Hid (qc i l=aJ l (aL i)):=by show _=_;unfold qc;rw[p];simp
  go_enter func189,ntmps189;go_wp2_with fail;refine(a.out _ (by exact r.Wj ((aa.refl [] _).alloc _))).mono ?_;rintro e s ⟨rfl,f⟩;have o:=((aa.refl [] w).alloc _).trans f;go_wp2_with fail;refine(LM b l _ _ (by exact m.Wj o) j).mono ?_;rintro e t ⟨rfl,rfl⟩;go_wp2;go_ret;exact⟨aE (by rw[d.out]),o⟩
section
structure lu(l:List St):Prop where
 len:l.length<=10000
 pos:∀i (h:i<l.length),0<l[i].We.length
 syms:∀i (h:i<l.length),l[i].We.length<=10000
 prfs:∀i (h:i<l.length),l[i].Wp.length<=10000
theorem aa.grown{c:World}{b:Option Nat}(K:aa [] T o)(g:o.grownBy c b)(d:∀k,b=some k->T.heap.size<=k):aa [] T c :=
 ⟨g.os.trans K.os,g.tape.trans K.tape,g.output.trans K.output,Sc K.size g.size,fun k a _=>(g.block k (R6 a K.size) (fun e=>by have:=d k e.symm;omega)).trans (K.block k a (by simp))⟩
theorem wR(k l c u:Int)(a j:ByteArray)(b g:Option Addr)(e d m i:Nat) :
  (Instr.field 158 (agg #[int i64 k,string a,slice b e d,slice g m i,string j,int i64 l,int i64 c,int i64 u]) 2).run prog f=.ok (slice b e d) f:=by kernel_rfl
attribute [local go_sem] wR
def Aq(l:List St)(a n:Nat):Bool:=match l[n]? with | some s=>(s.kind==3)&&fg l n a | none=>false
theorem PQ(h:w<x.length):Aq x l w=((x[w].kind==3)&&fg x w l):=by
 unfold Aq;rw[RQ h]
def eZ(l:List St)(a k:Nat):List ByteArray:=symsAt l a++((List.range k).filter (Aq l a)).flatMap (symsAt l)
def g9(l:List St)(a:Nat):List ByteArray:=eZ l a l.length
theorem oD(h:w<x.length):symsAt x w=x[w].We:=by
 unfold symsAt;rw[RQ h]
theorem vy:eZ x w 0=symsAt x w:=by unfold eZ;rw[List.range_zero];rw[Vw,Vl,Su]
theorem xT(h:Aq x l w=true):eZ x l (w+1)=eZ x l w++symsAt x w:=by
 unfold eZ;rw[Ty,Tf];simp[h]
theorem uV(h:Aq x l w=false):eZ x l (w+1)=eZ x l w:=by
 unfold eZ;rw[Ty,Tf];simp[h]
theorem xS(k:Nat)(b:lu x)(a:w<x.length)(f:k<=x.length):(eZ x w k).length<=10000+k*10000:=by
 induction k with
 | zero =>
  have:=b.syms w a;have e:=congrArg List.length (vy x w);have c:=congrArg List.length (oD x w a);omega
 | succ k d =>
  have:=d (by omega);cases h:Aq x w k with
  | true =>
   have e:=congrArg List.length (xT x w k h);have c:=congrArg List.length (oD x k (by omega));have:=b.syms k (by omega);rw[R9]at e;omega
  | false =>
   have e:=congrArg List.length (uV x w k h);omega
set_option maxRecDepth 100000
theorem yE(h:f9 f H l b d)(K:w<b.length)(L:lu b) :
  Calls prog 187 #[pointer (some ⟨H,l,none⟩),int i64 w] f fun e w'=>∃o:Hd,e=returned (slice o.ao (g9 b w).length o.cap)/\aC w' o (aG (g9 b w))/\(∀k,o.blk=some k->f.heap.size<=k)/\aa [] f w':=by
 obtain⟨i0,hi,W,X,Y⟩:=Sr lA;have ai:=L.len;have al:=h.lt;go_enter func187,ntmps187;go_wp2_with fail;refine(bG H l w b d _ h K).mono ?_;rintro e w1 ⟨rfl,v⟩;have h1:=h.Wj v;have O1:=h1.Wv.syms w b[w] (RQ K);have hp:=L.pos w K;have hm:=L.syms w K;rcases O1.Wu with ⟨_,h0,_⟩ | ⟨g1,af,e1,-⟩
 ·have:b[w].We.length=0:=h0;omega
 ·unfold fL;rw[e1];have m:Hid (∀j u,(eS b[w].We)[j]?=some u->w1.cell? ((⟨g1,0,none⟩:Addr).add j)=some u):=fun j u hj=>by rw[bS];exact O1.cell e1 j u hj
  have ES:Hid (eZ b w 0=b[w].We):=by show _=_;rw[vy];exact oD b w K
  have HO:Hid (aC w1 ⟨none,0⟩ (aG [])):=Sb _ _ _ _;clear O1;go_wp2_with (at_builtin;refine aO _ rfl (.tmp 8) (.tmp 12) 61 rfl i0 (string ⟨#[]⟩) 16 ⟨none,0⟩ (aG []) underlying61 hi W X Y rfl So rfl HO.out ⟨g1,0,none⟩ b[w].We.length (d (10+2*w)).cap (eS b[w].We) rfl ?c0 m.out (mw _) hp ?c3 ?c4 ?_)
  case c0=>simp[eS,aG]
  case c3=>simp only[aG,List.length_nil];unfold maxLen;omega
  case c4=>simp only[aG,List.length_nil];omega
  intro g O w2 G T p;rw[qP [] b[w].We,UP,<-ES.out]at G;have R:aa [] f w2:=v.grown T (by simp[Hd.blk]);have an:f.heap.size<=g:=by
   rcases p with e | e
   ·simp[Hd.blk]at e
   ·exact Sc v.size e
  have s:Hid ((aG []).n+b[w].We.length=(eZ b w 0).length):=by show _=_;rw[ES.out];simp[aG]
  rw[s.out];clear m HO T p h1 v e1 hp hm s ES;go_wp2
  go_loopg [5,6] b.length (fun gk sv i wr=>∃(k:Nat) (o:Hd),k<=b.length/\gk=b.length-k/\i=int i64 k/\sv=slice o.ao (eZ b w k).length o.cap/\aC wr o (aG (eZ b w k))/\(∀x,o.blk=some x->f.heap.size<=x)/\aa [] f wr)
  case atStart=>exact⟨0,⟨some ⟨g,0,none⟩,O⟩,by omega,by omega,rfl,rfl,G,by intro x I;simp[Hd.blk]at I;omega,R⟩
  case round =>
   obtain⟨k,o,hk,hg,rfl,rfl,J,S,Q⟩:=hrel;have A:=h.Wj Q;clear G R;by_cases a:k<b.length
   ·have ax:=xS b w k L K (by omega);have q:Hid _:=PQ b w k a;have ar:=L.syms k a;have ad:=L.pos k a;have B:=A.Wv.syms k b[k] (RQ a);rcases B.Wu with ⟨_,h0,_⟩ | ⟨C,ag,ek,-⟩
    ·have:b[k].We.length=0:=h0;omega
    ·have SY:Hid (symsAt b k=b[k].We):=oD b k a;cases U:(b[k].kind==3)
     ·have y:Hid (eZ b w (k+1)=eZ b w k):=uV b w k (by rw[q.out,U];rfl);clear q B;go_wp2_with (first | (go_at_call 81;refine(fe H l b d _ (by exact A)).mono ?_;rintro e w3 ⟨rfl,rfl⟩) | (go_at_call 98;refine(bG H l k b d _ (by exact A) a).mono ?_;rintro e w3 ⟨rfl,r⟩;unfold fL));go_roundg (b.length-(k+1))
      case measure=>omega
      case rel=>exact⟨k+1,o,by omega,rfl,by go_num,by rw[y.out],by rw[y.out];exact J.Wo (fun x I=>(r.trans ((aa.refl [] _).alloc _)).block x (J.lt I) (by simp)),S,(Q.trans r).alloc _⟩
     ·go_wp2_with (first | (go_at_call 81;refine(fe H l b d _ (by exact A)).mono ?_;rintro e wc ⟨rfl,rfl⟩) | (go_at_call 98;refine(bG H l k b d _ (by exact A) a).mono ?_;rintro e w3 ⟨rfl,r⟩;unfold fL));obtain⟨N,t⟩:∃N,N=w3.alloc (.cells #[int i64 b[k].kind,string b[k].label,slice (some ⟨C,0,none⟩) b[k].We.length (d (10+2*k)).cap,slice (d (11+2*k)).ao b[k].Wp.length (d (11+2*k)).cap,string b[k].fin.file,int i64 b[k].fin.line,int i64 b[k].fin.col,int i64 b[k].til] 158):=⟨_,rfl⟩
      rw[<-t];have Z:aa [] wc N:=by rw[t];exact r.alloc _
      have B4:=fY t.symm;obtain⟨-,-,q2,-⟩:=vI B4;have F:=A.Wj Z;have E:aC N o (aG (eZ b w k)):=J.Wo (fun x I=>Z.block x (J.lt I) (by simp));have M:=F.Wv.syms k b[k] (RQ a);have D:=Q.trans Z;have m:Hid (∀j u,(eS b[k].We)[j]?=some u->N.cell? ((⟨C,0,none⟩:Addr).add j)=some u):=fun j u hj=>by rw[bS];exact M.cell ek j u hj
      clear t r Z B4 A J B M Q;cases hh:fg b k w
      ·have y:Hid (eZ b w (k+1)=eZ b w k):=uV b w k (by rw[q.out,hh];simp);clear q;go_wp2_with (go_at_call 188;refine(hZ H l k w b d _ (by exact F) a).mono ?_;rintro e w5 ⟨rfl,rfl⟩);go_roundg (b.length-(k+1))
       case measure=>omega
       case rel=>exact⟨k+1,o,by omega,rfl,by go_num,by rw[y.out],by rw[y.out];exact E,S,D⟩
      ·have y:Hid (eZ b w (k+1)=eZ b w k++b[k].We):=(by show _=_;rw[xT b w k (by rw[q.out,U,hh];rfl),SY.out]);clear q SY;go_wp2_with (first | (go_at_call 188;refine(hZ H l k w b d _ (by exact F) a).mono ?_;rintro e w5 ⟨rfl,rfl⟩) | (at_builtin;refine aO _ rfl (.tmp 32) (.tmp 34) 61 rfl i0 (string ⟨#[]⟩) 16 o (aG (eZ b w k)) underlying61 hi W X Y rfl So rfl (by exact E) ⟨C,0,none⟩ b[k].We.length (d (10+2*k)).cap (eS b[k].We) rfl ?d0 m.out (mw _) ad ?d3 ?d4 ?_))
       case d0=>simp[eS,aG]
       case d3=>simp only[aG];unfold maxLen;omega
       case d4=>simp only[aG];omega
       intro g5 P w5 V z c;rw[qP (eZ b w k) b[k].We,<-y.out]at V;have ac:=D.grown z S;have ap:f.heap.size<=g5:=by
        rcases c with e | e
        ·exact S g5 e
        ·exact Sc D.size e
       have s:Hid ((aG (eZ b w k)).n+b[k].We.length=(eZ b w (k+1)).length):=(by show _=_;rw[y.out];simp[aG]);rw[s.out];clear m z c q2 E;go_wp2;go_roundg (b.length-(k+1))
       case measure=>omega
       case rel=>exact⟨k+1,⟨some ⟨g5,0,none⟩,P⟩,by omega,rfl,by go_num,rfl,V,by intro x I;simp[Hd.blk]at I;omega,ac⟩
   ·have e:k=b.length:=(by omega);subst e;go_wp2_with (go_at_call 81;refine(fe H l b d _ (by exact A)).mono ?_;rintro e w3 ⟨rfl,rfl⟩);go_ret;exact⟨o,rfl,J,S,Q⟩
end
def np(l:List St)(syms:List ByteArray)(a n:Nat):Bool:=match l[n]? with | some s=>fg l n a&&qc s syms | none=>false
theorem Jp(h:w<x.length):np x z4 l w=(fg x w l&&qc x[w] z4):=by
 unfold np;rw[RQ h]
def eu(l:List St)(a k:Nat):List Nat:=(List.range k).filter (np l (g9 l a) a)
def aN(l:List St)(a:Nat):List Nat:=eu l a l.length
theorem xb(h:np x (g9 x l) l w=true):eu x l (w+1)=eu x l w++[w]:=by
 unfold eu;rw[Ty,Tf];simp[h]
theorem uy(h:np x (g9 x l) l w=false):eu x l (w+1)=eu x l w:=by
 unfold eu;rw[Ty,Tf];simp[h]
theorem oU:(eu x l w).length<=w:=by
 unfold eu;have:=TQ (np x (g9 x l) l) (List.range w);simpa using this
theorem FM(a:lu x)(c:w<x.length):(g9 x w).length<=1073741824:=by
 have d:=xS x w x.length a c (RV _);have b:=a.len;have e:x.length*10000<=10000*10000:=Vt _ b;unfold g9;omega
set_option maxRecDepth 100000
theorem pV(h:f9 f H l b d)(ha:w<b.length)(N:lu b) :
  Calls prog 143 #[pointer (some ⟨H,l,none⟩),int i64 w] f fun e D=>∃m:Hd,e=returned (slice m.ao (aN b w).length m.cap)/\aC D m (bL (aN b w))/\(∀k,m.blk=some k->f.heap.size<=k)/\aa [] f D:=by
 obtain⟨i0,hi,V,W,X⟩:=Sr zl;have ac:=N.len;have af:=h.lt;have J:=FM b w N ha;go_enter func143,ntmps143;go_wp2_with fail;refine(yE H l w b d _ h ha N).mono ?_;rintro e Y ⟨U,rfl,S,ad,z⟩;go_wp2
 go_loopg [5,7] b.length (fun gk sv i wr=>∃(k:Nat) (m:Hd),k<=b.length/\gk=b.length-k/\i=int i64 k/\sv=slice m.ao (eu b w k).length m.cap/\aC wr m (bL (eu b w k))/\(∀x,m.blk=some x->Y.heap.size<=x)/\aa [] Y wr)
 case atStart=>exact⟨0,⟨none,0⟩,by omega,by omega,rfl,rfl,Sb _ _ _ _,by intro x r;simp[Hd.blk]at r,aa.refl _ _⟩
 case round =>
  obtain⟨k,m,hk,hg,rfl,rfl,C,G,B⟩:=hrel;have p:=(h.Wj z).Wj B;have y:kI wr U (g9 b w):=(S.view).Wj B;have ai:=oU b w k;by_cases g:k<b.length
  ·have A:Hid _:=Jp b (g9 b w) w k g;have al:=N.syms k g;have v:=(p.Wv.syms k b[k] (RQ g)).view;cases hh:fg b k w
   ·have s:Hid (eu b w (k+1)=eu b w k):=uy b w k (by rw[A.out,hh];rfl);clear A v y;go_wp2_with (first | (go_at_call 81;refine(fe H l b d _ (by exact p)).mono ?_;rintro e wc ⟨rfl,rfl⟩) | (go_at_call 188;refine(hZ H l k w b d _ (by exact p) g).mono ?_;rintro e wd ⟨rfl,rfl⟩));go_roundg (b.length-(k+1))
    case measure=>omega
    case rel=>exact⟨k+1,m,by omega,rfl,by go_num,by rw[s.out],by rw[s.out];exact C,G,B⟩
   ·have Z:=fun(D:World) (v1:kI D (d (10+2*k)) b[k].We) (v2:kI D U (g9 b w))=>vK b[k] (d (10+2*k)) (d (11+2*k)) U (g9 b w) D v1 v2 (by omega) J;have q:Hid _:=Z;clear Z;cases M:qc b[k] (g9 b w)
    ·have s:Hid (eu b w (k+1)=eu b w k):=uy b w k (by rw[A.out,M];simp);rw[M]at q;clear A;go_wp2_with (first | (go_at_call 81;refine(fe H l b d _ (by exact p)).mono ?_;rintro e wc ⟨rfl,rfl⟩) | (go_at_call 188;refine(hZ H l k w b d _ (by exact p) g).mono ?_;rintro e wd ⟨rfl,rfl⟩) | (go_at_call 98;refine(bG H l k b d _ (by exact p) g).mono ?_;rintro e w3 ⟨rfl,a⟩) | (go_at_call 189;refine(q.out _ (by exact v.Wj a) (by exact y.Wj a)).mono ?_;rintro e w4 ⟨rfl,o⟩));go_roundg (b.length-(k+1))
     case measure=>omega
     case rel=>exact⟨k+1,m,by omega,rfl,by go_num,by rw[s.out],by rw[s.out];exact C.Wo (fun x r=>(a.trans o).block x (C.lt r) (by simp)),G,(B.trans a).trans o⟩
    ·have s:Hid (eu b w (k+1)=eu b w k++[k]):=xb b w k (by rw[A.out,hh,M];rfl);rw[M]at q;clear A;go_wp2_with (first | (go_at_call 81;refine(fe H l b d _ (by exact p)).mono ?_;rintro e wc ⟨rfl,rfl⟩) | (go_at_call 188;refine(hZ H l k w b d _ (by exact p) g).mono ?_;rintro e wd ⟨rfl,rfl⟩) | (go_at_call 98;refine(bG H l k b d _ (by exact p) g).mono ?_;rintro e w3 ⟨rfl,a⟩) | (go_at_call 189;refine(q.out _ (by exact v.Wj a) (by exact y.Wj a)).mono ?_;rintro e w4 ⟨rfl,o⟩;have I:=C.Wo (fun x r=>((a.trans o).alloc (.cells #[int i64 k] 3)).block x (C.lt r) (by simp))) | (at_builtin;refine aO _ rfl (.tmp 28) (.tmp 30) 24 rfl i0 (int i64 0) 8 m (bL (eu b w k)) underlying24 hi V W X rfl So rfl (by exact I) ⟨_,0,none⟩ 1 1 [int i64 k] rfl rfl ?d1 ?d2 So ?d3 ?d4 ?_))
     case d1=>intro j u L;match j,L with | 0,L=>simp at L;subst L;simp[Addr.add]
     case d2=>intro u hu;simp at hu;subst hu;rfl
     case d3=>simp only[bL];unfold maxLen;omega
     case d4=>simp only[bL];omega
     intro O E w5 K t c;rw[m9 (eu b w k) k,<-s.out]at K;have F:=((B.trans a).trans o).alloc (.cells #[int i64 k] 3);have R:=F.grown t G;have ag:Y.heap.size<=O:=by
      rcases c with e | e
      ·exact G O e
      ·have:=F.size;simp at e this;omega
     have P:Hid ((bL (eu b w k)).n+1=(eu b w (k+1)).length):=(by show _=_;rw[s.out];simp[bL]);rw[P.out];clear t c I;go_wp2;go_roundg (b.length-(k+1))
     case measure=>omega
     case rel=>exact⟨k+1,⟨some ⟨O,0,none⟩,E⟩,by omega,rfl,by go_num,rfl,K,by intro x r;simp[Hd.blk]at r;omega,R⟩
  ·have e:k=b.length:=(by omega);subst e;have Q:=z.trans B;have T:=z.size;go_wp2_with (go_at_call 81;refine(fe H l b d _ (by exact p)).mono ?_;rintro e w3 ⟨rfl,rfl⟩);go_ret;exact⟨m,rfl,C,fun x r=>Sc T (G x r),Q⟩
theorem Pu:(prog.info? 24).map (fun i=>(i.zero,i.size,i.bytes))=some (some (slice none 0 0),1,24):=by kernel_rfl
theorem AL(v:Value)(n i:Nat)(h:i<n):(madeCells #[v] n)[i]?=some v:=by
 simp[madeCells,h,Nat.mod_one]
def ni(l:List St)(n:Nat):Bool:=match l[n]? with | some s=>pK s.kind | none=>false
theorem Az(h:w<x.length):ni x w=pK x[w].kind:=by
 unfold ni;rw[RQ h]
def mb(l:List St)(k n:Nat):List Nat:=if n<k/\ni l n=true then aN l n else []
structure il(w:World)(g:Nat)(l:List St)(k:Nat)(K:Nat->Hd):Prop where
 arr:∃arr,w.heap[g]?=some (.cells arr 24)/\arr.size=l.length/\∀n,n<l.length->arr[n]?=some (slice (K n).ao (mb l k n).length (K n).cap)
 own:∀n,n<l.length->aC w (K n) (bL (mb l k n))
 off:∀n,(K n).blk≠some g
theorem il.kept(h:il T v S a y)(q:aa I T o)(j:v∉I)(i:∀n x,(y n).blk=some x->x∉I):il o v S a y:=by
 obtain⟨b,e,f,g⟩:=h.arr;exact⟨⟨b,q.get e j,f,g⟩,fun n c=>(h.own n c).Wo (fun x d=>q.block x ((h.own n c).lt d) (i n x d)),h.off⟩
theorem il.Wj(h:il T v S a y)(q:aa [] T o):il o v S a y:=h.kept q (by simp) (by simp)
theorem il.cell(h:il T v S a y)(n:Nat)(e:n<S.length):T.cell? ⟨v,n,none⟩=some (slice (y n).ao (mb S a n).length (y n).cap):=by
 obtain⟨b,c,f,d⟩:=h.arr;rw[aj c];exact d n e
theorem il.free(h:il T v S a y)(n:Nat):T.frozen? ⟨v,n,none⟩=false:=by
 obtain⟨b,c,d,e⟩:=h.arr;exact am c n
theorem il.lt{k:Nat}(h:il T v S k y):v<T.heap.size:=by
 obtain⟨a,b,c,d⟩:=h.arr;exact ae b
theorem il.skip(h:il T v S a y)(d:ni S a=false):il T v S (a+1) y:=by
 have e:∀n,mb S (a+1) n=mb S a n:=by
  intro n;unfold mb;by_cases f:n=a
  ·subst f;rw[RU (by rw[d];simp),RU (by rw[d];simp)]
  ·have:(n<a+1/\ni S n=true) ↔ (n<a/\ni S n=true):=and_congr_left (fun _=>by omega);simp only[this]
 obtain⟨b,g,i,j⟩:=h.arr;exact⟨⟨b,g,i,fun n c=>by rw[e];exact j n c⟩,fun n c=>by rw[e];exact h.own n c,h.off⟩
theorem il.store{k:Nat}(h:il T v S k y)(p:ni S k=true)(q:k<S.length)(b:Hd)(o:aC T b (bL (aN S k)))(i:b.blk≠some v) :
  il (T.setCell ⟨v,k,none⟩ (slice b.ao (aN S k).length b.cap)) v S (k+1) (ip y k b):=by
 have e:∀n,n≠k->mb S (k+1) n=mb S k n:=by
  intro n a;unfold mb;have:(n<k+1/\ni S n=true) ↔ (n<k/\ni S n=true):=and_congr_left (fun _=>by omega);simp only[this]
 have f:mb S (k+1) k=aN S k:=by unfold mb;rw[RY ⟨by omega,p⟩]
 obtain⟨j,l,g,m⟩:=h.arr;refine⟨⟨_,ah l _ _,by simpa using g,?_⟩,?_,?_⟩
 ·intro n c;by_cases a:n=k
  ·subst a;rw[dw,f];simp[g,c]
  ·rw[bX _ _ _ _ a,e n a];rw[Vk (by omega)];exact m n c
 ·intro n c;by_cases a:n=k
  ·subst a;rw[dw,f];exact o.Wo (fun x d=>Sg _ _ _ _ (by rintro rfl;exact i d))
  ·rw[bX _ _ _ _ a,e n a];exact(h.own n c).Wo (fun x d=>Sg _ _ _ _ (by rintro rfl;exact h.off n d))
 ·intro n;by_cases a:n=k
  ·subst a;rw[dw];exact i
  ·rw[bX _ _ _ _ a];exact h.off n
theorem sR(h:f9 f l w b d)(R:lu b) :
  Calls prog 114 #[pointer (some ⟨l,w,none⟩)] f fun e S=>∃(g:Nat) (K:Nat->Hd),e=returned (slice (some ⟨g,0,none⟩) b.length b.length)/\il S g b b.length K/\f.heap.size<=g/\(∀n x,(K n).blk=some x->f.heap.size<=x)/\aa [] f S:=by
 obtain⟨Y,V,I,J,L⟩:=Sr Pu;have O:=R.len;have T:=h.lt;have Q:=fun f=>dH (P:=prog) f 181 24 Y _ underlying181 V I b.length 1 J (by rw[L];omega) (by omega);obtain⟨z,o⟩:∃z,z=madeCells (slice none 0 0).cells (b.length*1):=⟨_,rfl⟩
 rw[<-o]at Q;have M:Hid (il (f.alloc (.cells z 24)) f.heap.size b 0 nt):=by
  refine⟨⟨z,R2 _ _,by rw[o,TO];omega,?_⟩,?_,fun n e=>by simp[nt,Hd.blk]at e⟩
  ·intro n W;have e:mb b 0 n=[]:=(by unfold mb;rw[RU (by omega)]);rw[e,o];exact AL _ _ _ (by omega)
  ·intro n W;have e:mb b 0 n=[]:=(by unfold mb;rw[RU (by omega)]);rw[e];exact Sb _ _ _ _
 clear o;go_enter func114,ntmps114;go_wp2_with (go_at_call 81;refine(fe l w b d _ (by exact h)).mono ?_;rintro e wc ⟨rfl,H⟩;rw[H])
 go_loopg [4] b.length (fun gk i wr=>∃(k:Nat) (K:Nat->Hd),k<=b.length/\gk=b.length-k/\i=int i64 k/\il wr f.heap.size b k K/\(∀n x,(K n).blk=some x->f.heap.size<=x)/\aa [] f wr)
 case atStart=>exact⟨0,nt,by omega,by omega,rfl,M.out,fun n x r=>by simp[nt,Hd.blk]at r,(aa.refl _ _).alloc _⟩
 case round =>
  obtain⟨k,K,hk,hg,rfl,v,E,s⟩:=hrel;have G:=h.Wj s;clear M Q;by_cases c:k<b.length
  ·have A:Hid _:=Az b k c;cases N:pK b[k].kind
   ·have C:Hid (il wr f.heap.size b (k+1) K):=v.skip (by rw[A.out,N]);clear A;go_wp2_with (first | (go_at_call 98;refine(bG l w k b d _ (by exact G) c).mono ?_;rintro e Z ⟨rfl,j⟩;unfold fL) | (go_at_call 161;refine(dZ b[k].kind _ _ _ _ _ _ _ _).mono ?_;rintro e w4 ⟨rfl,m⟩));go_roundg (b.length-(k+1))
    case measure=>omega
    case rel=>exact⟨k+1,K,by omega,rfl,by go_num,(C.out.Wj j).Wj m,E,(s.trans j).trans m⟩
   ·go_wp2_with (first | (go_at_call 98;refine(bG l w k b d _ (by exact G) c).mono ?_;rintro e Z ⟨rfl,j⟩;unfold fL) | (go_at_call 161;refine(dZ b[k].kind _ _ _ _ _ _ _ _).mono ?_;rintro e w4 ⟨rfl,m⟩));have a:=j.trans m;refine(pV l w k b d _ (G.Wj a) c R).mono ?_;rintro e w5 ⟨y,rfl,t,q,u⟩;have p:=(v.Wj a).Wj u;have U:=(v.Wj a).lt;have F:y.blk≠some f.heap.size:=fun e=>by have:=q _ e;omega
    have C:Hid _:=(p.store (by rw[A.out,N]) c y t F);have D:=(s.trans a).trans u;have X:=(s.trans a).size;have B:Hid (∀n x,(ip K k y n).blk=some x->f.heap.size<=x):=by
     intro n x r;by_cases e:n=k
     ·subst e;rw[dw]at r;have:=q x r;omega
     ·rw[bX _ _ _ _ e]at r;exact E n x r
    have c1:=p.cell k c;have hf:=p.free;clear q t;go_wp2;go_roundg (b.length-(k+1))
    case measure=>omega
    case rel=>exact⟨k+1,ip K k y,by omega,rfl,by go_num,C.out,B.out,D.setCell (RZ (RV _)) _⟩
  ·have e:k=b.length:=(by omega);subst e;go_wp2;go_ret;exact⟨f.heap.size,K,rfl,v,RV _,E,s⟩
end Go.Proofs.YtnbhnocdhbcbcaaGreat
