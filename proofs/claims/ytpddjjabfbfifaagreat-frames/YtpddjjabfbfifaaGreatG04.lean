import Derived.Deep.RegionHeld3
import Derived.BigQuiet
import Derived.Test.YtpddjjabfbfifaaGreatG03
namespace Go.Proofs.YtpddjjabfbfifaaGreat
open Go.RowKit Tryz
set_option maxRecDepth 100000
set_option maxHeartbeats 40000000
variable{x M zb:World}{n g y9 y7 yt:Nat}{y1 y5:List Value}{d:Db}{o z4 yg:Nat->Hd}{y8:Option Nat}{ya:List Nat}{yr:Fs}{ys:List Bool}{yd yf:ByteArray}(L k N:Nat)(z7:List Value)(D:Nat)(zt:Fs)(H T l:Nat)(w:Fs)(I:List Value)(b:Db)(z6:Nat->Hd)(S y:ByteArray)(i:Int)(z5:ByteArray)(a:Int)(y0:World)(f:List Bool)(y2:Db)(yu yv yz x0:Value)(y3:List St)(v:Nat)(y4:Pl)
theorem Ia(h:(z5.toList == [36,61])=true):dA z5=true:=by
 have:z5=⟨#[36,61]⟩:=yk (by rw[ByteArray.toList_mk [36,61]];simpa using h);rw[this];decide +kernel
theorem JD(l:List (ByteArray×Pl))(p:ByteArray×Pl):(⟨(gN l).e,(gN l).size,(gN l).n+1,(gN l).xs++qW p⟩:dN)=gN (l++[p]):=by
 simp[gN,nC]
def im(b t o:Nat)(pre post:List Value)(d:Db)(H:Nat->Hd)(x f:ByteArray)(l c:Int)(w:World):Prop :=
 Calls prog 206 #[.pointer (some ⟨b,o,none⟩),.string x,.agg #[.string f,.int .i64 l,.int .i64 c]] w fun e w'=>e=.returned (.int .i64 (aX d x ⟨f,l,c⟩).1)/\∃H',aR w' b t pre post (aX d x ⟨f,l,c⟩).2 H'/\aA b w H w' H'
theorem boxed(h:aR x n g y1 y5 d o)(f:ByteArray)(l c:Int) :
  ∃W,Hid (x.alloc (.cells #[.string f,.int .i64 l,.int .i64 c] 36)=W)/\ab [] x W/\aR W n g y1 y5 d o/\W.cell? ⟨x.heap.size,0,none⟩=some (.string f)/\W.cell? ⟨x.heap.size,1,none⟩=some (.int .i64 l)/\W.cell? ⟨x.heap.size,2,none⟩=some (.int .i64 c):=by
 have B:(x.alloc (.cells #[.string f,.int .i64 l,.int .i64 c] 36)).heap[x.heap.size]?=some (.cells #[.string f,.int .i64 l,.int .i64 c] 36 (0,0)):=QR _ _;refine⟨_,rfl,(ab.refl [] _).alloc _,h.Va ((ab.refl [] _).alloc _),?_,?_,?_⟩ <;> rw[aa B] <;> rfl
theorem C7(h:aR y0 L k z7 I b z6)(t:z7.length=N)(m:fK b 10000000)(Y:S.size<=1073741824)(z:(b.kind==0)=false)(R:(b.kind==6)=false)(f:(S.toList == [36,46])=false)(p:(S.toList == [36,61])=false)(T:dA S=false)(E:b.U9=false) :
  im L k N z7 I b z6 S y i a y0:=by
 unfold im;have X:=m.mono (M:=1073741824) (by omega);obtain⟨W,Q,K,D,p0,p1,p2⟩:=boxed h y i a;clear h;obtain⟨q0,q1,Z,q3,q4,q5,q6,q7,q8,q9,H,q,B⟩:=D.cells N t;clear q0 q1 Z q3 q4 q5 q6 q7 q9 B;have G:=D.free;rw[E]at q
 cases x:(aZ b S==0)
 ·have s:Hid (aX b S ⟨y,i,a⟩=(aZ b S,b)):=by show aX b S ⟨y,i,a⟩=_;simp[aX,z,R,f,p,T,E,x]
  go_enter func206,ntmps206
  go_upto_region 1 with fail
  rw[Q.out];go_wp2_with (first | (go_at_call 231;refine(dV S _ Y).mono ?_;rintro e v ⟨rfl,rfl⟩) | (go_at_call 236;refine(pb L k N z7 I b z6 S _ (by exact D) t X).mono ?_;rintro e v ⟨rfl,rfl⟩));go_ret;exact⟨QM (by rw[s.out]),z6,by rw[s.out];exact D,(aA.refl _ _ _).Va K⟩
 ·have s:Hid (aX b S ⟨y,i,a⟩=(0,{ b with U5:=b.U5++[S] })):=by show aX b S ⟨y,i,a⟩=_;simp[aX,z,R,f,p,T,E,x]
  have O:Hid (aZ b S=0):=(show aZ b S=0 by simpa using x);have ad:=m.U5;obtain⟨i0,P,C,F,J⟩:=Rd js;have A:=D.Va ((ab.refl [] W).alloc (.cells #[.string S] 9));have d:=A.own 8;have ac:=D.lt;go_enter func206,ntmps206
  go_upto_region 1 with fail
  rw[Q.out];go_wp2_with (first | (go_at_call 231;refine(dV S _ Y).mono ?_;rintro e v ⟨rfl,rfl⟩) | (go_at_call 236;refine(pb L k N z7 I b z6 S _ (by exact D) t X).mono ?_;rintro e v ⟨rfl,rfl⟩) | (at_builtin;refine aM _ rfl (.tmp 74) (.tmp 76) 61 rfl i0 (.string ⟨#[]⟩) 16 (z6 8) (aB b.U5) underlying61 P C F J rfl Rb rfl (by exact d) ⟨_,0,none⟩ 1 1 [.string S] rfl rfl ?c1 ?c2 Rb ?c3 ?c4 ?_))
  case c1=>intro j u w;match j,w with | 0,w=>simp at w;subst w;simp[Addr.add]
  case c2=>intro u U;simp at U;subst U;rfl
  case c3=>simp only[aB];unfold maxLen;omega
  case c4=>simp only[aB];omega
  intro g o v l r c;obtain⟨z,f0,V⟩:=A.app (d':={ b with U5:=b.U5++[S] }) N 10 t 8 (by omega) g o ((aB b.U5).n+1) _ l (dr b.U5 S) r (by simpa using c) (tp b z6 _) (by omega) _ rfl (by simp[b9,g9,aB]);clear A d q8 H q l r c G;go_wp2;go_ret;exact⟨QM (by rw[s.out,O.out]),_,by rw[s.out];exact V.out.1,V.out.2.first (K.alloc _)⟩
theorem xU(h:aR y0 L k z7 I b z6)(A:z7.length=N)(q:fK b 10000000)(hx:S.size<=1073741824)(H:(b.kind==0)=false)(T:(b.kind==6)=false)(o:(S.toList == [36,46])=false)(r:(S.toList == [36,61])=false)(Y:dA S=false)(z:b.U9=true) :
  im L k N z7 I b z6 S y i a y0:=by
 unfold im;obtain⟨W,G,K,D,p0,p1,p2⟩:=boxed h y i a;clear h;obtain⟨q0,U,J,q3,V,q5,R,q7,q8,q9,v,s,M⟩:=D.cells N A;clear q0 U J q3 V q5 R q7 q9 v;have ad:=D.free;rw[z]at s;have E:Hid (aX b S ⟨y,i,a⟩=(0,{ b with proof:=b.proof++[(S,⟨y,i,a⟩)] })):=by show aX b S ⟨y,i,a⟩=_;simp[aX,H,T,o,r,Y,z]
 have af:=q.proof;obtain⟨Q,x,p,t,w⟩:=Rd OB;have ac:=D.lt;have B:Hid (aR (W.alloc (.cells #[.string S,.string y,.int .i64 i,.int .i64 a] 229)).drew L k z7 I b z6):=D.Va ((ab.refl [] W).alloc _).drew
 have P:Hid (∀j u,(qW (S,⟨y,i,a⟩))[j]?=some u->(W.alloc (.cells #[.string S,.string y,.int .i64 i,.int .i64 a] 229)).drew.cell? ((⟨W.heap.size,0,none⟩:Addr).add j)=some u):=by
  intro j u hj;have O:(W.alloc (.cells #[.string S,.string y,.int .i64 i,.int .i64 a] 229)).drew.heap[W.heap.size]?=some (.cells #[.string S,.string y,.int .i64 i,.int .i64 a] 229 (0,0)):=QR _ _;rw[bL,aa O];simpa [qW] using hj
 have s3:Hid (∀u∈qW (S,⟨y,i,a⟩),u.oneCell'=true):=by
  intro u C;simp only[qW,Ri,RN,SO]at C
  rcases C with rfl | rfl | rfl | rfl <;> rfl
 have X:Hid ((gN b.proof).n+1<=maxLen):=by show _<=_;simp only[gN];unfold maxLen;omega
 have Z:Hid (((gN b.proof).n+1)*48<=140737488355328):=by show _<=_;simp only[gN];omega
 go_enter func206,ntmps206
 go_upto_region 1 with fail
 rw[G.out];go_wp2_with (go_at_call 231;refine(dV S _ hx).mono ?_;rintro e w1 ⟨rfl,rfl⟩)
 go_region_law (refine cd rfl (.tmp 57) (.tmp 61) 156 rfl Q (.agg #[.string ⟨#[]⟩,.string ⟨#[]⟩,.int .i64 0,.int .i64 0]) 48 (z6 9) (gN b.proof) underlying156 x p t w rfl (Uy 3) (by simp[Act.eval] <;> rfl) (B.out.own 9) ⟨_,0,none⟩ 1 1 (qW (S,⟨y,i,a⟩)) (by simp[Act.eval] <;> rfl) rfl P.out s3.out Rb X.out Z.out ?_;intro g l w1 f m c;obtain⟨k5,f5,F⟩:=B.out.app (d':={ b with proof:=b.proof++[(S,⟨y,i,a⟩)] }) N 12 A 9 (by omega) g l ((gN b.proof).n+1) _ f (JD b.proof (S,⟨y,i,a⟩)) m (by simpa using c) (wY b z6 _) (by omega) _ rfl (by simp[b9,g9,gN]);clear f m c)
 all_goals go_wp2
 all_goals go_ret
 all_goals exact⟨QM (by rw[E.out]),_,by rw[E.out];exact F.out.1,F.out.2.first (K.trans ((ab.refl [] _).alloc _).drew)⟩
theorem Fp(h:aR y0 L k z7 I b z6)(q:z7.length=N)(t:S.size<=1073741824)(m:(b.kind==0)=false)(o:(b.kind==6)=false)(d:(S.toList == [36,46])=false)(f:(S.toList == [36,61])=true) :
  im L k N z7 I b z6 S y i a y0:=by
 unfold im;obtain⟨W,l,K,D,R,Q,O⟩:=boxed h y i a;clear h;obtain⟨G,x,u,F,z,E,w,J,P,H,p,g,n⟩:=D.cells N q;clear G x u F z E w J H p n;have B:=D.free;have r:=Ia S f
 cases s:(b.kind==5)
 ·have c:Hid (aX b S ⟨y,i,a⟩=(8,b)):=by show aX b S ⟨y,i,a⟩=_;simp[aX,m,o,d,s,r]
  go_enter func206,ntmps206
  go_upto_region 1 with fail
  rw[l.out];go_wp2_with (go_at_call 231;refine(dV S _ t).mono ?_;rintro e C ⟨rfl,rfl⟩);go_ret;exact⟨QM (by rw[c.out]),z6,by rw[c.out];exact D,(aA.refl _ _ _).Va K⟩
 ·cases j:b.U9
  ·have c:Hid (aX b S ⟨y,i,a⟩=b7 b):=by show aX b S ⟨y,i,a⟩=_;simp only[aX,m,o,d,f,s,j];simp
   rw[j]at g;go_enter func206,ntmps206
   go_upto_region 1 with fail
   rw[l.out];go_wp2_with fail;refine(vK L k N z7 I b z6 _ (by exact D) q).mono ?_;rintro e T ⟨rfl,M,A,v⟩;go_wp2;go_ret;exact⟨QM (by rw[c.out]),M,by rw[c.out];exact A,v.first K⟩
  ·have c:Hid (aX b S ⟨y,i,a⟩=(8,b)):=by show aX b S ⟨y,i,a⟩=_;simp[aX,m,o,d,j,r]
   rw[j]at g;go_enter func206,ntmps206
   go_upto_region 1 with fail
   rw[l.out];go_wp2_with (go_at_call 231;refine(dV S _ t).mono ?_;rintro e C ⟨rfl,rfl⟩);go_ret;exact⟨QM (by rw[c.out]),z6,by rw[c.out];exact D,(aA.refl _ _ _).Va K⟩
theorem MC(h:aR y0 L k z7 I b z6)(l:z7.length=N)(G:fK b 10000000)(C:S.size<=1073741824)(F:AV b 100000000) :
  im L k N z7 I b z6 S y i a y0:=by
 cases o:(b.kind==0)
 ·cases z:(b.kind==6)
  ·cases g:(S.toList == [36,46])
   ·cases m:(S.toList == [36,61])
    ·cases M:dA S
     ·cases Q:b.U9
      ·exact C7 L k N z7 I b z6 S y i a y0 h l G C o z g m M Q
      ·exact xU L k N z7 I b z6 S y i a y0 h l G C o z g m M Q
     ·unfold im
      obtain⟨W,n,K,D,P,O,H⟩:=boxed h y i a;clear h F;obtain⟨v,r,p,u,s,t,q,x,J,w,d,f,c⟩:=D.cells N l;clear v r p u s t q x w d c;have j:Hid (aX b S ⟨y,i,a⟩=(8,b)):=by show aX b S ⟨y,i,a⟩=_;simp[aX,o,z,g,m,M]
      go_enter func206,ntmps206
      go_upto_region 1 with fail
      rw[n.out];go_wp2_with (go_at_call 231;refine(dV S _ C).mono ?_;rintro e T ⟨rfl,rfl⟩);go_ret;exact⟨QM (by rw[j.out]),z6,by rw[j.out];exact D,(aA.refl _ _ _).Va K⟩
    ·exact Fp L k N z7 I b z6 S y i a y0 h l C o z g m
   ·unfold im
    obtain⟨W,n,K,D,P,O,H⟩:=boxed h y i a;clear h F;obtain⟨v,r,p,u,s,t,q,x,J,w,d,f,c⟩:=D.cells N l;clear v r p u s t q x w d f c;have j:Hid (aX b S ⟨y,i,a⟩=lK b ⟨y,i,a⟩):=by show aX b S ⟨y,i,a⟩=_;simp only[aX,o,z,g];simp
    go_enter func206,ntmps206
    go_upto_region 1 with fail
    rw[n.out];go_wp2_with fail;refine(Nk L k N z7 I b z6 y i a _ (by exact D) l G).mono ?_;rintro e R ⟨rfl,E,B,A⟩;go_wp2;go_ret;exact⟨QM (by rw[j.out]),E,by rw[j.out];exact B,A.first K⟩
  ·unfold im
   obtain⟨W,n,K,D,P,O,H⟩:=boxed h y i a;clear h F;obtain⟨v,r,p,u,s,t,q,x,J,w,d,f,c⟩:=D.cells N l;clear v r p u s t q x w d f c;have j:Hid (aX b S ⟨y,i,a⟩=aH b S):=by show aX b S ⟨y,i,a⟩=_;simp only[aX,o,z];simp
   go_enter func206,ntmps206
   go_upto_region 1 with fail
   rw[n.out];go_wp2_with fail;refine(vf L k N z7 I b z6 S _ (by exact D) l).mono ?_;rintro e R ⟨rfl,E,B,A⟩;go_wp2;go_ret;exact⟨QM (by rw[j.out]),E,by rw[j.out];exact B,A.first K⟩
 ·unfold im
  obtain⟨W,n,K,D,P,O,H⟩:=boxed h y i a;clear h;obtain⟨v,r,p,u,s,t,q,x,J,w,d,f,c⟩:=D.cells N l;clear v r p u s t q x w d f c;have j:Hid (aX b S ⟨y,i,a⟩=av b S):=by show aX b S ⟨y,i,a⟩=_;simp only[aX,o];simp
  go_enter func206,ntmps206
  go_upto_region 1 with fail
  rw[n.out];go_wp2_with fail;refine(xS L k N z7 I b z6 S _ (by exact D) l G C F).mono ?_;rintro e R ⟨rfl,E,B,A⟩;go_wp2;go_ret;exact⟨QM (by rw[j.out]),E,by rw[j.out];exact B,A.first K⟩
def fm:Db:=⟨[],[],[],[],[],[],[],[],0,⟨#[]⟩,[],false,[]⟩
abbrev pv:=Int×Pl
def cY:pv:=(0,⟨⟨#[]⟩,0,0⟩)
def gU(f:pv):Value:=.agg #[.int .i64 f.1,.string f.2.file,.int .i64 f.2.line,.int .i64 f.2.col]
def kJ(n s:ByteArray)(p:Nat):Pl:=⟨n,aP s p,bm s p⟩
def iK(n s:ByteArray)(i:rS):pv:=(if i.fin=true then 7 else i.rule,kJ n s i.pos)
abbrev FN:=pv×List Bool×Db
def ru(fs:Fs)(x z:Nat)(p:Pl)(d:Db):pv ⊕ (Nat×Nat) :=
  if ko d=true then .inl (4,p)
  else if aI (ay (ak fs x) z).1=false then .inl (iK (aE fs x) (ak fs x) (ay (ak fs x) z).1)
  else if dA (ay (ak fs x) z).1.text=true then .inl (5,kJ (aE fs x) (ak fs x) (ay (ak fs x) z).1.pos)
  else if bF fs (ay (ak fs x) z).1.text<0 then .inl (6,kJ (aE fs x) (ak fs x) (ay (ak fs x) z).1.pos)
  else if aI (ay (ak fs x) (ay (ak fs x) z).2).1=false then .inl (iK (aE fs x) (ak fs x) (ay (ak fs x) (ay (ak fs x) z).2).1)
  else if((ay (ak fs x) (ay (ak fs x) z).2).1.text.toList == [36,93])=false then .inl (5,kJ (aE fs x) (ak fs x) (ay (ak fs x) (ay (ak fs x) z).2).1.pos)
  else .inr ((bF fs (ay (ak fs x) z).1.text).toNat,(ay (ak fs x) (ay (ak fs x) z).2).2)
def mW(rf:Nat->List Bool->Db->FN)(fs:Fs)(x z:Nat)(p:Pl)(bg:List Bool)(d:Db):FN×Nat :=
  match ru fs x z p d with
  | .inl f=>((f,bg,d),z)
  | .inr (j,z')=>(rf j bg d,z')
def jN(rf:Nat->List Bool->Db->FN)(fs:Fs)(x z:Nat)(t:ByteArray)(p:Pl)(bg:List Bool)(d:Db):FN×Nat :=
  if(t.toList == [36,91])=true then mW rf fs x z p bg d
  else((if((aX d t p).1==0)=true then cY else((aX d t p).1,p),bg,(aX d t p).2),z)
def bq(fs:Fs):Nat->Nat->Nat->List Bool->Db->FN
  | 0,_,_,bg,d=>(cY,bg,d)
  | f+1,x,k,bg,d =>
    if aI (ay (ak fs x) k).1=true then
      (if((jN (fun j bg d=>if bg.getD j true=true then(cY,bg,d) else bq fs f j 0 (bg.set j true) d) fs x (ay (ak fs x) k).2 (ay (ak fs x) k).1.text (kJ (aE fs x) (ak fs x) (ay (ak fs x) k).1.pos) bg d).1.1.1==0)=true
       then bq fs f x (jN (fun j bg d=>if bg.getD j true=true then(cY,bg,d) else bq fs f j 0 (bg.set j true) d) fs x (ay (ak fs x) k).2 (ay (ak fs x) k).1.text (kJ (aE fs x) (ak fs x) (ay (ak fs x) k).1.pos) bg d).2
          (jN (fun j bg d=>if bg.getD j true=true then(cY,bg,d) else bq fs f j 0 (bg.set j true) d) fs x (ay (ak fs x) k).2 (ay (ak fs x) k).1.text (kJ (aE fs x) (ak fs x) (ay (ak fs x) k).1.pos) bg d).1.2.1
          (jN (fun j bg d=>if bg.getD j true=true then(cY,bg,d) else bq fs f j 0 (bg.set j true) d) fs x (ay (ak fs x) k).2 (ay (ak fs x) k).1.text (kJ (aE fs x) (ak fs x) (ay (ak fs x) k).1.pos) bg d).1.2.2
       else(jN (fun j bg d=>if bg.getD j true=true then(cY,bg,d) else bq fs f j 0 (bg.set j true) d) fs x (ay (ak fs x) k).2 (ay (ak fs x) k).1.text (kJ (aE fs x) (ak fs x) (ay (ak fs x) k).1.pos) bg d).1)
    else if(ay (ak fs x) k).1.fin=true/\ko d=false then(cY,bg,d) else(iK (aE fs x) (ak fs x) (ay (ak fs x) k).1,bg,d)
def cn(fs:Fs)(f:Nat)(j:Nat)(bg:List Bool)(d:Db):FN :=
  if bg.getD j true=true then(cY,bg,d) else bq fs f j 0 (bg.set j true) d
def fZ(fs:Fs)(f x k:Nat)(bg:List Bool)(d:Db):FN×Nat :=
  jN (cn fs f) fs x (ay (ak fs x) k).2 (ay (ak fs x) k).1.text (kJ (aE fs x) (ak fs x) (ay (ak fs x) k).1.pos) bg d
theorem yB(a:aI (ay (ak zt T) l).1=true)(b:((fZ zt H T l f y2).1.1.1==0)=true) :
    bq zt (H+1) T l f y2=bq zt H T (fZ zt H T l f y2).2 (fZ zt H T l f y2).1.2.1 (fZ zt H T l f y2).1.2.2:=by
  rw[bq,QV a];exact QV b
theorem ov(b:aI (ay (ak zt T) l).1=true)(c:((fZ zt H T l f y2).1.1.1==0)=false) :
    bq zt (H+1) T l f y2=(fZ zt H T l f y2).1:=by
  rw[bq,QV b];exact QS (fun a=>Bool.noConfusion (c.symm.trans a))
theorem zU(b:aI (ay (ak zt T) l).1=false)(c:(ay (ak zt T) l).1.fin=true)(a:ko y2=false) :
    bq zt (H+1) T l f y2=(cY,f,y2):=by
  rw[bq,QS (by simp[b]),QV ⟨c,a⟩]
theorem wj(a:aI (ay (ak zt T) l).1=false)(b:¬((ay (ak zt T) l).1.fin=true/\ko y2=false)) :
    bq zt (H+1) T l f y2=(iK (aE zt T) (ak zt T) (ay (ak zt T) l).1,f,y2):=by
  rw[bq,QS (by simp[a]),QS b]
theorem kl{i:rS}(h:aI i=false)(a:i.fin=false):(i.rule==0)=false:=by
  simp[aI,a]at h;simpa using h
structure nD(d:Db)(m:Nat):Prop where
  Vd:d.Vd.length<=m
  U7:d.U7.length+d.U5.length<=m
  U8:d.U8.length+d.U5.length<=m
  Ve:d.Ve.length+d.U5.length<=m
  typed:d.typed.length+d.U5.length<=m
  blocks:d.blocks.length<=m
  sts:d.sts.length<=m
  proof:d.proof.length<=m
  inner:∀p,p∈d.blocks->p.1<=m/\p.2<=m
  same:d.rbl.length=d.blocks.length
  recs:∀x,x∈d.rbl->x<=d.sts.length
theorem nD.small{N:Nat}(h:nD d n)(b:n<=N):fK d N/\AV d N :=
  ⟨⟨by have:=h.Vd;omega,by have:=h.U7;omega,by have:=h.U8;omega,by have:=h.Ve;omega,by have:=h.typed;omega,by have:=h.blocks;omega,by have:=h.sts;omega,by have:=h.blocks;have:=h.same;omega,by have:=h.U7;omega,by have:=h.proof;omega⟩,
   ⟨fun p a=>by have:=h.inner p a;omega,h.same,h.recs⟩⟩
theorem nD.mono{m':Nat}(h:nD d n)(b:n<=m'):nD d m' :=
  ⟨by have:=h.Vd;omega,by have:=h.U7;omega,by have:=h.U8;omega,by have:=h.Ve;omega,by have:=h.typed;omega,by have:=h.blocks;omega,by have:=h.sts;omega,by have:=h.proof;omega,fun p a=>by have:=h.inner p a;omega,h.same,h.recs⟩
theorem nD.empty:nD fm 0:=by
  refine⟨?_,?_,?_,?_,?_,?_,?_,?_,?_,?_,?_⟩ <;> simp[fm]
theorem nD.plain(h:nD d n)(k:Int)(l:ByteArray)(b:Bool):nD { d with kind:=k,label:=l,U9:=b } n:=⟨h.Vd,h.U7,h.U8,h.Ve,h.typed,h.blocks,h.sts,h.proof,h.inner,h.same,h.recs⟩
theorem vX:(gy y3 v).length=y3.length:=jg y3 v y3.length
theorem nD.declare(h:nD d n)(p:Pl):nD { aY d p with kind:=0,label:=⟨#[]⟩,U5:=[],U9:=false,proof:=[] } (n+1):=by
  have j:=h.U7;have i:=h.U8;have f:=h.Ve;have g:=h.typed;have a:=h.mono (TN n);unfold aY
  split
  · exact⟨a.Vd,by simp;omega,by simp;omega,by simp;omega,by simp;omega,a.blocks,a.sts,by simp,a.inner,a.same,a.recs⟩
  · split
    · have:=Dj d.U8 (d.U5.take d.U5.length)
      simp only[RI]at this;exact⟨a.Vd,by simp[dO];omega,by simp[dO];omega,by simp[dO];omega,by simp[dO];omega,a.blocks,a.sts,by simp,a.inner,a.same,a.recs⟩
    · unfold mN mX
      have:=h.sts
      split
      · next e=>exact⟨a.Vd,by simp;omega,by simp;omega,by simp;omega,by simp;omega,a.blocks,by simp;omega,by simp,a.inner,a.same,fun x b=>by have:=h.recs x b;simp;omega⟩
      · exact⟨a.Vd,by simp;omega,by simp;omega,by simp;omega,by simp;omega,a.blocks,by simp;omega,by simp,a.inner,a.same,fun x b=>by have:=h.recs x b;simp;omega⟩
theorem nD.take(h:nD d n)(x:ByteArray)(o:Pl):nD (aX d x o).2 (n+1):=by
  have a:=h.mono (TN n);have b:=fun k=>a.plain k d.label d.U9
  have t:=h.Vd;have v:=h.U7;have z:=h.U8;have w:=h.Ve;have s:=h.typed;have u:=h.blocks
  have g:nD (bI d x).2 (n+1):=by
    unfold bI
    split
    · exact a
    · split
      · exact a
      · split
        · exact a
        · exact⟨by simp;omega,a.U7,a.U8,a.Ve,a.typed,a.blocks,a.sts,a.proof,a.inner,a.same,a.recs⟩
  have l:nD (aH d x).2 (n+1):=by
    unfold aH
    split
    · exact b 2
    · split
      · exact b 3
      · split
        · exact b 4
        · split
          · exact b 5
          · exact a
  have j:nD (av d x).2 (n+1):=by
    unfold av
    split
    · refine⟨a.Vd,a.U7,a.U8,a.Ve,a.typed,by simp;omega,a.sts,a.proof,?_,by simp[h.same],?_⟩
      · intro p f
        simp only[Rq,Q8]at f
        rcases f with f | rfl
        · exact a.inner p f
        · simp only;omega
      · intro y c
        simp only[Rq,Q8]at c
        rcases c with c | rfl
        · exact h.recs y c
        · exact QQ _
    · split
      · split
        · exact a
        · next p f =>
          unfold cw
          have r:d.rbl≠[]:=by
            intro e;have:=h.same;rw[e,rC f]at this;simp at this
          obtain⟨y,c⟩:∃y,d.rbl.getLast?=some y:=⟨_,SZ r⟩
          rw[c];refine⟨a.Vd,a.U7,a.U8,?_,?_,?_,?_,a.proof,?_,?_,?_⟩
          · simp only[dq,RO];omega
          · simp only[dq,RO];omega
          · simp only[dq,SE];omega
          · show(gy d.sts y).length<=_;rw[vX];exact a.sts
          · intro q m
            simp only[dq]at m;exact a.inner q (TO _ m)
          · simp only[dq,SE,h.same]
          · intro q m
            show q<=(gy d.sts y).length
            rw[vX];exact h.recs q (TO _ m)
      · split
        · split
          · exact a
          · exact b 7
        · split
          · exact b 8
          · split
            · exact b 1
            · split
              · exact a
              · exact g
  have i:nD (lK d o).2 (n+1):=by
    unfold lK
    split
    · exact a
    · split
      · exact a
      · exact h.declare o
  unfold aX
  split
  · exact j
  · split
    · exact l
    · split
      · exact i
      · split
        · unfold b7
          split
          · exact a
          · exact a.plain d.kind d.label true
        · split
          · exact a
          · split
            · exact⟨a.Vd,a.U7,a.U8,a.Ve,a.typed,a.blocks,a.sts,by have:=h.proof;simp;omega,a.inner,a.same,a.recs⟩
            · split
              · exact⟨a.Vd,by simp;omega,by simp;omega,by simp;omega,by simp;omega,a.blocks,a.sts,a.proof,a.inner,a.same,a.recs⟩
              · exact a
def MW(fs:Fs)(bg:List Bool)(j:Nat):Nat:=if bg.getD j true=true then 0 else(ak fs j).size+2
def dP(fs:Fs)(bg:List Bool):Nat:=MW fs bg 0+MW fs bg 1+MW fs bg 2+MW fs bg 3
theorem wF(g:f.length=4)(e:f.getD v true=false):dP w (f.set v true)+(ak w v).size+2=dP w f:=by
  match f,g with
  | [a,b,c,d],_ =>
    match v with
    | 0=>simp at e;subst e;simp[dP,MW];omega
    | 1=>simp at e;subst e;simp[dP,MW];omega
    | 2=>simp at e;subst e;simp[dP,MW];omega
    | 3=>simp at e;subst e;simp[dP,MW];omega
    | v+4=>simp at e
def Qn(fs:Fs)(bg:List Bool)(m:Nat)(r:FN):Prop :=
  r.2.1.length=4/\dP fs r.2.1<=dP fs bg/\∃m',nD r.2.2 m'/\m'+dP fs r.2.1<=m+dP fs bg
theorem C3(s:∀j a d m,a.length=4->nD d m->Qn w a m (cn w v j a d))(x k:Nat)(a:List Bool)(d:Db)(m:Nat)(n:k<=(ak w x).size)(g:a.length=4)(f:nD d m)(q:aI (ay (ak w x) k).1=true) :
    Qn w a (m+1) (fZ w v x k a d).1/\k<(fZ w v x k a d).2/\(fZ w v x k a d).2<=(ak w x).size:=by
  have e:=fG (ak w x) k n;have c:=e.2.2 q;unfold fZ jN
  split
  · unfold mW
    split
    · exact⟨⟨g,QQ _,m,f,by simp only;omega⟩,c,e.2.1⟩
    · next j u b =>
      have h:=s j a d m g f;refine⟨⟨h.1,h.2.1,?_⟩,?_⟩
      · obtain⟨l,o,t⟩:=h.2.2;exact⟨l,o,by simp only;omega⟩
      · unfold ru at b
        have r:=fG (ak w x) (ay (ak w x) k).2 e.2.1;have y:=fG (ak w x) (ay (ak w x) (ay (ak w x) k).2).2 r.2.1
        repeat' split at b
        all_goals first | (cases b;done) | skip
        injection b with b
        injection b with p i
        subst i;omega
  · exact⟨⟨g,QQ _,m+1,f.take _ _,by simp only;omega⟩,c,e.2.1⟩
theorem Lj:(∀x k a d m,k<=(ak w x).size->a.length=4->nD d m->(bq w v x k a d).2.1.length=4/\dP w (bq w v x k a d).2.1<=dP w a/\∃c,nD (bq w v x k a d).2.2 c/\c+dP w (bq w v x k a d).2.1<=m+((ak w x).size-k)+dP w a) /\
    (∀j a d m,a.length=4->nD d m->Qn w a m (cn w v j a d)):=by
  have b:∀v,(∀x k a d m,k<=(ak w x).size->a.length=4->nD d m->(bq w v x k a d).2.1.length=4/\dP w (bq w v x k a d).2.1<=dP w a/\∃c,nD (bq w v x k a d).2.2 c/\c+dP w (bq w v x k a d).2.1<=m+((ak w x).size-k)+dP w a) ->
      (∀j a d m,a.length=4->nD d m->Qn w a m (cn w v j a d)):=by
    intro v h j a d m e f;unfold cn
    split
    · exact⟨e,QQ _,m,f,QQ _⟩
    · next E =>
      have l:a.getD j true=false:=by simpa using E
      have J:=wF w a j e l;have:=h j 0 (a.set j true) d m (Rn _) (by simpa using e) f;refine⟨this.1,by omega,?_⟩;obtain⟨c,y,F⟩:=this.2.2;exact⟨c,y,by omega⟩
  induction v with
  | zero =>
    have s:∀x k a d m,k<=(ak w x).size->a.length=4->nD d m->(bq w 0 x k a d).2.1.length=4/\dP w (bq w 0 x k a d).2.1<=dP w a/\∃c,nD (bq w 0 x k a d).2.2 c/\c+dP w (bq w 0 x k a d).2.1<=m+((ak w x).size-k)+dP w a:=by
      intro x k a d m n e f;exact⟨e,QQ _,m,f,by simp only[bq];omega⟩
    exact⟨s,b 0 s⟩
  | succ v q =>
    have p:∀x k a d m,k<=(ak w x).size->a.length=4->nD d m->(bq w (v+1) x k a d).2.1.length=4/\dP w (bq w (v+1) x k a d).2.1<=dP w a/\∃c,nD (bq w (v+1) x k a d).2.2 c/\c+dP w (bq w (v+1) x k a d).2.1<=m+((ak w x).size-k)+dP w a:=by
      intro x k a d m n e f
      cases i:aI (ay (ak w x) k).1 with
      | true =>
        have B:=C3 w v q.2 x k a d m n e f i;obtain⟨⟨t,u,o,r,G⟩,H,A⟩:=B
        cases g:((fZ w v x k a d).1.1.1==0) with
        | true =>
          rw[yB w v x k a d i g];obtain⟨z,I,D,C,K⟩:=q.1 x (fZ w v x k a d).2 (fZ w v x k a d).1.2.1 (fZ w v x k a d).1.2.2 o A t r;exact⟨z,by omega,D,C,by omega⟩
        | false =>
          rw[ov w v x k a d i g];exact⟨t,u,o,r,by omega⟩
      | false =>
        by_cases g:(ay (ak w x) k).1.fin=true/\ko d=false
        · rw[zU w v x k a d i g.1 g.2];exact⟨e,QQ _,m,f,by simp only;omega⟩
        · rw[wj w v x k a d i g];exact⟨e,QQ _,m,f,by simp only;omega⟩
    exact⟨p,b (v+1) p⟩
theorem xG(b:z5.size<=1024):(aW z5 v).1.text.size<=1024:=by
  unfold aW;generalize z5.size-v+1=f
  induction f generalizing v with
  | zero=>simp[bX,ByteArray.size]
  | succ f a =>
    rw[bX]
    split
    · split
      · simp[ByteArray.size]
      · exact a _
    · split
      · simp[ByteArray.size]
      · exact qw z5 v b
theorem rE(a:z5.size<=1024):(ay z5 v).1.text.size<=1024:=by
  unfold ay;generalize z5.size-v+1=f
  induction f generalizing v with
  | zero=>simp[dH,ByteArray.size]
  | succ f b =>
    rw[dH]
    split
    · split
      · exact b _
      · exact xG z5 _ a
    · exact qw z5 v a
theorem Fq:(aX b z5 y4).2.proof=b.proof∨(aX b z5 y4).2.proof=[]∨(aX b z5 y4).2.proof=b.proof++[(z5,y4)]:=by
 unfold aX
 split
 ·left
  unfold av
  split
  ·rfl
  ·split
   ·split
    ·rfl
    ·unfold cw;split <;> rfl
   ·split
    ·split <;> rfl
    ·split
     ·rfl
     ·split
      ·rfl
      ·split
       ·rfl
       ·unfold bI
        repeat' split
        all_goals rfl
 ·split
  ·left;unfold aH
   repeat' split
   all_goals rfl
  ·split
   ·unfold lK
    split
    ·left;rfl
    ·split
     ·left;rfl
     ·right;left;rfl
   ·split
    ·left;unfold b7;split <;> rfl
    ·split
     ·left;rfl
     ·split
      ·right;right;rfl
      ·split
       ·left;rfl
       ·left;rfl
theorem Da:(aX b z5 y4).2.sts=b.sts∨(∃y∈b.rbl,(aX b z5 y4).2.sts=gy b.sts y)∨((aX b z5 y4).2.sts=b.sts++[⟨b.kind,b.label,b.U5,b.proof,y4,0⟩]/\0<b.U5.length):=by
 unfold aX
 split
 ·unfold av
  split
  ·left;rfl
  ·split
   ·split
    ·left;rfl
    ·unfold cw
     split
     ·left;rfl
     ·next y d=>right;left;exact⟨y,List.mem_of_getLast? d,rfl⟩
   ·split
    ·split <;> (left;rfl)
    ·split
     ·left;rfl
     ·split
      ·left;rfl
      ·split
       ·left;rfl
       ·left;unfold bI
        repeat' split
        all_goals rfl
 ·split
  ·left;unfold aH
   repeat' split
   all_goals rfl
  ·split
   ·unfold lK
    split
    ·left;rfl
    ·next c =>
     have a:0<b.U5.length:=by
      unfold l4 at c
      split at c <;> omega
     split
     ·left;rfl
     ·unfold aY
      split
      ·left;rfl
      ·split
       ·left;rfl
       ·right;right
        refine⟨?_,a⟩;unfold mN
        split <;> rfl
   ·split
    ·left;unfold b7;split <;> rfl
    ·split
     ·left;rfl
     ·split
      ·left;rfl
      ·split
       ·left;rfl
       ·left;rfl
theorem MG:(aX b z5 y4).2.rbl=b.rbl∨(aX b z5 y4).2.rbl=b.rbl.dropLast∨(aX b z5 y4).2.rbl=b.rbl++[b.sts.length]:=by
 unfold aX
 split
 ·unfold av
  split
  ·right;right;rfl
  ·split
   ·split
    ·left;rfl
    ·unfold cw
     split
     ·left;rfl
     ·right;left;rfl
   ·split
    ·split <;> (left;rfl)
    ·split
     ·left;rfl
     ·split
      ·left;rfl
      ·split
       ·left;rfl
       ·left;unfold bI
        repeat' split
        all_goals rfl
 ·left
  split
  ·unfold aH
   repeat' split
   all_goals rfl
  ·split
   ·unfold lK
    split
    ·rfl
    ·split
     ·rfl
     ·unfold aY
      split
      ·rfl
      ·split
       ·rfl
       ·unfold mN;split <;> rfl
   ·split
    ·unfold b7;split <;> rfl
    ·split
     ·rfl
     ·split
      ·rfl
      ·split <;> rfl
structure PI(S:List St)(d:Db):Prop where
 pre:∃m,d.sts=S++m
 rbl:∀y∈d.rbl,S.length<=y
theorem DU(m:List St)(y:Nat)(h:y3.length<=y):∃b,gy (y3++m) y=y3++b:=by
 refine⟨(gy (y3++m) y).drop y3.length,?_⟩
 have e:(gy (y3++m) y).take y3.length=y3:=by
  apply Sp
  intro i;rw[Ti]
  split
  ·next a =>
   unfold gy fD;rw[List.getElem?_mapIdx,Q6 a,QO a];rw[UT,QS (by omega)]
  ·rw[Rv];omega
 conv=>lhs;rw[<-Uk y3.length (gy (y3++m) y),e]
theorem PI.take{S:List St}(h:PI S d)(x:ByteArray)(p:Pl):PI S (aX d x p).2:=by
 obtain⟨m,b⟩:=h.pre;refine⟨?_,?_⟩
 ·rcases Da d x p with e | ⟨y,a,e⟩ | ⟨e,_⟩
  ·exact⟨m,by rw[e,b]⟩
  ·rw[e,b];exact DU S m y (h.rbl y a)
  ·exact⟨m++[_],by rw[e,b,Sx]⟩
 ·rcases MG d x p with e | e | e
  ·rw[e];exact h.rbl
  ·rw[e];intro y a;exact h.rbl y (TO _ a)
  ·rw[e]
   intro y a
   rcases Rq.1 a with a | a
   ·exact h.rbl y a
   ·rw[Q8.1 a,b,QZ];omega
theorem PI.begin(h:nD d n)(c:ko d=false):PI d.sts d:=by
 refine⟨⟨[],by simp⟩,fun y a=>?_⟩;have b:=h.same
 have e:d.blocks.length=0:=by
  unfold ko at c;simp only[R0,decide_eq_false_iff_not]at c;omega
 rw[e]at b;rw[Rj b]at a
 cases a
structure Rw where
 label:ByteArray
 Vb:Int
 why:Int
 at_:Pl
def mK(r:Rw):List Value:=[.string r.label,.int .i64 r.Vb,.int .i64 r.why,.string r.at_.file,.int .i64 r.at_.line,.int .i64 r.at_.col]
def kK(l:List Rw):List Value:=l.flatMap mK
def kR:Pl:=⟨⟨#[]⟩,0,0⟩
def qc:Rw:=⟨⟨#[]⟩,0,0,kR⟩
theorem P9:(prog.info? 38).map (fun i=>(i.zero,i.size,i.bytes))=some (some (.agg #[.string ⟨#[]⟩,.int .i64 0,.int .i64 0,.string ⟨#[]⟩,.int .i64 0,.int .i64 0]),6,64):=by kernel_rfl
theorem CX(l:List Rw):(kK l).length=l.length*6:=by
 induction l with
 | nil=>rfl
 | cons x r a =>
  have e:kK (x :: r)=mK x++kK r:=rfl;rw[e,QZ,a];simp[mK];omega
theorem GH(l:List Rw)(k:Nat)(a:k<l.length)(j:Nat)(d:j<6):(kK l)[k*6+j]?=(mK l[k])[j]?:=by
 induction l generalizing k with
 | nil=>simp at a
 | cons s r b =>
  have e:kK (s :: r)=mK s++kK r:=rfl;rw[e]
  cases k with
  | zero=>rw[Q6 (by simp[mK];omega)];simp
  | succ k =>
   rw[Q4 (by simp[mK];omega)];have c:(k+1)*6+j-(mK s).length=k*6+j:=by simp[mK];omega
   rw[c,b k (by simpa using a)];rfl
def Km(p:Pl):Prop:=-1000000000<=p.line/\p.line<=1000000000
def pB(w:World):Option Nat->List Rw->Prop
 | none,L=>L=[]
 | some g,L=>0<L.length/\w.heap[g]?=some (.cells (kK L).toArray 38 (0,0))
theorem pB.kept{L:List Rw}(h:pB x y8 L)(k:ab ya x M)(a:∀g,y8=some g->g∉ya):pB M y8 L:=by
 cases y8 with
 | none=>exact h
 | some g=>exact⟨h.1,k.get h.2 (a g rfl)⟩
theorem pB.Va{L:List Rw}(h:pB x y8 L)(k:ab [] x M):pB M y8 L:=h.kept k (by simp)
theorem pB.lt{L:List Rw}(h:pB x y8 L)(g:Nat)(e:y8=some g):g<x.heap.size:=by
 subst e;exact ae h.2
structure Qz(L:List Rw):Prop where
 len:L.length<=100000
 line:∀r∈L,Km r.at_
theorem m9(c:Int)(f:Bool)(w:World) :
  Calls prog 159 #[.agg #[.string S,.int .i64 i,.bool f,.string y,.int .i64 a,.int .i64 c]] w fun e b=>e=.returned (.agg #[.int .i64 (if f=true then 7 else i),.string y,.int .i64 a,.int .i64 c])/\ab [] w b:=by
 cases f
 ·go_enter func159,ntmps159
  go_wp2;exact QX (v:=.agg #[.int .i64 i,.string y,.int .i64 a,.int .i64 c]) (by simp[results,results159,go_sem]) rfl ⟨rfl,((ab.refl _ _).alloc _).alloc _⟩
 ·go_enter func159,ntmps159
  go_wp2;exact QX (v:=.agg #[.int .i64 7,.string y,.int .i64 a,.int .i64 c]) (by simp[results,results159,go_sem]) rfl ⟨rfl,((ab.refl _ _).alloc _).alloc _⟩
def dM(v:Nat)(bg:List Bool):List Value:=.pointer (some ⟨v,0,none⟩) :: bg.map Value.bool
theorem jl(h:f.length=4):(dM l f).length=5:=by simp[dM,h]
theorem aR.pre(h:aR x n g y1 y5 d o)(i:Nat)(b:i<y1.length)(u:Value) :
  aR (x.setCell ⟨n,i,none⟩ u) n g (y1.set i u) y5 d o/\aA n x o (x.setCell ⟨n,i,none⟩ u) o:=by
 refine⟨⟨?_,?_,h.apart,h.off⟩,(eK.refl _ _).setCell (Q0 (Q0 rfl)) _,fun _ a=>Q0 a⟩
 ·rw[ah h.blk,Rt,TJ _ _ b]
 ·intro j
  refine(h.own j).Vf (fun k a=>Q3 _ _ _ _ ?_);rintro rfl;exact h.off j a
theorem aR.preCell(h:aR x n g y1 y5 d o)(i:Nat)(a:i<y1.length):x.cell? ⟨n,i,none⟩=y1[i]?:=by
 rw[aa h.blk];simp[Q6 a]
def fJ(b sp:Nat)(w:World)(H:Nat->Hd)(w':World)(H':Nat->Hd):Prop :=
 eK (fun k=>k=b∨k=sp∨f9 H k) w w'/\∀k,f9 H' k->f9 H k∨w.heap.size<=k
theorem aA.Vf{w':World}(t:aA n x o w' z4):fJ n v x o w' z4 :=
 ⟨⟨t.1.os,t.1.tape,t.1.output,t.1.size,fun k a b=>t.1.block k a (fun e=>b (e.elim Q0 (fun e=>QU (QU e))))⟩,t.2⟩
theorem fJ.trans{w1:World}(a:fJ n g x o w1 z4)(c:fJ n g w1 z4 M yg):fJ n g x o M yg:=by
 refine⟨⟨c.1.os.trans a.1.os,c.1.tape.trans a.1.tape,c.1.output.trans a.1.output,Q1 a.1.size c.1.size,?_⟩,?_⟩
 ·intro k b d
  rw[<-a.1.block k b d];refine c.1.block k (QW b a.1.size) ?_;rintro (e | e | f)
  ·exact d (Q0 e)
  ·exact d (QU (Q0 e))
  ·rcases a.2 k f with h | h
   ·exact d (QU (QU h))
   ·omega
 ·intro k b
  rcases c.2 k b with h | h
  ·exact a.2 k h
  ·exact QU (Q1 a.1.size h)
theorem fJ.refl(H:Nat->Hd):fJ T l y0 H y0 H:=⟨eK.refl _ _,fun _ a=>Q0 a⟩
theorem fJ.Va(a:fJ n g x o M z4)(c:ab [] M zb):fJ n g x o zb z4 :=
 a.trans ⟨c.toP (by simp),fun _ b=>Q0 b⟩
theorem fJ.first(c:ab [] x M)(a:fJ n g M o zb z4):fJ n g x o zb z4 :=
 fJ.trans ⟨c.toP (by simp),fun _ b=>Q0 b⟩ a
theorem fJ.scan(a:fJ n g x o M z4)(c:ab [g] M zb):fJ n g x o zb z4 :=
 a.trans ⟨c.toP (by intro k b _;simp at b;exact QU (Q0 b)),fun _ b=>Q0 b⟩
theorem fJ.beyond(T:fJ n g x o M z4)(k:ab ya M zb)(d:∀a,a∈ya->x.heap.size<=a):fJ n g x o zb z4 :=
 ⟨⟨k.os.trans T.1.os,k.tape.trans T.1.tape,k.output.trans T.1.output,Q1 T.1.size k.size,fun i b e=>by
  rw[<-T.1.block i b e];exact k.block i (QW b T.1.size) (fun c=>by have:=d i c;omega)⟩,T.2⟩
theorem fJ.fresh(T:fJ n g x o M z4)(F:Nat)(c:F<x.heap.size)(b:¬f9 o F):¬f9 z4 F:=by
 intro a
 rcases T.2 F a with h | h
 ·exact b h
 ·omega
theorem aA.fresh(T:aA n x o M z4)(F:Nat)(c:F<x.heap.size)(b:¬f9 o F):¬f9 z4 F:=by
 intro a
 rcases T.2 F a with h | h
 ·exact b h
 ·omega
theorem ji{w:World}{r:Nat}:ab [r] w ((((w.setCell ⟨r,0,none⟩ yu).setCell ⟨r,1,none⟩ yv).setCell ⟨r,2,none⟩ yz).setCell ⟨r,3,none⟩ x0) :=
 ((((ab.refl _ _).setCell (Q0 (by simp)) _).setCell (Q0 (by simp)) _).setCell (Q0 (by simp)) _).setCell (Q0 (by simp)) _
theorem Fa(a b:Value):ab [n] x ((((((x.setCell ⟨n,0,none⟩ yu).setCell ⟨n,1,none⟩ yv).setCell ⟨n,2,none⟩ yz).setCell ⟨n,3,none⟩ x0).setCell ⟨n,4,none⟩ a).setCell ⟨n,5,none⟩ b) :=
 ((((((ab.refl _ _).setCell (Q0 (by simp)) _).setCell (Q0 (by simp)) _).setCell (Q0 (by simp)) _).setCell (Q0 (by simp)) _).setCell (Q0 (by simp)) _).setCell (Q0 (by simp)) _
def bA:Array Value:=#[.int .i64 0,.string ⟨#[]⟩,.int .i64 0,.int .i64 0]
theorem b8(h:x.heap[n]?=some (.cells bA 87 (0,0))) :
  x.cell? ⟨n,0,none⟩=some (.int .i64 0)/\x.cell? ⟨n,1,none⟩=some (.string ⟨#[]⟩)/\x.cell? ⟨n,2,none⟩=some (.int .i64 0)/\x.cell? ⟨n,3,none⟩=some (.int .i64 0):=by
 refine⟨?_,?_,?_,?_⟩ <;> (rw[aa h];rfl)
theorem nM{F:Nat}(D:aR M n g y1 y5 d z4)(T:aA n x o M z4)(a:x.heap.size<=F)(h:n≠F)(j:¬f9 z4 F)(e b f c:Value) :
  aR ((((M.setCell ⟨F,0,none⟩ e).setCell ⟨F,1,none⟩ b).setCell ⟨F,2,none⟩ f).setCell ⟨F,3,none⟩ c) n g y1 y5 d z4 /\
  aA n x o ((((M.setCell ⟨F,0,none⟩ e).setCell ⟨F,1,none⟩ b).setCell ⟨F,2,none⟩ f).setCell ⟨F,3,none⟩ c) z4:=by
 refine⟨D.kept (ji _ _ _ _) (by simpa using h) (fun k i=>by simp;rintro rfl;exact j i),?_,T.2⟩;exact(((T.1.setCell (QU a) _).setCell (QU a) _).setCell (QU a) _).setCell (QU a) _
theorem ud(G:f.length=4)(d:Db)(p:Nat->Hd)(sp:Value)(x n:ByteArray)(i c:Int)(w:World)(h:aR w H T (dM l f) [] d p)(hs:fK d 10000000)(hx:x.size<=1073741824)(U:AV d 100000000)(hn:(x.toList == [36,91])=false) :
  Calls prog 157 #[.pointer (some ⟨H,0,none⟩),sp,.agg #[.string x,.int .i64 0,.bool false,.string n,.int .i64 i,.int .i64 c]] w fun e j =>
   e=.returned (gU (if((aX d x ⟨n,i,c⟩).1==0)=true then cY else((aX d x ⟨n,i,c⟩).1,⟨n,i,c⟩))) /\
   ∃Q,aR j H T (dM l f) [] (aX d x ⟨n,i,c⟩).2 Q/\aA H w p j Q:=by
 have ac:=h.lt;have K:=fun(j:World) (Z:aR j H T (dM l f) [] d p)=>MC H T 5 (dM l f) [] d p x n i c j Z (jl l f G) hs hx U
 unfold im at K;have s:=hI K;clear K;generalize aX d x ⟨n,i,c⟩=td at *;obtain⟨r,d'⟩:=td;simp only at s;obtain⟨W,u⟩:∃W,W=((w.alloc (.cells #[.string x,.int .i64 0,.bool false,.string n,.int .i64 i,.int .i64 c] 255)).alloc (.cells #[.int .i64 0,.string ⟨#[]⟩,.int .i64 0,.int .i64 0] 87)):=⟨_,rfl⟩
 have R:ab [] w W:=by rw[u];exact((ab.refl [] w).alloc _).alloc _
 have O:aR W H T (dM l f) [] d p:=h.Va R
 have hI:W.heap[w.heap.size]?=some (.cells #[.string x,.int .i64 0,.bool false,.string n,.int .i64 i,.int .i64 c] 255 (0,0)):=by
  rw[u];exact((ab.refl [] _).alloc _).get (QR _ _) (by simp)
 have M:W.heap[w.heap.size+1]?=some (.cells bA 87 (0,0)):=by
  rw[u];have:=QR (w.alloc (.cells #[.string x,.int .i64 0,.bool false,.string n,.int .i64 i,.int .i64 c] 255)) (.cells #[.int .i64 0,.string ⟨#[]⟩,.int .i64 0,.int .i64 0] 87);simpa [bA] using this
 have t:Hid (∀k,w.heap.size<=k->¬(k=H∨f9 p k)):=by
  rintro k hk (e | J)
  ·omega
  ·have:=h.inlt J;omega
 have S:=hI u.symm;clear u h;have i0:W.cell? ⟨w.heap.size,0,none⟩=some (.string x):=by rw[aa hI];rfl
 have i3:W.cell? ⟨w.heap.size,3,none⟩=some (.string n):=by rw[aa hI];rfl
 have i4:W.cell? ⟨w.heap.size,4,none⟩=some (.int .i64 i):=by rw[aa hI];rfl
 have i5:W.cell? ⟨w.heap.size,5,none⟩=some (.int .i64 c):=by rw[aa hI];rfl
 have v:=(show Hid _ from fun(a:World) (b:Nat->Hd) (z:aR a H T (dM l f) [] d' b) (g:aA H W.drew p a b) (a0 X Y a3:Value) =>
  nM z ((g.first (ab.refl [] W).drew).first R) (F:=w.heap.size+1) (by omega) (by omega) (g.fresh (w.heap.size+1) (by exact ae M) (fun J=>t.out (w.heap.size+1) (by omega) (QU J))) a0 X Y a3)
 have q:=hI (fun(a:World) (b:Nat->Hd) (g:aA H W.drew p a b)=>(show _/\_ from⟨g.1.get (by exact hI) (t.out _ (QQ _)),g.1.get (by exact M) (t.out _ (by omega))⟩))
 have P:∀(a:World) (b:Nat->Hd) (_:aA H W.drew p a b),a.cell? ⟨w.heap.size,0,none⟩=some (.string x)/\a.cell? ⟨w.heap.size,3,none⟩=some (.string n)/\a.cell? ⟨w.heap.size,4,none⟩=some (.int .i64 i)/\a.cell? ⟨w.heap.size,5,none⟩=some (.int .i64 c):=by
  intro a b g;have L:=(q.out a b g).1;refine⟨?_,?_,?_,?_⟩ <;> (rw[aa L];rfl)
 have A:=hI P;clear P;go_enter func157,ntmps157
 go_upto_region 1 with fail
 rw[S.out]
 go_upto_region 3 with fail
 cases N:(r==0)
 ·have C:(r != 0)=true:=by simp[bne,N]
  go_region_held3 (fun j=>j.cell? ⟨w.heap.size,0,none⟩=some (.string x)/\j.cell? ⟨w.heap.size,3,none⟩=some (.string n)/\j.cell? ⟨w.heap.size,4,none⟩=some (.int .i64 i)/\j.cell? ⟨w.heap.size,5,none⟩=some (.int .i64 c)) (go_keep) (first | (go_at_call 206;refine(s.out _ (by exact O.Va (ab.refl [] _).drew)).mono ?_;rintro e a ⟨rfl,b,z,g⟩;obtain⟨r0,r3,r4,V⟩:=A.out a b g))
  all_goals
   have o:=(q.out a b g).2;have m:=hI (v.out a b z g);obtain⟨D,E,B,I⟩:=b8 o;have y:=am o;go_wp2
   exact QX (v:=.agg #[.int .i64 r,.string n,.int .i64 i,.int .i64 c]) (by simp[results,results157,go_sem,D,E,B,I]) rfl
    ⟨rfl,b,(m.out _ _ _ _).1,(m.out _ _ _ _).2⟩
 ·have C:(r != 0)=false:=by simp[bne,N]
  go_region_held3 (fun j=>j.cell? ⟨w.heap.size,0,none⟩=some (.string x)/\j.cell? ⟨w.heap.size,3,none⟩=some (.string n)/\j.cell? ⟨w.heap.size,4,none⟩=some (.int .i64 i)/\j.cell? ⟨w.heap.size,5,none⟩=some (.int .i64 c)) (go_keep) (first | (go_at_call 206;refine(s.out _ (by exact O.Va (ab.refl [] _).drew)).mono ?_;rintro e a ⟨rfl,b,z,g⟩;obtain⟨r0,r3,r4,V⟩:=A.out a b g))
  all_goals
   have o:=(q.out a b g).2;have m:=hI (v.out a b z g);obtain⟨D,E,B,I⟩:=b8 o;have y:=am o;go_wp2
   exact QX (v:=.agg #[.int .i64 0,.string ⟨#[]⟩,.int .i64 0,.int .i64 0]) (by simp[results,results157,go_sem,D,E,B,I]) rfl
    ⟨rfl,b,(m.out _ _ _ _).1,(m.out _ _ _ _).2⟩
def jD(b v:Nat)(fs:Fs)(f j:Nat)(bg:List Bool)(d:Db)(H:Nat->Hd)(w:World):Prop :=
 Calls prog 111 #[.pointer (some ⟨b,0,none⟩),.int .i64 j] w fun e w'=>e=.returned (gU (cn fs f j bg d).1)/\∃H',aR w' b 200 (dM v (cn fs f j bg d).2.1) [] (cn fs f j bg d).2.2 H'/\aA b w H w' H'
theorem kg{F:Nat}(D:aR M n g y1 y5 d z4)(T:fJ n y9 x o M z4)(j:x.heap.size<=F)(f:n≠F)(i:¬f9 z4 F)(c a e b:Value) :
  aR ((((M.setCell ⟨F,0,none⟩ c).setCell ⟨F,1,none⟩ a).setCell ⟨F,2,none⟩ e).setCell ⟨F,3,none⟩ b) n g y1 y5 d z4 /\
  fJ n y9 x o ((((M.setCell ⟨F,0,none⟩ c).setCell ⟨F,1,none⟩ a).setCell ⟨F,2,none⟩ e).setCell ⟨F,3,none⟩ b) z4 :=
 ⟨D.kept (ji _ _ _ _) (by simpa using f) (fun k h=>by simp;rintro rfl;exact i h),T.beyond (ji _ _ _ _) (by simpa using j)⟩
theorem qP(f:Bool)(p:Nat):gU (iK S y ⟨z5,a,f,p⟩)=.agg #[.int .i64 (if f=true then 7 else a),.string S,.int .i64 (aP y p),.int .i64 (bm y p)]:=rfl
structure rR(w w':World)(b v tt sp z:Nat)(fs:Fs)(more:List Value)(bg:List Bool)(d:Db)(H:Nat->Hd)(n s:ByteArray):Prop where
 D:aR w' b 200 (dM v bg) [] d H
 TB:bi w' v tt fs more
 SC:bV w' sp n s z
 F:w'.heap[w.heap.size+1]?=some (.cells bA 87 (0,0))
 M:fJ b sp w H w' H
theorem rR.Va(S:rR x M n g y9 y7 yt yr y1 ys d o yd yf)(k:ab [] M zb):rR x zb n g y9 y7 yt yr y1 ys d o yd yf :=
 ⟨S.D.Va k,S.TB.kept k (by simp),S.SC.kept k (by simp),k.get S.F (by simp),S.M.Va k⟩
theorem rR.next{a:Nat}(S:rR x M n g y9 y7 yt yr y1 ys d o yd yf)(k:ab [y7] M zb)(b:bV zb y7 yd yf a)(i:y7≠n)(c:g≠y7)(h:¬f9 o y7)(l:y7<x.heap.size):rR x zb n g y9 y7 a yr y1 ys d o yd yf :=
 ⟨S.D.kept k (by simpa using fun e=>i e.symm) (by intro j f;simp;rintro rfl;exact h f),S.TB.kept k (by simpa using c),b,k.get S.F (by simp;omega),S.M.scan k⟩
theorem Cb(bf:f.length=4)(d:Db)(v:Nat->Hd)(n s:ByteArray)(t c:Int)(b:World)(h:aR b L 200 (dM k f) [] d v)(hn:aE w T=n)(bT:ak w T=s)(hs:s.size<=1024)(hz:l<=s.size)(ap:bV b D n s l)(ht:bi b k N w I)(V:D≠L)(aT:k≠D)(ar:¬f9 v D)(RF:Hid (∀(j:Nat) (w':World),j<w.length->aR w' L 200 (dM k f) [] d v->bi w' k N w I->jD L k w H j f d v w')) :
  Calls prog 205 #[.pointer (some ⟨L,0,none⟩),.pointer (some ⟨D,0,none⟩),.agg #[.string n,.int .i64 t,.int .i64 c]] b fun e w' =>
   e=.returned (gU (mW (cn w H) w T l ⟨n,t,c⟩ f d).1.1)/\∃H',aR w' L 200 (dM k (mW (cn w H) w T l ⟨n,t,c⟩ f d).1.2.1) [] (mW (cn w H) w T l ⟨n,t,c⟩ f d).1.2.2 H'/\fJ L D b v w' H' /\
    (((mW (cn w H) w T l ⟨n,t,c⟩ f d).1.1.1==0)=true->bV w' D n s (mW (cn w H) w T l ⟨n,t,c⟩ f d).2):=by
 obtain⟨W,hW⟩:∃W,W=((b.alloc (.cells #[.string n,.int .i64 t,.int .i64 c] 36)).alloc (.cells #[.int .i64 0,.string ⟨#[]⟩,.int .i64 0,.int .i64 0] 87)):=⟨_,rfl⟩
 have hK:ab [] b W:=by rw[hW];exact((ab.refl [] b).alloc _).alloc _
 have cc:=h.lt;have ai:=ae ap;have cb:=ht.lt;have bd:aR W L 200 (dM k f) [] d v:=h.Va hK;have SC:bV W D n s l:=ap.kept hK (by simp);have TB:bi W k N w I:=ht.kept hK (by simp)
 have hP:W.heap[b.heap.size]?=some (.cells #[.string n,.int .i64 t,.int .i64 c] 36 (0,0)):=by
  rw[hW];exact((ab.refl [] _).alloc _).get (QR _ _) (by simp)
 have hF:W.heap[b.heap.size+1]?=some (.cells bA 87 (0,0)):=by
  rw[hW];have:=QR (b.alloc (.cells #[.string n,.int .i64 t,.int .i64 c] 36)) (.cells #[.int .i64 0,.string ⟨#[]⟩,.int .i64 0,.int .i64 0] 87);simpa [bA] using this
 have x:Hid (∀bw,b.heap.size<=bw->¬f9 v bw):=fun bw hk hm=>by have:=h.inlt hm;omega
 have HW:=hI hW.symm;have b6:=ae hF;have MK:Hid (fJ L D b v W v):=(fJ.refl L D b v).Va hK;clear hW h ap ht;have G:Hid (mW (cn w H) w T l ⟨n,t,c⟩ f d=match ru w T l ⟨n,t,c⟩ d with | .inl q=>((q,f,d),l) | .inr (j,z')=>(cn w H j f d,z')):=rfl;have z:Hid (ru w T l ⟨n,t,c⟩ d=_):=(show ru w T l ⟨n,t,c⟩ d=_ from by unfold ru;rw[hn,bT])
 cases ho:ko d
 ·have ax:=fG s l hz
  have bs:=rE s l hs;have be:=fG s (ay s l).2 ax.2.1;have bc:=pH (ay s l).1.text w;generalize hr1:ay s l=r1 at *;obtain⟨⟨Y,u1,f1,B⟩,z1⟩:=r1;simp only at ax bs be bc z;have bv:=rE s z1 hs;generalize hr2:ay s z1=r2 at *;obtain⟨⟨t2,u2,f2,P⟩,z2⟩:=r2;simp only at be bv z;rw[ho]at z;have S0:rR b W L k N D l w I f d v n s:=⟨bd,TB,SC,hF,MK.out⟩;go_enter func205,ntmps205
  go_upto_region 1 with fail
  rw[HW.out];go_wp2_with fail;refine(sV L 200 5 (dM k f) [] d v _ bd (jl k f bf)).mono ?_;rintro e w1 ⟨rfl,u⟩;subst u;rw[ho];go_wp2_with fail;refine(sU D l n s _ hs hz SC).mono ?_;rintro e w2 ⟨rfl,ac,ba⟩;rw[hr1]at ac ⊢;simp only[fg]at ac ⊢;have S2:=S0.next ba ac V aT ar ai;obtain⟨W3,ag⟩:∃W3,W3=w2.alloc (.cells #[.string Y,.int .i64 u1,.bool f1,.string n,.int .i64 (aP s B),.int .i64 (bm s B)] 255):=⟨_,rfl⟩
  have a7:=hI ag.symm;have S3:rR b W3 L k N D z1 w I f d v n s:=by rw[ag];exact S2.Va ((ab.refl [] _).alloc _)
  have I3:jx W3 w2.heap.size n s ⟨Y,u1,f1,B⟩:=by rw[ag];exact QR _ _
  clear ag S0 S2 ac ba bd TB SC hP hF hK HW hr1
  go_upto_region 4 with fail
  rw[a7.out];clear a7;obtain⟨m,o,p,i,a4,a5⟩:=I3.cells;go_wp2_with fail;refine(cK Y n u1 (aP s B) (bm s B) f1 _).mono ?_;rintro e w4 ⟨rfl,an⟩;have E:=S3.Va an;have I4:=I3.kept an (by simp);clear m o p i a4 a5 S3 I3 an;obtain⟨m,o,p,i,a4,a5⟩:=I4.cells;have cf:=ae I4;have b4:=ae E.F
  cases u:(u1==0 && !f1)
  ·have g:Hid (mW (cn w H) w T l ⟨n,t,c⟩ f d=((iK n s ⟨Y,u1,f1,B⟩,f,d),l)):=by
    show _=_;rw[G.out,z.out];simp[aI,u]
   clear G z;go_wp2_with fail;refine(m9 Y n u1 (aP s B) (bm s B) f1 _).mono ?_;rintro e w5 ⟨rfl,b2⟩;obtain⟨q,hq⟩:∃q:Int,Hid ((if f1=true then(7:Int) else u1)=q):=⟨_,rfl⟩
   rw[hq.out];have U:=E.Va b2;obtain⟨Q,K,J,O⟩:=b8 U.F;have y:=am U.F;have a:=hI (fun m o p i=>kg U.D U.M (F:=b.heap.size+1) (by omega) (by omega) (x.out _ (by omega)) m o p i);clear m o p i a4 a5;go_wp2
   exact QX (v:=.agg #[.int .i64 q,.string n,.int .i64 (aP s B),.int .i64 (bm s B)]) (by simp[results,results205,go_sem,Q,K,J,O]) rfl
    ⟨by rw[g.out,qP,hq.out],v,by rw[g.out];exact(a.out _ _ _ _).1,(a.out _ _ _ _).2,by
     rw[g.out];intro A
     exfalso
     simp only[iK]at A
     cases f1
     ·simp at u A;exact u A
     ·simp at A⟩
  ·have bp:u1=0:=by simp at u;exact u.1
   have bx:f1=false:=by simp at u;exact u.2
   subst bp bx
   cases X:dA Y
   ·have b0:w4.cell? ⟨L,0,none⟩=some (.pointer (some ⟨k,0,none⟩)):=E.D.preCell 0 (by simp[dM])
    rcases bc with al | ⟨j,hj,ad⟩
    ·have g:Hid (mW (cn w H) w T l ⟨n,t,c⟩ f d=(((6,kJ n s B),f,d),l)):=by
      show _=_;rw[G.out,z.out];simp[aI,X,al]
     clear G z
     go_upto_region 8 with (go_at_call 231;refine(dV Y _ (by omega)).mono ?_;rintro e w5 ⟨rfl,rfl⟩)
     go_quiet ((go_at_call 50;exact Rc (lM k N w I Y _ (E.Va ((ab.refl [] _).drewN _)).TB)))
     have U:=E.Va ((ab.refl [] _).drewN nq);rw[al];obtain⟨Q,K,J,O⟩:=b8 E.F;have y:=am E.F;have a:=hI (fun m o p i=>kg U.D U.M (F:=b.heap.size+1) (by omega) (by omega) (x.out _ (by omega)) m o p i);go_wp2
     exact QX (v:=.agg #[.int .i64 6,.string n,.int .i64 (aP s B),.int .i64 (bm s B)]) (by simp[results,results205,go_sem,Q,K,J,O]) rfl
      ⟨by rw[g.out];rfl,v,by rw[g.out];exact(a.out _ _ _ _).1,(a.out _ _ _ _).2,by rw[g.out];intro A;cases A⟩
    ·go_upto_region 8 with (go_at_call 231;refine(dV Y _ (by omega)).mono ?_;rintro e w5 ⟨rfl,rfl⟩)
     go_quiet ((go_at_call 50;exact Rc (lM k N w I Y _ (E.Va ((ab.refl [] _).drewN _)).TB)))
     rw[ad];have U:=E.Va ((ab.refl [] _).drewN nq);go_wp2_with fail;refine(sU D z1 n s _ hs ax.2.1 U.SC).mono ?_;rintro e w6 ⟨rfl,Z,a6⟩;rw[hr2]at Z ⊢;simp only[fg]at Z ⊢;have S6:=U.next a6 Z V aT ar ai;obtain⟨W7,af⟩:∃W7,W7=w6.alloc (.cells #[.string t2,.int .i64 u2,.bool f2,.string n,.int .i64 (aP s P),.int .i64 (bm s P)] 255):=⟨_,rfl⟩
     have bk:=hI af.symm;have S7:rR b W7 L k N D z2 w I f d v n s:=by rw[af];exact S6.Va ((ab.refl [] _).alloc _)
     have I7:jx W7 w6.heap.size n s ⟨t2,u2,f2,P⟩:=by rw[af];exact QR _ _
     clear af E U S6 Z a6 I4 m o p i a4 a5 b0
     go_upto_region 12 with fail
     rw[bk.out];clear bk;obtain⟨m,o,p,i,a4,a5⟩:=I7.cells;go_wp2_with fail;refine(cK t2 n u2 (aP s P) (bm s P) f2 _).mono ?_;rintro e w8 ⟨rfl,ao⟩;have S:=S7.Va ao;have I8:=I7.kept ao (by simp);clear m o p i a4 a5 S7 I7 ao;obtain⟨m,o,p,i,a4,a5⟩:=I8.cells;have b5:=ae I8;have bl:=ae S.F;have az:¬((j:Int)<0):=by omega
     cases C:(u2==0 && !f2)
     ·have g:Hid (mW (cn w H) w T l ⟨n,t,c⟩ f d=((iK n s ⟨t2,u2,f2,P⟩,f,d),l)):=by
       show _=_;rw[G.out,z.out,ad];simp[aI,X,C,az]
      clear G z;go_wp2_with fail;refine(m9 t2 n u2 (aP s P) (bm s P) f2 _).mono ?_;rintro e w9 ⟨rfl,bz⟩;obtain⟨q,hq⟩:∃q:Int,Hid ((if f2=true then(7:Int) else u2)=q):=⟨_,rfl⟩
      rw[hq.out];have S9:=S.Va bz;obtain⟨Q,K,J,O⟩:=b8 S9.F;have y:=am S9.F;have a:=hI (fun m o p i=>kg S9.D S9.M (F:=b.heap.size+1) (by omega) (by omega) (x.out _ (by omega)) m o p i);clear m o p i a4 a5;go_wp2
      exact QX (v:=.agg #[.int .i64 q,.string n,.int .i64 (aP s P),.int .i64 (bm s P)]) (by simp[results,results205,go_sem,Q,K,J,O]) rfl
       ⟨by rw[g.out,qP,hq.out],v,by rw[g.out];exact(a.out _ _ _ _).1,(a.out _ _ _ _).2,by
        rw[g.out];intro A
        exfalso
        simp only[iK]at A
        cases f2
        ·simp at C A;exact C A
        ·simp at A⟩
     ·have b3:u2=0:=by simp at C;exact C.1
      have br:f2=false:=by simp at C;exact C.2
      subst b3 br
      cases bj:(t2.toList == [36,93])
      ·have g:Hid (mW (cn w H) w T l ⟨n,t,c⟩ f d=(((5,kJ n s P),f,d),l)):=by
        show _=_;rw[G.out,z.out,ad];simp[aI,X,bj,az]
       clear G z;obtain⟨Q,K,J,O⟩:=b8 S.F;have y:=am S.F;have a:=hI (fun m o p i=>kg S.D S.M (F:=b.heap.size+1) (by omega) (by omega) (x.out _ (by omega)) m o p i);go_wp2
       exact QX (v:=.agg #[.int .i64 5,.string n,.int .i64 (aP s P),.int .i64 (bm s P)]) (by simp[results,results205,go_sem,Q,K,J,O]) rfl
        ⟨by rw[g.out];rfl,v,by rw[g.out];exact(a.out _ _ _ _).1,(a.out _ _ _ _).2,by rw[g.out];intro A;cases A⟩
      ·have g:Hid (mW (cn w H) w T l ⟨n,t,c⟩ f d=(cn w H j f d,z2)):=by
        show _=_;rw[G.out,z.out,ad];simp[aI,X,bj,az]
       clear G z;have RJ:=RF.out j w8 hj S.D S.TB;unfold jD at RJ;have aS:=hI RJ;clear RJ RF;generalize cn w H j f d=R at *;obtain⟨⟨r,pf,pl,pc⟩,ca,d'⟩:=R;simp only[gU]at aS;go_wp2_with fail;refine QT aS.out ?_;rintro e w9 ⟨rfl,H9,D9,T9⟩;have F9:=T9.1.get S.F (by rintro (e | e);omega;exact x.out _ (by omega) e);have bo:bV w9 D n s z2:=T9.1.get S.SC (by rintro (e | e);exact V e;exact ar e);obtain⟨Q,K,J,O⟩:=b8 F9;have y:=am F9;have a:=hI (fun m o p i=>kg D9 (S.M.trans (T9.Vf D)) (F:=b.heap.size+1) (by omega) (by omega) (T9.fresh _ bl (x.out _ (by omega))) m o p i);have b1:=hI (fun m o p i=>bo.kept (ji (r:=b.heap.size+1) m o p i) (by simp;omega));clear m o p i a4 a5;go_wp2
       exact QX (v:=.agg #[.int .i64 r,.string pf,.int .i64 pl,.int .i64 pc]) (by simp[results,results205,go_sem,Q,K,J,O]) rfl
        ⟨by rw[g.out];rfl,H9,by rw[g.out];exact(a.out _ _ _ _).1,(a.out _ _ _ _).2,by rw[g.out];exact fun _=>b1.out _ _ _ _⟩
   ·have g:Hid (mW (cn w H) w T l ⟨n,t,c⟩ f d=(((5,kJ n s B),f,d),l)):=by
     show _=_;rw[G.out,z.out];simp[aI,X]
    clear G z;obtain⟨Q,K,J,O⟩:=b8 E.F;have y:=am E.F;have a:=hI (fun m o p i=>kg E.D E.M (F:=b.heap.size+1) (by omega) (by omega) (x.out _ (by omega)) m o p i);go_wp2_with (go_at_call 231;refine(dV Y _ (by omega)).mono ?_;rintro e w5 ⟨rfl,rfl⟩)
    exact QX (v:=.agg #[.int .i64 5,.string n,.int .i64 (aP s B),.int .i64 (bm s B)]) (by simp[results,results205,go_sem,Q,K,J,O]) rfl
     ⟨by rw[g.out];rfl,v,by rw[g.out];exact(a.out _ _ _ _).1,(a.out _ _ _ _).2,by rw[g.out];intro A;cases A⟩
 ·have g:Hid (mW (cn w H) w T l ⟨n,t,c⟩ f d=(((4,⟨n,t,c⟩),f,d),l)):=by
   show _=_;rw[G.out,z.out,ho];simp
  clear G z;have i0:W.cell? ⟨b.heap.size,0,none⟩=some (.string n):=by rw[aa hP];rfl
  have i1:W.cell? ⟨b.heap.size,1,none⟩=some (.int .i64 t):=by rw[aa hP];rfl
  have i2:W.cell? ⟨b.heap.size,2,none⟩=some (.int .i64 c):=by rw[aa hP];rfl
  obtain⟨Q,K,J,O⟩:=b8 hF;have y:=am hF;have a:=hI (fun m o p i=>kg bd MK.out (F:=b.heap.size+1) (by omega) (by omega) (x.out _ (by omega)) m o p i);go_enter func205,ntmps205
  go_upto_region 1 with fail
  rw[HW.out];go_wp2_with fail;refine(sV L 200 5 (dM k f) [] d v _ bd (jl k f bf)).mono ?_;rintro e w1 ⟨rfl,u⟩;subst u;rw[ho];go_wp2
  exact QX (v:=.agg #[.int .i64 4,.string n,.int .i64 t,.int .i64 c]) (by simp[results,results205,go_sem,Q,K,J,O]) rfl
   ⟨by rw[g.out];rfl,v,by rw[g.out];exact(a.out _ _ _ _).1,(a.out _ _ _ _).2,by rw[g.out];intro A;cases A⟩
theorem Au(x:f.length=4)(d:Db)(m:Nat->Hd)(n s t:ByteArray)(a c:Int)(b:World)(h:aR b L 200 (dM k f) [] d m)(hn:aE w T=n)(ac:ak w T=s)(hs:s.size<=1024)(hz:l<=s.size)(o:bV b D n s l)(ht:bi b k N w I)(i:D≠L)(X:k≠D)(u:¬f9 m D)(Q:fK d 10000000)(Z:t.size<=1073741824)(Y:AV d 100000000)(RF:Hid (∀(j:Nat) (g:World),j<w.length->aR g L 200 (dM k f) [] d m->bi g k N w I->jD L k w H j f d m g)) :
  Calls prog 157 #[.pointer (some ⟨L,0,none⟩),.pointer (some ⟨D,0,none⟩),.agg #[.string t,.int .i64 0,.bool false,.string n,.int .i64 a,.int .i64 c]] b fun e g =>
   e=.returned (gU (jN (cn w H) w T l t ⟨n,a,c⟩ f d).1.1)/\∃E,aR g L 200 (dM k (jN (cn w H) w T l t ⟨n,a,c⟩ f d).1.2.1) [] (jN (cn w H) w T l t ⟨n,a,c⟩ f d).1.2.2 E/\fJ L D b m g E /\
    (((jN (cn w H) w T l t ⟨n,a,c⟩ f d).1.1.1==0)=true->bV g D n s (jN (cn w H) w T l t ⟨n,a,c⟩ f d).2):=by
 cases M:(t.toList == [36,91])
 ·have C:jN (cn w H) w T l t ⟨n,a,c⟩ f d=((if((aX d t ⟨n,a,c⟩).1==0)=true then cY else((aX d t ⟨n,a,c⟩).1,⟨n,a,c⟩),f,(aX d t ⟨n,a,c⟩).2),l):=by
   unfold jN;rw[M];simp
  rw[C];refine(ud L 200 k f x d m _ t n a c b h Q Z Y M).mono ?_;rintro e g ⟨rfl,E,D',T'⟩;exact⟨rfl,E,D',T'.Vf D,fun _=>T'.1.get o (by rintro (e | e);exact i e;exact u e)⟩
 ·have C:jN (cn w H) w T l t ⟨n,a,c⟩ f d=mW (cn w H) w T l ⟨n,a,c⟩ f d:=by
   unfold jN;rw[M];simp
  rw[C];obtain⟨W,p⟩:∃W,W=((b.alloc (.cells #[.string t,.int .i64 0,.bool false,.string n,.int .i64 a,.int .i64 c] 255)).alloc (.cells #[.int .i64 0,.string ⟨#[]⟩,.int .i64 0,.int .i64 0] 87)):=⟨_,rfl⟩
  have G:ab [] b W:=by rw[p];exact((ab.refl [] b).alloc _).alloc _
  have ag:=h.lt;have ad:=ae o
  have hI:W.heap[b.heap.size]?=some (.cells #[.string t,.int .i64 0,.bool false,.string n,.int .i64 a,.int .i64 c] 255 (0,0)):=by
   rw[p];exact((ab.refl [] _).alloc _).get (QR _ _) (by simp)
  have hF:W.heap[b.heap.size+1]?=some (.cells bA 87 (0,0)):=by
   rw[p];have:=QR (b.alloc (.cells #[.string t,.int .i64 0,.bool false,.string n,.int .i64 a,.int .i64 c] 255)) (.cells #[.int .i64 0,.string ⟨#[]⟩,.int .i64 0,.int .i64 0] 87);simpa [bA] using this
  have i0:W.cell? ⟨b.heap.size,0,none⟩=some (.string t):=by rw[aa hI];rfl
  have i3:W.cell? ⟨b.heap.size,3,none⟩=some (.string n):=by rw[aa hI];rfl
  have i4:W.cell? ⟨b.heap.size,4,none⟩=some (.int .i64 a):=by rw[aa hI];rfl
  have i5:W.cell? ⟨b.heap.size,5,none⟩=some (.int .i64 c):=by rw[aa hI];rfl
  have IC:=Cb L k N D H T l w I f x d m n s a c W (h.Va G) hn ac hs hz (o.kept G (by simp)) (ht.kept G (by simp)) i X u RF;have q:=hI IC;have B:Hid (∀P,b.heap.size<=P->¬f9 m P):=fun P hk hm=>by have:=h.inlt hm;omega
  have HW:=hI p.symm;have V:=ae hF;clear p IC RF C h;generalize mW (cn w H) w T l ⟨n,a,c⟩ f d=R at *;obtain⟨⟨⟨r,pf,pl,pc⟩,af,d'⟩,z'⟩:=R;simp only[gU]at q ⊢;go_enter func157,ntmps157
  go_upto_region 1 with fail
  rw[HW.out];go_wp2_with fail;refine QT q.out ?_;rintro e w2 ⟨rfl,H2,D2,O,z⟩;have A:=O.1.get hF (by rintro (e | e | e);omega;omega;exact B.out _ (by omega) e);obtain⟨j0,j1,j2,j3⟩:=b8 A;have y:=am A;have v:=hI (fun a0 S U a3=>kg D2 (O.first G) (F:=b.heap.size+1) (by omega) (by omega) (O.fresh _ V (B.out _ (by omega))) a0 S U a3);have K:=hI (fun a0 S U a3 J=>(z J).kept (ji (r:=b.heap.size+1) a0 S U a3) (by simp;omega));clear z i0 i3 i4 i5;go_wp2
  exact QX (v:=.agg #[.int .i64 r,.string pf,.int .i64 pl,.int .i64 pc]) (by simp[results,results157,go_sem,j0,j1,j2,j3]) rfl
   ⟨rfl,H2,(v.out _ _ _ _).1,(v.out _ _ _ _).2,fun J=>K.out _ _ _ _ J⟩
theorem Ct :
  Calls prog 153 #[.agg #[.string y,.string z5]] y0 fun e a=>∃s,e=.returned (.pointer (some ⟨s,0,none⟩))/\y0.heap.size<=s/\bV a s y z5 0/\ab [] y0 a:=by
 go_enter func153,ntmps153;go_wp2;go_ret;refine⟨y0.heap.size+1,rfl,by omega,?_,((ab.refl _ _).alloc _).alloc _⟩;have:=QR (y0.alloc (.cells #[.string y,.string z5] 68)) (.cells #[.string y,.string z5,.int .i64 0,.int .i64 1,.int .i64 1] 300);simpa [bV,mv,aP,bm] using this
theorem aA.beyond(T:aA n x o M z4)(k:ab ya M zb)(d:∀a,a∈ya->x.heap.size<=a):aA n x o zb z4 :=
 ⟨⟨k.os.trans T.1.os,k.tape.trans T.1.tape,k.output.trans T.1.output,Q1 T.1.size k.size,fun i b e=>by
  rw[<-T.1.block i b e];exact k.block i (QW b T.1.size) (fun c=>by have:=d i c;omega)⟩,T.2⟩
theorem aA.word(T:aA n x o M z4)(a:fJ n g M z4 zb yg)(f:x.heap.size<=g):aA n x o zb yg:=by
 refine⟨⟨a.1.os.trans T.1.os,a.1.tape.trans T.1.tape,a.1.output.trans T.1.output,Q1 T.1.size a.1.size,?_⟩,?_⟩
 ·intro k b c
  rw[<-T.1.block k b c];refine a.1.block k (QW b T.1.size) ?_;rintro (e | e | d)
  ·exact c (Q0 e)
  ·omega
  ·rcases T.2 k d with h | h
   ·exact c (QU h)
   ·omega
 ·intro k b
  rcases a.2 k b with h | h
  ·exact T.2 k h
  ·exact QU (Q1 T.1.size h)
theorem Jh:(dM l f).set (1+v) (.bool true)=dM l (f.set v true):=by
 unfold dM;rw[Nat.add_comm 1 v,SA,Tm]
theorem CI(h:f.length=4)(a:v<4):(dM l f)[1+v]?=some (.bool (f.getD v true)):=by
 unfold dM;rw[Nat.add_comm 1 v,SD,Rp,QP];rw[QO (by omega)];rfl
theorem wR(a:f.length=4)(d:Db)(b:Nat->Hd)(c:World)(i:l<4)(h:aR c D 200 (dM H f) [] d b)(e:f.getD l true=true):jD D H w T l f d b c:=by
 unfold jD cn;rw[QV e];have k:=h.lt;have j:=h.preCell (1+l) (by rw[jl H f a];omega);rw[CI H f l a i,e]at j;have m:Hid (¬f9 b c.heap.size):=fun g=>by have:=h.inlt g;omega
 go_enter func111,ntmps111;go_wp2
 exact QX (v:=.agg #[.int .i64 0,.string ⟨#[]⟩,.int .i64 0,.int .i64 0]) (by simp[results,results111,go_sem]) rfl
  ⟨rfl,b,h.Va ((ab.refl [] _).alloc _),(aA.refl _ _ _).Va ((ab.refl [] _).alloc _)⟩
theorem xN(cc:∀j,j<w.length->(ak w j).size<=1024)(bz:H≠D)(IH:∀g,g<l->∀(j:Nat) (E:List Bool) (d:Db) (G:Nat->Hd) (c:World) (m:Nat),j<w.length->E.length=4->nD d m->m+dP w E<=9000000->dP w E<=g->aR c D 200 (dM H E) [] d G->bi c H T w I->¬f9 G H->jD D H w g j E d G c)(j:Nat)(E:List Bool)(d:Db)(G:Nat->Hd)(c:World)(m:Nat)(hj:j<w.length)(ap:E.length=4)(hB:nD d m)(hm:m+dP w E<=9000000)(hf:dP w E<=l)(h:aR c D 200 (dM H E) [] d G)(ht:bi c H T w I)(br:¬f9 G H)(hb:E.getD j true=false):jD D H w l j E d G c:=by
 unfold jD cn;rw[QS (by rw[hb];simp)];have cF:=ht.2;have hs:=cc j hj;have bl:=wF w E j ap hb;obtain⟨n,hn⟩:∃n,aE w j=n:=⟨_,rfl⟩
 obtain⟨s,ad⟩:∃s,ak w j=s:=⟨_,rfl⟩
 rw[ad]at hs bl;have cS:=h.lt;have b5:=h.free;have cL:=ht.lt;have c1:=h.preCell (1+j) (by rw[jl H E ap];omega);rw[CI H E j ap (by omega),hb]at c1;have c0:=h.preCell 0 (by simp[dM]);have b4:c.cell? ⟨D,0,none⟩=some (.pointer (some ⟨H,0,none⟩)):=c0;clear c0;have P1:=h.pre (1+j) (by rw[jl H E ap];omega) (.bool true);rw[Jh]at P1;obtain⟨f,ao⟩:∃f,E.set j true=f:=⟨_,rfl⟩
 have cs:f.length=4:=by rw[<-ao];simpa using ap
 rw[ao]at P1 bl ⊢;clear ao;obtain⟨W,hW⟩:∃W,W=(c.setCell ⟨D,1+j,none⟩ (.bool true)).alloc (.cells #[.int .i64 0,.string ⟨#[]⟩,.int .i64 0,.int .i64 0] 87):=⟨_,rfl⟩
 have D1:aR W D 200 (dM H f) [] d G:=by rw[hW];exact P1.1.Va ((ab.refl [] _).alloc _)
 have T1:aA D c G W G:=by rw[hW];exact P1.2.Va ((ab.refl [] _).alloc _)
 have F1:W.heap[c.heap.size]?=some (.cells bA 87 (0,0)):=by
  rw[hW];have:=QR (c.setCell ⟨D,1+j,none⟩ (.bool true)) (.cells bA 87);simpa [World.setCell,bA] using this
 have be:bi W H T w I:=⟨T1.1.get ht.1 (by rintro (e | e);exact bz e;exact br e),ht.2⟩;have aS:Hid (∀k,c.heap.size<=k->¬f9 G k):=fun k hk hm=>by have:=h.inlt hm;omega
 have HW:=hI hW.symm;have cx:=hI IH;clear P1 hW IH;go_enter func111,ntmps111;go_wp2_with fail;rw[HW.out];clear HW c1 b4 b5 ht h;refine(Ld H T j w I _ be hj).mono ?_;rintro e w2 ⟨rfl,Z⟩;rw[hn,ad];go_wp2_with fail;refine(Ct n s _).mono ?_;rintro e w3 ⟨sp,rfl,c4,h3,ac⟩;go_wp2_with fail;refine(sU sp 0 n s _ hs (by omega) h3).mono ?_;rintro e w4 ⟨rfl,h4,S⟩;have c5:=ae F1;have c7:=Z.size;have cX:=ac.size;have cP:=S.size;have cA:c.heap.size<sp:=by omega
 have bw:sp≠D:=by omega
 have bk:H≠sp:=by omega
 have T4:aA D c G w4 G:=(((T1.Va Z).Va ac).beyond S (by simp;omega));have F4:w4.heap[c.heap.size]?=some (.cells bA 87 (0,0)):=S.get (ac.get (Z.get F1 (by simp)) (by simp)) (by simp;omega);have D4:aR w4 D 200 (dM H f) [] d G:=((D1.Va Z).Va ac).kept S (by simp;omega) (by intro k hk;simp;rintro rfl;exact aS.out _ (by omega) hk);have bT:bi w4 H T w I:=((be.kept Z (by simp)).kept ac (by simp)).kept S (by simp;omega);have cz:=ae h4;clear D1 T1 F1 be Z ac S h3;simp only[fg];go_wp2
 go_loopg [7] s.size (fun gk _ wr=>∃(k g m1:Nat) (b:List Bool) (v:Db) (K:Nat->Hd),k<=s.size/\gk=s.size-k/\b.length=4/\nD v m1/\m1+(s.size-k)+dP w b<=9000000/\(s.size-k)+dP w b+1<=g/\g<=l /\
  Hid (bq w l j 0 f d=bq w g j k b v)/\bV wr sp n s (ay s k).2/\jx wr w4.heap.size n s (ay s k).1 /\
  wr.heap[c.heap.size]?=some (.cells bA 87 (0,0))/\aR wr D 200 (dM H b) [] v K/\bi wr H T w I/\aA D c G wr K/\(¬f9 K sp/\¬f9 K w4.heap.size/\¬f9 K c.heap.size/\¬f9 K H))
 case atStart=>exact⟨0,l,m,f,d,G,by omega,by omega,cs,hB,by omega,by omega,QQ _,rfl,h4.kept ((ab.refl [] _).alloc _) (by simp),QR _ _,((ab.refl [] _).alloc _).get F4 (by simp),D4.Va ((ab.refl [] _).alloc _),bT.kept ((ab.refl [] _).alloc _) (by simp),T4.Va ((ab.refl [] _).alloc _),aS.out _ (by omega),aS.out _ (by omega),aS.out _ (by omega),br⟩
 case round =>
  obtain⟨k,g,m1,b,v,K,hk,hg,ax,aT,cR,cH,cT,hR,h5,hI,hF,an,TB,az,bv,bx,M,a7⟩:=hrel;obtain⟨L,rfl⟩:∃L,g=L+1:=⟨g-1,by omega⟩
  clear D4 T4 F4 bT h4;have bp:=fG s k hk;have cy:=rE s k hs;have SK:=C3 w L (Lj w L).2 j k b v m1 (by rw[ad];exact hk) ax aT;have L1:=yB w L j k b v;have L2:=ov w L j k b v;have L3:=zU w L j k b v;have L4:=wj w L j k b v;have ST:fZ w L j k b v=jN (cn w L) w j (ay s k).2 (ay s k).1.text (kJ n s (ay s k).1.pos) b v:=by unfold fZ;rw[hn,ad]
  rw[ad]at SK L1 L2 L3 L4;rw[hn]at L4;rw[ST]at SK L1 L2;have L6:aI (ay s k).1=false->(ay s k).1.fin=false->((ay s k).1.rule==0)=false:=kl;have V:=hI SK;have af:=hI L1;have ag:=hI L2;have Y:=hI L3;have J:=hI L4;have ai:=hI L6;clear SK L1 L2 L3 L4 L6 ST;generalize hrr:ay s k=r at *;obtain⟨⟨t,u,fi,p⟩,z⟩:=r;clear hrr;simp only at h5 hI bp cy V af ag Y J ai;obtain⟨U,P,O,q3,q4,R⟩:=hI.cells;have cV:=ae hF;have c2:=ae h5;have c6:=ae hI;have c3:=an.lt
  cases hw:(u==0 && !fi)
  ·cases fi
   ·have HF:Hid (bq w l j 0 f d=(iK n s ⟨t,u,false,p⟩,b,v)):=hR.out.trans (J.out hw (by simp))
    have hu:(u==0)=false:=by simpa using hw
    clear af ag Y J ai V;go_wp2_with fail;refine(cK t n _ (aP s p) (bm s p) _ _).mono ?_;rintro e w5 ⟨rfl,a⟩;have o:=hI.kept a (by simp);have i:=a.get hF (by simp);have D5:=an.Va a;have T5:=az.Va a;clear U P O q3 q4 R hI h5 hF an az a TB;obtain⟨U,P,O,q3,q4,R⟩:=o.cells;go_wp2_with fail;refine(m9 t n u (aP s p) (bm s p) _ _).mono ?_;rintro e w6 ⟨rfl,bc⟩;simp only[Rs,Sq];have x:=bc.get i (by simp);have D6:=D5.Va bc;have T6:=T5.Va bc;have q:=hI (fun a0 a1 a2 a3=>nM D6 T6 (F:=c.heap.size) (QQ _) (by omega) M a0 a1 a2 a3);obtain⟨z0,z1,z2,z3⟩:=b8 x;have y:=am x;go_wp2
    exact QX (v:=.agg #[.int .i64 u,.string n,.int .i64 (aP s p),.int .i64 (bm s p)]) (by simp[results,results111,go_sem,z0,z1,z2,z3]) rfl
     ⟨by rw[HF.out];rfl,K,by rw[HF.out];exact(q.out _ _ _ _).1,(q.out _ _ _ _).2⟩
   ·cases ho:ko v
    ·have HF:Hid (bq w l j 0 f d=(cY,b,v)):=hR.out.trans (Y.out hw rfl ho)
     clear af ag Y J ai V;go_wp2_with fail;refine(cK t n _ (aP s p) (bm s p) _ _).mono ?_;rintro e w5 ⟨rfl,a⟩;have o:=hI.kept a (by simp);have i:=a.get hF (by simp);have D5:=an.Va a;have T5:=az.Va a;clear U P O q3 q4 R hI h5 hF an az a TB;obtain⟨U,P,O,q3,q4,R⟩:=o.cells;go_wp2_with fail;refine(sV D 200 5 (dM H b) [] v K _ D5 (jl H b ax)).mono ?_;rintro e w6 ⟨rfl,bd⟩;subst bd;rw[ho];have q:=hI (fun a0 a1 a2 a3=>nM D5 T5 (F:=c.heap.size) (QQ _) (by omega) M a0 a1 a2 a3);obtain⟨z0,z1,z2,z3⟩:=b8 i;have y:=am i;go_wp2
     exact QX (v:=.agg #[.int .i64 0,.string ⟨#[]⟩,.int .i64 0,.int .i64 0]) (by simp[results,results111,go_sem,z0,z1,z2,z3]) rfl
      ⟨by rw[HF.out];rfl,K,by rw[HF.out];exact(q.out _ _ _ _).1,(q.out _ _ _ _).2⟩
    ·have HF:Hid (bq w l j 0 f d=(iK n s ⟨t,u,true,p⟩,b,v)):=hR.out.trans (J.out hw (by simp[ho]))
     clear af ag Y J ai V;go_wp2_with fail;refine(cK t n _ (aP s p) (bm s p) _ _).mono ?_;rintro e w5 ⟨rfl,a⟩;have o:=hI.kept a (by simp);have i:=a.get hF (by simp);have D5:=an.Va a;have T5:=az.Va a;clear U P O q3 q4 R hI h5 hF an az a TB;obtain⟨U,P,O,q3,q4,R⟩:=o.cells;go_wp2_with fail;refine(sV D 200 5 (dM H b) [] v K _ D5 (jl H b ax)).mono ?_;rintro e w6 ⟨rfl,bd⟩;subst bd;rw[ho];go_wp2_with fail;refine(m9 t n u (aP s p) (bm s p) _ _).mono ?_;rintro e w7 ⟨rfl,bj⟩;simp only[TY];have bs:=bj.get i (by simp);have D7:=D5.Va bj;have T7:=T5.Va bj;have q:=hI (fun a0 a1 a2 a3=>nM D7 T7 (F:=c.heap.size) (QQ _) (by omega) M a0 a1 a2 a3);obtain⟨z0,z1,z2,z3⟩:=b8 bs;have y:=am bs;go_wp2
     exact QX (v:=.agg #[.int .i64 7,.string n,.int .i64 (aP s p),.int .i64 (bm s p)]) (by simp[results,results111,go_sem,z0,z1,z2,z3]) rfl
      ⟨by rw[HF.out];rfl,K,by rw[HF.out];exact(q.out _ _ _ _).1,(q.out _ _ _ _).2⟩
  ·have hu:u=0:=by simp at hw;exact hw.1
   have b6:fi=false:=by simp at hw;exact hw.2
   subst hu b6;have ck:=aT.small (N:=10000000) (by omega);have b2:=(aT.small (N:=100000000) (by omega)).2
   have RW:=fun(w':World) (h':aR w' D 200 (dM H b) [] v K) (cb:bV w' sp n s z) (ca:bi w' H T w I)=>Au D H T sp L j z w I b ax v K n s t (aP s p) (bm s p) w' h' hn ad hs bp.2.1 cb ca bw bk bv ck.1 (by omega) b2
    (fun jj ww ch cu cq=>cx.out L (by omega) jj b v K ww m1 ch ax aT (by omega) (by omega) cu cq a7)
   have ba:=hI RW;have B:=hI (V.out hw);have A:=hI (af.out hw);have C:=hI (ag.out hw);clear RW af ag Y J ai V;simp only[kJ]at B A C;generalize jN (cn w L) w j z t ⟨n,aP s p,bm s p⟩ b v=Q at *;obtain⟨⟨⟨r,pf,pl,pc⟩,bf,d2⟩,z2⟩:=Q;simp only[gU]at B A C ba;have ar:=B.out.2;obtain⟨bo,cf,m2,b1,cl⟩:=B.out.1;simp only at bo cf b1 cl ar;clear B
   cases hr:(r==0)
   ·have cp:(r != 0)=true:=by simp[bne,hr]
    have HF:Hid (bq w l j 0 f d=((r,⟨pf,pl,pc⟩),bf,d2)):=hR.out.trans (C.out hr);clear A C;go_wp2_with fail;refine(cK t n _ (aP s p) (bm s p) _ _).mono ?_;rintro e w5 ⟨rfl,a⟩;have o:=hI.kept a (by simp);have a5:=h5.kept a (by simp);have i:=a.get hF (by simp);have D5:=an.Va a;have T5:=az.Va a;have X:=TB.kept a (by simp);clear U P O q3 q4 R hI h5 hF an az TB a;obtain⟨U,P,O,q3,q4,R⟩:=o.cells;go_wp2_with fail;refine(ba.out _ D5 a5 X).mono ?_;rintro e w6 ⟨rfl,H2,D6,M6,-⟩;have x:=M6.1.get i (by rintro (e | e | e);omega;omega;exact M e);have m3:=M6.fresh c.heap.size (ae i) M;have T7:=T5.word M6 (by omega);have a6:=ae x;have y6:=am x;obtain⟨z0,z1,z2,z3⟩:=b8 x;have q:=hI (fun a0 a1 a2 a3=>nM D6 T7 (F:=c.heap.size) (QQ _) (by omega) m3 a0 a1 a2 a3);clear U P O q3 q4 R;go_wp2
    exact QX (v:=.agg #[.int .i64 r,.string pf,.int .i64 pl,.int .i64 pc]) (by simp[results,results111,go_sem,a6,z0,z1,z2,z3]) rfl
     ⟨by rw[HF.out];rfl,H2,by rw[HF.out];exact(q.out _ _ _ _).1.Va ((ab.refl [] _).alloc _),((q.out _ _ _ _).2.Va ((ab.refl [] _).alloc _))⟩
   ·have cp:(r != 0)=false:=by simp[bne,hr]
    have HF:Hid (bq w l j 0 f d=bq w L j z2 bf d2):=hR.out.trans (A.out hr);clear A C;go_wp2_with fail;refine(cK t n _ (aP s p) (bm s p) _ _).mono ?_;rintro e w5 ⟨rfl,a⟩;have o:=hI.kept a (by simp);have a5:=h5.kept a (by simp);have i:=a.get hF (by simp);have D5:=an.Va a;have T5:=az.Va a;have X:=TB.kept a (by simp);clear U P O q3 q4 R hI h5 hF an az TB a;obtain⟨U,P,O,q3,q4,R⟩:=o.cells;go_wp2_with fail;refine(ba.out _ D5 a5 X).mono ?_;rintro e w6 ⟨rfl,H2,D6,M6,co⟩;have h6:=co hr;have x:=M6.1.get i (by rintro (e | e | e);omega;omega;exact M e);have b0:jx w6 w4.heap.size n s ⟨t,0,false,p⟩:=M6.1.get o (by rintro (e | e | e);omega;omega;exact bx e);have ct:bi w6 H T w I:=⟨M6.1.get X.1 (by rintro (e | e | e);exact bz e;exact bk e;exact a7 e),X.2⟩;have e1:=M6.fresh sp (ae a5) bv;have e2:=M6.fresh w4.heap.size (ae o) bx;have e3:=M6.fresh c.heap.size (ae i) M;have e4:=M6.fresh H X.lt a7;have T7:=T5.word M6 (by omega);have a6:=ae x;have cE:=ae b0;have c8:=ae h6;go_wp2_with fail;refine(sU sp z2 n s _ hs ar.2 (by exact h6.kept ((ab.refl [] _).alloc _) (by simp))).mono ?_;rintro e w8 ⟨rfl,h8,al⟩;have a4:=(b0.kept ((ab.refl [] _).alloc _) (by simp)).kept al (by simp;omega);have cj:=al.get (((ab.refl [] _).alloc _).get x (by simp)) (by simp;omega);have D8:=(D6.Va ((ab.refl [] _).alloc _)).kept al (by simp;omega) (by intro k hk;simp;rintro rfl;exact e1 hk);have b3:=(ct.kept ((ab.refl [] _).alloc _) (by simp)).kept al (by simp;omega);have T8:=(T7.Va ((ab.refl [] _).alloc _)).beyond al (by simp;omega);have yy:=am a4;have cB:=ae a4;clear U P O q3 q4 R;obtain⟨U,P,O,q3,q4,R⟩:=a4.cells;simp only[fg];go_wp2
    go_roundg (s.size-z2)
    case measure=>omega
    case rel =>
     exact⟨z2,L,m2,bf,d2,H2,ar.2,rfl,bo,b1,by omega,by omega,by omega,HF.out,gQ h8 (by omega) _ _ _ _ _ _,pI a4 _,ui cj (by omega) _ _ _ _ _ _,
      D8.kept (Fa _ _ _ _ _ _) (by simp;omega) (by intro k hk;simp;rintro rfl;exact e2 hk),b3.kept (Fa _ _ _ _ _ _) (by simp;omega),T8.beyond (Fa _ _ _ _ _ _) (by simp;omega),e1,e2,e3,e4⟩
theorem At(g:∀j,j<w.length->(ak w j).size<=1024)(i:T≠H)(f:Nat):∀(j:Nat) (a:List Bool) (d:Db) (c:Nat->Hd) (b:World) (m:Nat),j<w.length->a.length=4->nD d m->m+dP w a<=9000000->dP w a<=f->aR b H 200 (dM T a) [] d c->bi b T l w I->¬f9 c T->jD H T w f j a d c b:=by
 induction f using Nat.strongRecOn with
 | _ f IH =>
  intro j a d c b m q e s p r h o k
  cases n:a.getD j true with
  | true=>exact wR H T f j w a e d c b (by have:=o.2;omega) h n
  | false=>exact xN H T l f w I g i IH j a d c b m q e s p r h o k n
end Go.Proofs.YtpddjjabfbfifaaGreat
