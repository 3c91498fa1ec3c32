import Derived.Deep.RegionHeld3
import Derived.BigQuiet
import Derived.Test.YtpddjjabfbfifaaGreatG03
namespace Go.Proofs.YtpddjjabfbfifaaGreat
open Go.RowKit Tryz
set_option maxRecDepth 100000
set_option maxHeartbeats 40000000
variable{x I zb:World}{n N y9 y7 yt:Nat}{y1 y5:List Value}{v:Db}{i g yg:Nat->Hd}{y8:Option Nat}{ya:List Nat}{yr:Fs}{ys:List Bool}{yd yf:ByteArray}(D d M:Nat)(z6:List Value)(o:Nat)(zt:Fs)(H T l:Nat)(w:Fs)(L:List Value)(b:Db)(z5:Nat->Hd)(S y:ByteArray)(a:Int)(z4:ByteArray)(k:Int)(y0:World)(f:List Bool)(y2:Db)(yu yv yz x0:Value)(y3:List St)(z7:Nat)(y4:Pl)
theorem Ic(h:(z4.toList == [36,61])=true):dA z4=true:=by
 have:z4=⟨#[36,61]⟩:=ym (by rw[ByteArray.toList_mk [36,61]];simpa using h);rw[this];decide +kernel
theorem JF(l:List (ByteArray×Pl))(p:ByteArray×Pl):(⟨(gN l).e,(gN l).size,(gN l).n+1,(gN l).xs++qZ p⟩:dN)=gN (l++[p]):=by
 simp[gN,nD]
def im(b t o:Nat)(pre post:List Value)(d:Db)(H:Nat->Hd)(x f:ByteArray)(l c:Int)(w:World):Prop :=
 Calls prog 206 #[.pointer (some ⟨b,o,none⟩),.string x,.agg #[.string f,.int .i64 l,.int .i64 c]] w fun e w'=>e=.returned (.int .i64 (aX d x ⟨f,l,c⟩).1)/\∃H',aR w' b t pre post (aX d x ⟨f,l,c⟩).2 H'/\aA b w H w' H'
theorem boxed(h:aR x n N y1 y5 v i)(f:ByteArray)(l c:Int) :
  ∃W,Hid (x.alloc (.cells #[.string f,.int .i64 l,.int .i64 c] 36)=W)/\ab [] x W/\aR W n N y1 y5 v i/\W.cell? ⟨x.heap.size,0,none⟩=some (.string f)/\W.cell? ⟨x.heap.size,1,none⟩=some (.int .i64 l)/\W.cell? ⟨x.heap.size,2,none⟩=some (.int .i64 c):=by
 have B:(x.alloc (.cells #[.string f,.int .i64 l,.int .i64 c] 36)).heap[x.heap.size]?=some (.cells #[.string f,.int .i64 l,.int .i64 c] 36 (0,0)):=QS _ _;refine⟨_,rfl,(ab.refl [] _).alloc _,h.Vb ((ab.refl [] _).alloc _),?_,?_,?_⟩ <;> rw[aa B] <;> rfl
theorem Da(h:aR y0 D d z6 L b z5)(w:z6.length=M)(m:fK b 10000000)(P:S.size<=1073741824)(O:(b.kind==0)=false)(R:(b.kind==6)=false)(q:(S.toList == [36,46])=false)(l:(S.toList == [36,61])=false)(Q:dA S=false)(F:b.Va=false) :
  im D d M z6 L b z5 S y a k y0:=by
 unfold im;have V:=m.mono (M:=1073741824) (by omega);obtain⟨W,X,K,i,p0,p1,p2⟩:=boxed h y a k;clear h;obtain⟨q0,q1,q2,q3,q4,q5,q6,q7,q8,q9,H,r,G⟩:=i.cells M w;clear q0 q1 q2 q3 q4 q5 q6 q7 q9 G;have N:=i.free;rw[F]at r
 cases J:(aZ b S==0)
 ·have t:Hid (aX b S ⟨y,a,k⟩=(aZ b S,b)):=by show aX b S ⟨y,a,k⟩=_;simp[aX,O,R,q,l,Q,F,J]
  go_enter func206,ntmps206
  go_upto_region 1 with fail
  rw[X.out];go_wp2_with (first | (go_at_call 231;refine(dV S _ P).mono ?_;rintro e x ⟨rfl,rfl⟩) | (go_at_call 236;refine(pd D d M z6 L b z5 S _ (by exact i) w V).mono ?_;rintro e x ⟨rfl,rfl⟩));go_ret;exact⟨QN (by rw[t.out]),z5,by rw[t.out];exact i,(aA.refl _ _ _).Vb K⟩
 ·have t:Hid (aX b S ⟨y,a,k⟩=(0,{ b with U6:=b.U6++[S] })):=by show aX b S ⟨y,a,k⟩=_;simp[aX,O,R,q,l,Q,F,J]
  have B:Hid (aZ b S=0):=(show aZ b S=0 by simpa using J);have ad:=m.U6;obtain⟨Z,E,z,I,C⟩:=Re js;have A:=i.Vb ((ab.refl [] W).alloc (.cells #[.string S] 9));have f:=A.own 8;have ac:=i.lt;go_enter func206,ntmps206
  go_upto_region 1 with fail
  rw[X.out];go_wp2_with (first | (go_at_call 231;refine(dV S _ P).mono ?_;rintro e x ⟨rfl,rfl⟩) | (go_at_call 236;refine(pd D d M z6 L b z5 S _ (by exact i) w V).mono ?_;rintro e x ⟨rfl,rfl⟩) | (at_builtin;refine aM _ rfl (.tmp 74) (.tmp 76) 61 rfl Z (.string ⟨#[]⟩) 16 (z5 8) (aB b.U6) underlying61 E z I C rfl Rc rfl (by exact f) ⟨_,0,none⟩ 1 1 [.string S] rfl rfl ?c1 ?c2 Rc ?c3 ?c4 ?_))
  case c1=>intro j u v;match j,v with | 0,v=>simp at v;subst v;simp[Addr.add]
  case c2=>intro u T;simp at T;subst T;rfl
  case c3=>simp only[aB];unfold maxLen;omega
  case c4=>simp only[aB];omega
  intro g p x o s c;obtain⟨O,f0,U⟩:=A.app (d':={ b with U6:=b.U6++[S] }) M 10 w 8 (by omega) g p ((aB b.U6).n+1) _ o (dr b.U6 S) s (by simpa using c) (tq b z5 _) (by omega) _ rfl (by simp[b9,g9,aB]);clear A f q8 H r o s c N;go_wp2;go_ret;exact⟨QN (by rw[t.out,B.out]),_,by rw[t.out];exact U.out.1,U.out.2.first (K.alloc _)⟩
theorem xW(h:aR y0 D d z6 L b z5)(z:z6.length=M)(q:fK b 10000000)(Q:S.size<=1073741824)(k0:(b.kind==0)=false)(Y:(b.kind==6)=false)(v:(S.toList == [36,46])=false)(o:(S.toList == [36,61])=false)(U:dA S=false)(A:b.Va=true) :
  im D d M z6 L b z5 S y a k y0:=by
 unfold im;obtain⟨W,Z,K,m,p0,p1,p2⟩:=boxed h y a k;clear h;obtain⟨q0,T,q2,P,X,q5,q6,O,q8,q9,t,w,V⟩:=m.cells M z;clear q0 T q2 P X q5 q6 O q9 t;have ac:=m.free;rw[A]at w;have F:Hid (aX b S ⟨y,a,k⟩=(0,{ b with Vh:=b.Vh++[(S,⟨y,a,k⟩)] })):=by show aX b S ⟨y,a,k⟩=_;simp[aX,k0,Y,v,o,U,A]
 have R:=q.Vh;obtain⟨H,s,p,x,r⟩:=Re OC;have N:=m.lt;have B:Hid (aR (W.alloc (.cells #[.string S,.string y,.int .i64 a,.int .i64 k] 229)).drew D d z6 L b z5):=m.Vb ((ab.refl [] W).alloc _).drew
 have s2:Hid (∀j u,(qZ (S,⟨y,a,k⟩))[j]?=some u->(W.alloc (.cells #[.string S,.string y,.int .i64 a,.int .i64 k] 229)).drew.cell? ((⟨W.heap.size,0,none⟩:Addr).add j)=some u):=by
  intro j u J;have I:(W.alloc (.cells #[.string S,.string y,.int .i64 a,.int .i64 k] 229)).drew.heap[W.heap.size]?=some (.cells #[.string S,.string y,.int .i64 a,.int .i64 k] 229 (0,0)):=QS _ _;rw[bL,aa I];simpa [qZ] using J
 have s3:Hid (∀u∈qZ (S,⟨y,a,k⟩),u.oneCell'=true):=by
  intro u C;simp only[qZ,List.mem_cons,List.not_mem_nil,or_false]at C
  rcases C with rfl | rfl | rfl | rfl <;> rfl
 have s4:Hid ((gN b.Vh).n+1<=maxLen):=by show _<=_;simp only[gN];unfold maxLen;omega
 have G:Hid (((gN b.Vh).n+1)*48<=140737488355328):=by show _<=_;simp only[gN];omega
 go_enter func206,ntmps206
 go_upto_region 1 with fail
 rw[Z.out];go_wp2_with (go_at_call 231;refine(dV S _ Q).mono ?_;rintro e w1 ⟨rfl,rfl⟩)
 go_region_law (refine cd rfl (.tmp 57) (.tmp 61) 156 rfl H (.agg #[.string ⟨#[]⟩,.string ⟨#[]⟩,.int .i64 0,.int .i64 0]) 48 (z5 9) (gN b.Vh) underlying156 s p x r rfl (Uz 3) (by simp[Act.eval] <;> rfl) (B.out.own 9) ⟨_,0,none⟩ 1 1 (qZ (S,⟨y,a,k⟩)) (by simp[Act.eval] <;> rfl) rfl s2.out s3.out Rc s4.out G.out ?_;intro g i w1 f l c;obtain⟨k5,f5,E⟩:=B.out.app (d':={ b with Vh:=b.Vh++[(S,⟨y,a,k⟩)] }) M 12 z 9 (by omega) g i ((gN b.Vh).n+1) _ f (JF b.Vh (S,⟨y,a,k⟩)) l (by simpa using c) (wZ b z5 _) (by omega) _ rfl (by simp[b9,g9,gN]);clear f l c)
 all_goals go_wp2
 all_goals go_ret
 all_goals exact⟨QN (by rw[F.out]),_,by rw[F.out];exact E.out.1,E.out.2.first (K.trans ((ab.refl [] _).alloc _).drew)⟩
theorem Fr(h:aR y0 D d z6 L b z5)(r:z6.length=M)(s:S.size<=1073741824)(p:(b.kind==0)=false)(m:(b.kind==6)=false)(f:(S.toList == [36,46])=false)(g:(S.toList == [36,61])=true) :
  im D d M z6 L b z5 S y a k y0:=by
 unfold im;obtain⟨W,n,K,i,O,R,T⟩:=boxed h y a k;clear h;obtain⟨H,B,F,x,C,E,N,w,Q,I,o,j,q⟩:=i.cells M r;clear H B F x C E N w I o q;have G:=i.free;have t:=Ic S g
 cases u:(b.kind==5)
 ·have c:Hid (aX b S ⟨y,a,k⟩=(8,b)):=by show aX b S ⟨y,a,k⟩=_;simp[aX,p,m,f,u,t]
  go_enter func206,ntmps206
  go_upto_region 1 with fail
  rw[n.out];go_wp2_with (go_at_call 231;refine(dV S _ s).mono ?_;rintro e J ⟨rfl,rfl⟩);go_ret;exact⟨QN (by rw[c.out]),z5,by rw[c.out];exact i,(aA.refl _ _ _).Vb K⟩
 ·cases l:b.Va
  ·have c:Hid (aX b S ⟨y,a,k⟩=b7 b):=by show aX b S ⟨y,a,k⟩=_;simp only[aX,p,m,f,g,u,l];simp
   rw[l]at j;go_enter func206,ntmps206
   go_upto_region 1 with fail
   rw[n.out];go_wp2_with fail;refine(vL D d M z6 L b z5 _ (by exact i) r).mono ?_;rintro e P ⟨rfl,v,z,A⟩;go_wp2;go_ret;exact⟨QN (by rw[c.out]),v,by rw[c.out];exact z,A.first K⟩
  ·have c:Hid (aX b S ⟨y,a,k⟩=(8,b)):=by show aX b S ⟨y,a,k⟩=_;simp[aX,p,m,f,l,t]
   rw[l]at j;go_enter func206,ntmps206
   go_upto_region 1 with fail
   rw[n.out];go_wp2_with (go_at_call 231;refine(dV S _ s).mono ?_;rintro e J ⟨rfl,rfl⟩);go_ret;exact⟨QN (by rw[c.out]),z5,by rw[c.out];exact i,(aA.refl _ _ _).Vb K⟩
theorem MD(h:aR y0 D d z6 L b z5)(m:z6.length=M)(H:fK b 10000000)(F:S.size<=1073741824)(G:AY b 100000000) :
  im D d M z6 L b z5 S y a k y0:=by
 cases x:(b.kind==0)
 ·cases A:(b.kind==6)
  ·cases j:(S.toList == [36,46])
   ·cases n:(S.toList == [36,61])
    ·cases J:dA S
     ·cases R:b.Va
      ·exact Da D d M z6 L b z5 S y a k y0 h m H F x A j n J R
      ·exact xW D d M z6 L b z5 S y a k y0 h m H F x A j n J R
     ·unfold im
      obtain⟨W,s,K,i,I,O,P⟩:=boxed h y a k;clear h G;obtain⟨v,q,u,p,r,t,z,o,N,w,c,g,f⟩:=i.cells M m;clear v q u p r t z o w c f;have l:Hid (aX b S ⟨y,a,k⟩=(8,b)):=by show aX b S ⟨y,a,k⟩=_;simp[aX,x,A,j,n,J]
      go_enter func206,ntmps206
      go_upto_region 1 with fail
      rw[s.out];go_wp2_with (go_at_call 231;refine(dV S _ F).mono ?_;rintro e T ⟨rfl,rfl⟩);go_ret;exact⟨QN (by rw[l.out]),z5,by rw[l.out];exact i,(aA.refl _ _ _).Vb K⟩
    ·exact Fr D d M z6 L b z5 S y a k y0 h m F x A j n
   ·unfold im
    obtain⟨W,s,K,i,I,O,P⟩:=boxed h y a k;clear h G;obtain⟨v,q,u,p,r,t,z,o,N,w,c,g,f⟩:=i.cells M m;clear v q u p r t z o w c g f;have l:Hid (aX b S ⟨y,a,k⟩=lL b ⟨y,a,k⟩):=by show aX b S ⟨y,a,k⟩=_;simp only[aX,x,A,j];simp
    go_enter func206,ntmps206
    go_upto_region 1 with fail
    rw[s.out];go_wp2_with fail;refine(Nl D d M z6 L b z5 y a k _ (by exact i) m H).mono ?_;rintro e Q ⟨rfl,B,C,E⟩;go_wp2;go_ret;exact⟨QN (by rw[l.out]),B,by rw[l.out];exact C,E.first K⟩
  ·unfold im
   obtain⟨W,s,K,i,I,O,P⟩:=boxed h y a k;clear h G;obtain⟨v,q,u,p,r,t,z,o,N,w,c,g,f⟩:=i.cells M m;clear v q u p r t z o w c g f;have l:Hid (aX b S ⟨y,a,k⟩=aH b S):=by show aX b S ⟨y,a,k⟩=_;simp only[aX,x,A];simp
   go_enter func206,ntmps206
   go_upto_region 1 with fail
   rw[s.out];go_wp2_with fail;refine(vg D d M z6 L b z5 S _ (by exact i) m).mono ?_;rintro e Q ⟨rfl,B,C,E⟩;go_wp2;go_ret;exact⟨QN (by rw[l.out]),B,by rw[l.out];exact C,E.first K⟩
 ·unfold im
  obtain⟨W,s,K,i,I,O,P⟩:=boxed h y a k;clear h;obtain⟨v,q,u,p,r,t,z,o,N,w,c,g,f⟩:=i.cells M m;clear v q u p r t z o w c g f;have l:Hid (aX b S ⟨y,a,k⟩=av b S):=by show aX b S ⟨y,a,k⟩=_;simp only[aX,x];simp
  go_enter func206,ntmps206
  go_upto_region 1 with fail
  rw[s.out];go_wp2_with fail;refine(xU D d M z6 L b z5 S _ (by exact i) m H F G).mono ?_;rintro e Q ⟨rfl,B,C,E⟩;go_wp2;go_ret;exact⟨QN (by rw[l.out]),B,by rw[l.out];exact C,E.first K⟩
def fm:Db:=⟨[],[],[],[],[],[],[],[],0,⟨#[]⟩,[],false,[]⟩
abbrev pA:=Int×Pl
def cY:pA:=(0,⟨⟨#[]⟩,0,0⟩)
def gU(f:pA):Value:=.agg #[.int .i64 f.1,.string f.2.file,.int .i64 f.2.line,.int .i64 f.2.col]
def kK(n s:ByteArray)(p:Nat):Pl:=⟨n,aP s p,bm s p⟩
def iK(n s:ByteArray)(i:rT):pA:=(if i.fin=true then 7 else i.rule,kK n s i.pos)
abbrev FP:=pA×List Bool×Db
def rx(fs:Fs)(x z:Nat)(p:Pl)(d:Db):pA ⊕ (Nat×Nat) :=
  if kp d=true then .inl (4,p)
  else if aI (ay (ak fs x) z).1=false then .inl (iK (aE fs x) (ak fs x) (ay (ak fs x) z).1)
  else if dA (ay (ak fs x) z).1.text=true then .inl (5,kK (aE fs x) (ak fs x) (ay (ak fs x) z).1.pos)
  else if bF fs (ay (ak fs x) z).1.text<0 then .inl (6,kK (aE fs x) (ak fs x) (ay (ak fs x) z).1.pos)
  else if aI (ay (ak fs x) (ay (ak fs x) z).2).1=false then .inl (iK (aE fs x) (ak fs x) (ay (ak fs x) (ay (ak fs x) z).2).1)
  else if((ay (ak fs x) (ay (ak fs x) z).2).1.text.toList == [36,93])=false then .inl (5,kK (aE fs x) (ak fs x) (ay (ak fs x) (ay (ak fs x) z).2).1.pos)
  else .inr ((bF fs (ay (ak fs x) z).1.text).toNat,(ay (ak fs x) (ay (ak fs x) z).2).2)
def mX(rf:Nat->List Bool->Db->FP)(fs:Fs)(x z:Nat)(p:Pl)(bg:List Bool)(d:Db):FP×Nat :=
  match rx fs x z p d with
  | .inl f=>((f,bg,d),z)
  | .inr (j,z')=>(rf j bg d,z')
def jN(rf:Nat->List Bool->Db->FP)(fs:Fs)(x z:Nat)(t:ByteArray)(p:Pl)(bg:List Bool)(d:Db):FP×Nat :=
  if(t.toList == [36,91])=true then mX rf fs x z p bg d
  else((if((aX d t p).1==0)=true then cY else((aX d t p).1,p),bg,(aX d t p).2),z)
def bq(fs:Fs):Nat->Nat->Nat->List Bool->Db->FP
  | 0,_,_,bg,d=>(cY,bg,d)
  | f+1,x,k,bg,d =>
    if aI (ay (ak fs x) k).1=true then
      (if((jN (fun j bg d=>if bg.getD j true=true then(cY,bg,d) else bq fs f j 0 (bg.set j true) d) fs x (ay (ak fs x) k).2 (ay (ak fs x) k).1.text (kK (aE fs x) (ak fs x) (ay (ak fs x) k).1.pos) bg d).1.1.1==0)=true
       then bq fs f x (jN (fun j bg d=>if bg.getD j true=true then(cY,bg,d) else bq fs f j 0 (bg.set j true) d) fs x (ay (ak fs x) k).2 (ay (ak fs x) k).1.text (kK (aE fs x) (ak fs x) (ay (ak fs x) k).1.pos) bg d).2
          (jN (fun j bg d=>if bg.getD j true=true then(cY,bg,d) else bq fs f j 0 (bg.set j true) d) fs x (ay (ak fs x) k).2 (ay (ak fs x) k).1.text (kK (aE fs x) (ak fs x) (ay (ak fs x) k).1.pos) bg d).1.2.1
          (jN (fun j bg d=>if bg.getD j true=true then(cY,bg,d) else bq fs f j 0 (bg.set j true) d) fs x (ay (ak fs x) k).2 (ay (ak fs x) k).1.text (kK (aE fs x) (ak fs x) (ay (ak fs x) k).1.pos) bg d).1.2.2
       else(jN (fun j bg d=>if bg.getD j true=true then(cY,bg,d) else bq fs f j 0 (bg.set j true) d) fs x (ay (ak fs x) k).2 (ay (ak fs x) k).1.text (kK (aE fs x) (ak fs x) (ay (ak fs x) k).1.pos) bg d).1)
    else if(ay (ak fs x) k).1.fin=true/\kp d=false then(cY,bg,d) else(iK (aE fs x) (ak fs x) (ay (ak fs x) k).1,bg,d)
def cn(fs:Fs)(f:Nat)(j:Nat)(bg:List Bool)(d:Db):FP :=
  if bg.getD j true=true then(cY,bg,d) else bq fs f j 0 (bg.set j true) d
def fZ(fs:Fs)(f x k:Nat)(bg:List Bool)(d:Db):FP×Nat :=
  jN (cn fs f) fs x (ay (ak fs x) k).2 (ay (ak fs x) k).1.text (kK (aE fs x) (ak fs x) (ay (ak fs x) k).1.pos) bg d
theorem yD(a:aI (ay (ak zt T) l).1=true)(b:((fZ zt H T l f y2).1.1.1==0)=true) :
    bq zt (H+1) T l f y2=bq zt H T (fZ zt H T l f y2).2 (fZ zt H T l f y2).1.2.1 (fZ zt H T l f y2).1.2.2:=by
  rw[bq,QW a];exact QW b
theorem ox(a:aI (ay (ak zt T) l).1=true)(c:((fZ zt H T l f y2).1.1.1==0)=false) :
    bq zt (H+1) T l f y2=(fZ zt H T l f y2).1:=by
  rw[bq,QW a];exact QT (fun b=>Bool.noConfusion (c.symm.trans b))
theorem zW(b:aI (ay (ak zt T) l).1=false)(c:(ay (ak zt T) l).1.fin=true)(a:kp y2=false) :
    bq zt (H+1) T l f y2=(cY,f,y2):=by
  rw[bq,QT (by simp[b]),QW ⟨c,a⟩]
theorem wk(a:aI (ay (ak zt T) l).1=false)(b:¬((ay (ak zt T) l).1.fin=true/\kp y2=false)) :
    bq zt (H+1) T l f y2=(iK (aE zt T) (ak zt T) (ay (ak zt T) l).1,f,y2):=by
  rw[bq,QT (by simp[a]),QT b]
theorem km{i:rT}(h:aI i=false)(a:i.fin=false):(i.rule==0)=false:=by
  simp[aI,a]at h;simpa using h
structure nE(d:Db)(m:Nat):Prop where
  Ve:d.Ve.length<=m
  U8:d.U8.length+d.U6.length<=m
  U9:d.U9.length+d.U6.length<=m
  Vf:d.Vf.length+d.U6.length<=m
  Vi:d.Vi.length+d.U6.length<=m
  blocks:d.blocks.length<=m
  Vn:d.Vn.length<=m
  Vh:d.Vh.length<=m
  inner:∀p,p∈d.blocks->p.1<=m/\p.2<=m
  same:d.rbl.length=d.blocks.length
  recs:∀x,x∈d.rbl->x<=d.Vn.length
theorem nE.small{N:Nat}(h:nE v n)(b:n<=N):fK v N/\AY v N :=
  ⟨⟨by have:=h.Ve;omega,by have:=h.U8;omega,by have:=h.U9;omega,by have:=h.Vf;omega,by have:=h.Vi;omega,by have:=h.blocks;omega,by have:=h.Vn;omega,by have:=h.blocks;have:=h.same;omega,by have:=h.U8;omega,by have:=h.Vh;omega⟩,
   ⟨fun p a=>by have:=h.inner p a;omega,h.same,h.recs⟩⟩
theorem nE.mono{m':Nat}(h:nE v n)(b:n<=m'):nE v m' :=
  ⟨by have:=h.Ve;omega,by have:=h.U8;omega,by have:=h.U9;omega,by have:=h.Vf;omega,by have:=h.Vi;omega,by have:=h.blocks;omega,by have:=h.Vn;omega,by have:=h.Vh;omega,fun p a=>by have:=h.inner p a;omega,h.same,h.recs⟩
theorem nE.empty:nE fm 0:=by
  refine⟨?_,?_,?_,?_,?_,?_,?_,?_,?_,?_,?_⟩ <;> simp[fm]
theorem nE.plain(h:nE v n)(k:Int)(l:ByteArray)(b:Bool):nE { v with kind:=k,label:=l,Va:=b } n:=⟨h.Ve,h.U8,h.U9,h.Vf,h.Vi,h.blocks,h.Vn,h.Vh,h.inner,h.same,h.recs⟩
theorem vY:(gy y3 z7).length=y3.length:=jg y3 z7 y3.length
theorem nE.declare(h:nE v n)(p:Pl):nE { aY v p with kind:=0,label:=⟨#[]⟩,U6:=[],Va:=false,Vh:=[] } (n+1):=by
  have e:=h.U8;have f:=h.U9;have i:=h.Vf;have d:=h.Vi;have a:=h.mono (TO n);unfold aY
  split
  · exact⟨a.Ve,by simp;omega,by simp;omega,by simp;omega,by simp;omega,a.blocks,a.Vn,by simp,a.inner,a.same,a.recs⟩
  · split
    · have:=Dl v.U9 (v.U6.take v.U6.length)
      simp only[List.take_length]at this;exact⟨a.Ve,by simp[dO];omega,by simp[dO];omega,by simp[dO];omega,by simp[dO];omega,a.blocks,a.Vn,by simp,a.inner,a.same,a.recs⟩
    · unfold mO mY
      have:=h.Vn
      split
      · next g=>exact⟨a.Ve,by simp;omega,by simp;omega,by simp;omega,by simp;omega,a.blocks,by simp;omega,by simp,a.inner,a.same,fun x b=>by have:=h.recs x b;simp;omega⟩
      · exact⟨a.Ve,by simp;omega,by simp;omega,by simp;omega,by simp;omega,a.blocks,by simp;omega,by simp,a.inner,a.same,fun x b=>by have:=h.recs x b;simp;omega⟩
theorem nE.take(h:nE v n)(x:ByteArray)(o:Pl):nE (aX v x o).2 (n+1):=by
  have a:=h.mono (TO n);have b:=fun k=>a.plain k v.label v.Va
  have t:=h.Ve;have s:=h.U8;have w:=h.U9;have z:=h.Vf;have r:=h.Vi;have u:=h.blocks
  have f:nE (bI v x).2 (n+1):=by
    unfold bI
    split
    · exact a
    · split
      · exact a
      · split
        · exact a
        · exact⟨by simp;omega,a.U8,a.U9,a.Vf,a.Vi,a.blocks,a.Vn,a.Vh,a.inner,a.same,a.recs⟩
  have j:nE (aH v x).2 (n+1):=by
    unfold aH
    split
    · exact b 2
    · split
      · exact b 3
      · split
        · exact b 4
        · split
          · exact b 5
          · exact a
  have i:nE (av v x).2 (n+1):=by
    unfold av
    split
    · refine⟨a.Ve,a.U8,a.U9,a.Vf,a.Vi,by simp;omega,a.Vn,a.Vh,?_,by simp[h.same],?_⟩
      · intro p c
        simp only[List.mem_append,List.mem_singleton]at c
        rcases c with c | rfl
        · exact a.inner p c
        · simp only;omega
      · intro y d
        simp only[List.mem_append,List.mem_singleton]at d
        rcases d with d | rfl
        · exact h.recs y d
        · exact QR _
    · split
      · split
        · exact a
        · next p c =>
          unfold cw
          have m:v.rbl≠[]:=by
            intro e;have:=h.same;rw[e,rD c]at this;simp at this
          obtain⟨y,d⟩:∃y,v.rbl.getLast?=some y:=⟨_,Ta m⟩
          rw[d];refine⟨a.Ve,a.U8,a.U9,?_,?_,?_,?_,a.Vh,?_,?_,?_⟩
          · simp only[dq,List.length_take];omega
          · simp only[dq,List.length_take];omega
          · simp only[dq,List.length_dropLast];omega
          · show(gy v.Vn y).length<=_;rw[vY];exact a.Vn
          · intro q l
            simp only[dq]at l;exact a.inner q (TP _ l)
          · simp only[dq,List.length_dropLast,h.same]
          · intro q l
            show q<=(gy v.Vn y).length
            rw[vY];exact h.recs q (TP _ l)
      · split
        · split
          · exact a
          · exact b 7
        · split
          · exact b 8
          · split
            · exact b 1
            · split
              · exact a
              · exact f
  have g:nE (lL v o).2 (n+1):=by
    unfold lL
    split
    · exact a
    · split
      · exact a
      · exact h.declare o
  unfold aX
  split
  · exact i
  · split
    · exact j
    · split
      · exact g
      · split
        · unfold b7
          split
          · exact a
          · exact a.plain v.kind v.label true
        · split
          · exact a
          · split
            · exact⟨a.Ve,a.U8,a.U9,a.Vf,a.Vi,a.blocks,a.Vn,by have:=h.Vh;simp;omega,a.inner,a.same,a.recs⟩
            · split
              · exact⟨a.Ve,by simp;omega,by simp;omega,by simp;omega,by simp;omega,a.blocks,a.Vn,a.Vh,a.inner,a.same,a.recs⟩
              · exact a
def MX(fs:Fs)(bg:List Bool)(j:Nat):Nat:=if bg.getD j true=true then 0 else(ak fs j).size+2
def dP(fs:Fs)(bg:List Bool):Nat:=MX fs bg 0+MX fs bg 1+MX fs bg 2+MX fs bg 3
theorem wG(g:f.length=4)(e:f.getD z7 true=false):dP w (f.set z7 true)+(ak w z7).size+2=dP w f:=by
  match f,g with
  | [a,b,c,d],_ =>
    match z7 with
    | 0=>simp at e;subst e;simp[dP,MX];omega
    | 1=>simp at e;subst e;simp[dP,MX];omega
    | 2=>simp at e;subst e;simp[dP,MX];omega
    | 3=>simp at e;subst e;simp[dP,MX];omega
    | z7+4=>simp at e
def Qo(fs:Fs)(bg:List Bool)(m:Nat)(r:FP):Prop :=
  r.2.1.length=4/\dP fs r.2.1<=dP fs bg/\∃m',nE r.2.2 m'/\m'+dP fs r.2.1<=m+dP fs bg
theorem C7(q:∀j a d m,a.length=4->nE d m->Qo w a m (cn w z7 j a d))(x k:Nat)(a:List Bool)(d:Db)(m:Nat)(l:k<=(ak w x).size)(f:a.length=4)(i:nE d m)(n:aI (ay (ak w x) k).1=true) :
    Qo w a (m+1) (fZ w z7 x k a d).1/\k<(fZ w z7 x k a d).2/\(fZ w z7 x k a d).2<=(ak w x).size:=by
  have e:=fG (ak w x) k l;have c:=e.2.2 n;unfold fZ jN
  split
  · unfold mX
    split
    · exact⟨⟨f,QR _,m,i,by simp only;omega⟩,c,e.2.1⟩
    · next j v b =>
      have h:=q j a d m f i;refine⟨⟨h.1,h.2.1,?_⟩,?_⟩
      · obtain⟨r,p,u⟩:=h.2.2;exact⟨r,p,by simp only;omega⟩
      · unfold rx at b
        have o:=fG (ak w x) (ay (ak w x) k).2 e.2.1;have t:=fG (ak w x) (ay (ak w x) (ay (ak w x) k).2).2 o.2.1
        repeat' split at b
        all_goals first | (cases b;done) | skip
        injection b with b
        injection b with s g
        subst g;omega
  · exact⟨⟨f,QR _,m+1,i.take _ _,by simp only;omega⟩,c,e.2.1⟩
theorem Ll(f:Nat):(∀x k a d m,k<=(ak w x).size->a.length=4->nE d m->(bq w f x k a d).2.1.length=4/\dP w (bq w f x k a d).2.1<=dP w a/\∃c,nE (bq w f x k a d).2.2 c/\c+dP w (bq w f x k a d).2.1<=m+((ak w x).size-k)+dP w a) /\
    (∀j a d m,a.length=4->nE d m->Qo w a m (cn w f j a d)):=by
  have b:∀f,(∀x k a d m,k<=(ak w x).size->a.length=4->nE d m->(bq w f x k a d).2.1.length=4/\dP w (bq w f x k a d).2.1<=dP w a/\∃c,nE (bq w f x k a d).2.2 c/\c+dP w (bq w f x k a d).2.1<=m+((ak w x).size-k)+dP w a) ->
      (∀j a d m,a.length=4->nE d m->Qo w a m (cn w f j a d)):=by
    intro f h j a d m e g;unfold cn
    split
    · exact⟨e,QR _,m,g,QR _⟩
    · next D =>
      have n:a.getD j true=false:=by simpa using D
      have I:=wG w a j e n;have:=h j 0 (a.set j true) d m (Ro _) (by simpa using e) g;refine⟨this.1,by omega,?_⟩;obtain⟨c,A,H⟩:=this.2.2;exact⟨c,A,by omega⟩
  induction f with
  | zero =>
    have u:∀x k a d m,k<=(ak w x).size->a.length=4->nE d m->(bq w 0 x k a d).2.1.length=4/\dP w (bq w 0 x k a d).2.1<=dP w a/\∃c,nE (bq w 0 x k a d).2.2 c/\c+dP w (bq w 0 x k a d).2.1<=m+((ak w x).size-k)+dP w a:=by
      intro x k a d m o e g;exact⟨e,QR _,m,g,by simp only[bq];omega⟩
    exact⟨u,b 0 u⟩
  | succ f r =>
    have t:∀x k a d m,k<=(ak w x).size->a.length=4->nE d m->(bq w (f+1) x k a d).2.1.length=4/\dP w (bq w (f+1) x k a d).2.1<=dP w a/\∃c,nE (bq w (f+1) x k a d).2.2 c/\c+dP w (bq w (f+1) x k a d).2.1<=m+((ak w x).size-k)+dP w a:=by
      intro x k a d m o e g
      cases l:aI (ay (ak w x) k).1 with
      | true =>
        have C:=C7 w f r.2 x k a d m o e g l;obtain⟨⟨s,E,p,q,G⟩,F,v⟩:=C
        cases i:((fZ w f x k a d).1.1.1==0) with
        | true =>
          rw[yD w f x k a d l i];obtain⟨z,K,B,y,J⟩:=r.1 x (fZ w f x k a d).2 (fZ w f x k a d).1.2.1 (fZ w f x k a d).1.2.2 p v s q;exact⟨z,by omega,B,y,by omega⟩
        | false =>
          rw[ox w f x k a d l i];exact⟨s,E,p,q,by omega⟩
      | false =>
        by_cases i:(ay (ak w x) k).1.fin=true/\kp d=false
        · rw[zW w f x k a d l i.1 i.2];exact⟨e,QR _,m,g,by simp only;omega⟩
        · rw[wk w f x k a d l i];exact⟨e,QR _,m,g,by simp only;omega⟩
    exact⟨t,b (f+1) t⟩
theorem xI(k:Nat)(b:z4.size<=1024):(aW z4 k).1.text.size<=1024:=by
  unfold aW;generalize z4.size-k+1=f
  induction f generalizing k with
  | zero=>simp[bX,ByteArray.size]
  | succ f a =>
    rw[bX]
    split
    · split
      · simp[ByteArray.size]
      · exact a _
    · split
      · simp[ByteArray.size]
      · exact qx z4 k b
theorem rF(k:Nat)(a:z4.size<=1024):(ay z4 k).1.text.size<=1024:=by
  unfold ay;generalize z4.size-k+1=f
  induction f generalizing k with
  | zero=>simp[dH,ByteArray.size]
  | succ f b =>
    rw[dH]
    split
    · split
      · exact b _
      · exact xI z4 _ a
    · exact qx z4 k a
theorem Ft:(aX b z4 y4).2.Vh=b.Vh∨(aX b z4 y4).2.Vh=[]∨(aX b z4 y4).2.Vh=b.Vh++[(z4,y4)]:=by
 unfold aX
 split
 ·left
  unfold av
  split
  ·rfl
  ·split
   ·split
    ·rfl
    ·unfold cw;split <;> rfl
   ·split
    ·split <;> rfl
    ·split
     ·rfl
     ·split
      ·rfl
      ·split
       ·rfl
       ·unfold bI
        repeat' split
        all_goals rfl
 ·split
  ·left;unfold aH
   repeat' split
   all_goals rfl
  ·split
   ·unfold lL
    split
    ·left;rfl
    ·split
     ·left;rfl
     ·right;left;rfl
   ·split
    ·left;unfold b7;split <;> rfl
    ·split
     ·left;rfl
     ·split
      ·right;right;rfl
      ·split
       ·left;rfl
       ·left;rfl
theorem Dd:(aX b z4 y4).2.Vn=b.Vn∨(∃y∈b.rbl,(aX b z4 y4).2.Vn=gy b.Vn y)∨((aX b z4 y4).2.Vn=b.Vn++[⟨b.kind,b.label,b.U6,b.Vh,y4,0⟩]/\0<b.U6.length):=by
 unfold aX
 split
 ·unfold av
  split
  ·left;rfl
  ·split
   ·split
    ·left;rfl
    ·unfold cw
     split
     ·left;rfl
     ·next y d=>right;left;exact⟨y,List.mem_of_getLast? d,rfl⟩
   ·split
    ·split <;> (left;rfl)
    ·split
     ·left;rfl
     ·split
      ·left;rfl
      ·split
       ·left;rfl
       ·left;unfold bI
        repeat' split
        all_goals rfl
 ·split
  ·left;unfold aH
   repeat' split
   all_goals rfl
  ·split
   ·unfold lL
    split
    ·left;rfl
    ·next c =>
     have a:0<b.U6.length:=by
      unfold l5 at c
      split at c <;> omega
     split
     ·left;rfl
     ·unfold aY
      split
      ·left;rfl
      ·split
       ·left;rfl
       ·right;right
        refine⟨?_,a⟩;unfold mO
        split <;> rfl
   ·split
    ·left;unfold b7;split <;> rfl
    ·split
     ·left;rfl
     ·split
      ·left;rfl
      ·split
       ·left;rfl
       ·left;rfl
theorem MH:(aX b z4 y4).2.rbl=b.rbl∨(aX b z4 y4).2.rbl=b.rbl.dropLast∨(aX b z4 y4).2.rbl=b.rbl++[b.Vn.length]:=by
 unfold aX
 split
 ·unfold av
  split
  ·right;right;rfl
  ·split
   ·split
    ·left;rfl
    ·unfold cw
     split
     ·left;rfl
     ·right;left;rfl
   ·split
    ·split <;> (left;rfl)
    ·split
     ·left;rfl
     ·split
      ·left;rfl
      ·split
       ·left;rfl
       ·left;unfold bI
        repeat' split
        all_goals rfl
 ·left
  split
  ·unfold aH
   repeat' split
   all_goals rfl
  ·split
   ·unfold lL
    split
    ·rfl
    ·split
     ·rfl
     ·unfold aY
      split
      ·rfl
      ·split
       ·rfl
       ·unfold mO;split <;> rfl
   ·split
    ·unfold b7;split <;> rfl
    ·split
     ·rfl
     ·split
      ·rfl
      ·split <;> rfl
structure PJ(S:List St)(d:Db):Prop where
 pre:∃m,d.Vn=S++m
 rbl:∀y∈d.rbl,S.length<=y
theorem DW(m:List St)(y:Nat)(h:y3.length<=y):∃b,gy (y3++m) y=y3++b:=by
 refine⟨(gy (y3++m) y).drop y3.length,?_⟩
 have e:(gy (y3++m) y).take y3.length=y3:=by
  apply Sq
  intro i;rw[Tj]
  split
  ·next a =>
   unfold gy fD;rw[List.getElem?_mapIdx,Q7 a,QP a];rw[UU,QT (by omega)]
  ·rw[Rx];omega
 conv=>lhs;rw[<-Ul y3.length (gy (y3++m) y),e]
theorem PJ.take{S:List St}(h:PJ S v)(x:ByteArray)(p:Pl):PJ S (aX v x p).2:=by
 obtain⟨m,b⟩:=h.pre;refine⟨?_,?_⟩
 ·rcases Dd v x p with e | ⟨y,a,e⟩ | ⟨e,_⟩
  ·exact⟨m,by rw[e,b]⟩
  ·rw[e,b];exact DW S m y (h.rbl y a)
  ·exact⟨m++[_],by rw[e,b,Sy]⟩
 ·rcases MH v x p with e | e | e
  ·rw[e];exact h.rbl
  ·rw[e];intro y a;exact h.rbl y (TP _ a)
  ·rw[e]
   intro y a
   rcases Rr.1 a with a | a
   ·exact h.rbl y a
   ·rw[Q9.1 a,b,Q0];omega
theorem PJ.begin(h:nE v n)(b:kp v=false):PJ v.Vn v:=by
 refine⟨⟨[],by simp⟩,fun y a=>?_⟩;have c:=h.same
 have d:v.blocks.length=0:=by
  unfold kp at b;simp only[Bool.or_eq_false_iff,decide_eq_false_iff_not]at b;omega
 rw[d]at c;rw[Rk c]at a
 cases a
structure Rw where
 label:ByteArray
 Vc:Int
 why:Int
 at_:Pl
def mL(r:Rw):List Value:=[.string r.label,.int .i64 r.Vc,.int .i64 r.why,.string r.at_.file,.int .i64 r.at_.line,.int .i64 r.at_.col]
def kL(l:List Rw):List Value:=l.flatMap mL
def kT:Pl:=⟨⟨#[]⟩,0,0⟩
def qd:Rw:=⟨⟨#[]⟩,0,0,kT⟩
theorem Qa:(prog.info? 38).map (fun i=>(i.zero,i.size,i.bytes))=some (some (.agg #[.string ⟨#[]⟩,.int .i64 0,.int .i64 0,.string ⟨#[]⟩,.int .i64 0,.int .i64 0]),6,64):=by kernel_rfl
theorem CZ(l:List Rw):(kL l).length=l.length*6:=by
 induction l with
 | nil=>rfl
 | cons x r a =>
  have e:kL (x :: r)=mL x++kL r:=rfl;rw[e,Q0,a];simp[mL];omega
theorem GJ(l:List Rw)(k:Nat)(a:k<l.length)(j:Nat)(d:j<6):(kL l)[k*6+j]?=(mL l[k])[j]?:=by
 induction l generalizing k with
 | nil=>simp at a
 | cons s r c =>
  have e:kL (s :: r)=mL s++kL r:=rfl;rw[e]
  cases k with
  | zero=>rw[Q7 (by simp[mL];omega)];simp
  | succ k =>
   rw[Q5 (by simp[mL];omega)];have b:(k+1)*6+j-(mL s).length=k*6+j:=by simp[mL];omega
   rw[b,c k (by simpa using a)];rfl
def Ko(p:Pl):Prop:=-1000000000<=p.line/\p.line<=1000000000
def pC(w:World):Option Nat->List Rw->Prop
 | none,L=>L=[]
 | some g,L=>0<L.length/\w.heap[g]?=some (.cells (kL L).toArray 38 (0,0))
theorem pC.kept{L:List Rw}(h:pC x y8 L)(k:ab ya x I)(a:∀g,y8=some g->g∉ya):pC I y8 L:=by
 cases y8 with
 | none=>exact h
 | some g=>exact⟨h.1,k.get h.2 (a g rfl)⟩
theorem pC.Vb{L:List Rw}(h:pC x y8 L)(k:ab [] x I):pC I y8 L:=h.kept k (by simp)
theorem pC.lt{L:List Rw}(h:pC x y8 L)(g:Nat)(e:y8=some g):g<x.heap.size:=by
 subst e;exact ae h.2
structure QA(L:List Rw):Prop where
 len:L.length<=100000
 line:∀r∈L,Ko r.at_
theorem na(c:Int)(f:Bool)(w:World) :
  Calls prog 159 #[.agg #[.string S,.int .i64 a,.bool f,.string y,.int .i64 k,.int .i64 c]] w fun e b=>e=.returned (.agg #[.int .i64 (if f=true then 7 else a),.string y,.int .i64 k,.int .i64 c])/\ab [] w b:=by
 cases f
 ·go_enter func159,ntmps159
  go_wp2;exact QY (v:=.agg #[.int .i64 a,.string y,.int .i64 k,.int .i64 c]) (by simp[results,results159,go_sem]) rfl ⟨rfl,((ab.refl _ _).alloc _).alloc _⟩
 ·go_enter func159,ntmps159
  go_wp2;exact QY (v:=.agg #[.int .i64 7,.string y,.int .i64 k,.int .i64 c]) (by simp[results,results159,go_sem]) rfl ⟨rfl,((ab.refl _ _).alloc _).alloc _⟩
def dM(v:Nat)(bg:List Bool):List Value:=.pointer (some ⟨v,0,none⟩) :: bg.map Value.bool
theorem jl(h:f.length=4):(dM l f).length=5:=by simp[dM,h]
theorem aR.pre(h:aR x n N y1 y5 v i)(a:Nat)(c:a<y1.length)(u:Value) :
  aR (x.setCell ⟨n,a,none⟩ u) n N (y1.set a u) y5 v i/\aA n x i (x.setCell ⟨n,a,none⟩ u) i:=by
 refine⟨⟨?_,?_,h.apart,h.off⟩,(eK.refl _ _).setCell (Q1 (Q1 rfl)) _,fun _ b=>Q1 b⟩
 ·rw[ah h.blk,Ru,TM _ _ c]
 ·intro j
  refine(h.own j).Vg (fun k b=>Q4 _ _ _ _ ?_);rintro rfl;exact h.off j b
theorem aR.preCell(h:aR x n N y1 y5 v i)(a:Nat)(b:a<y1.length):x.cell? ⟨n,a,none⟩=y1[a]?:=by
 rw[aa h.blk];simp[List.getElem?_append_left b]
def fJ(b sp:Nat)(w:World)(H:Nat->Hd)(w':World)(H':Nat->Hd):Prop :=
 eK (fun k=>k=b∨k=sp∨f9 H k) w w'/\∀k,f9 H' k->f9 H k∨w.heap.size<=k
theorem aA.Vg{w':World}(t:aA n x i w' g):fJ n z7 x i w' g :=
 ⟨⟨t.1.os,t.1.tape,t.1.output,t.1.size,fun k a b=>t.1.block k a (fun e=>b (e.elim Q1 (fun e=>QV (QV e))))⟩,t.2⟩
theorem fJ.trans{w1:World}(a:fJ n N x i w1 g)(c:fJ n N w1 g I yg):fJ n N x i I yg:=by
 refine⟨⟨c.1.os.trans a.1.os,c.1.tape.trans a.1.tape,c.1.output.trans a.1.output,Q3 a.1.size c.1.size,?_⟩,?_⟩
 ·intro k b d
  rw[<-a.1.block k b d];refine c.1.block k (QX b a.1.size) ?_;rintro (e | e | f)
  ·exact d (Q1 e)
  ·exact d (QV (Q1 e))
  ·rcases a.2 k f with h | h
   ·exact d (QV (QV h))
   ·omega
 ·intro k b
  rcases c.2 k b with h | h
  ·exact a.2 k h
  ·exact QV (Q3 a.1.size h)
theorem fJ.refl(H:Nat->Hd):fJ T l y0 H y0 H:=⟨eK.refl _ _,fun _ a=>Q1 a⟩
theorem fJ.Vb(a:fJ n N x i I g)(c:ab [] I zb):fJ n N x i zb g :=
 a.trans ⟨c.toP (by simp),fun _ b=>Q1 b⟩
theorem fJ.first(c:ab [] x I)(a:fJ n N I i zb g):fJ n N x i zb g :=
 fJ.trans ⟨c.toP (by simp),fun _ b=>Q1 b⟩ a
theorem fJ.scan(a:fJ n N x i I g)(c:ab [N] I zb):fJ n N x i zb g :=
 a.trans ⟨c.toP (by intro k b _;simp at b;exact QV (Q1 b)),fun _ b=>Q1 b⟩
theorem fJ.beyond(T:fJ n N x i I g)(k:ab ya I zb)(d:∀b,b∈ya->x.heap.size<=b):fJ n N x i zb g :=
 ⟨⟨k.os.trans T.1.os,k.tape.trans T.1.tape,k.output.trans T.1.output,Q3 T.1.size k.size,fun a c f=>by
  rw[<-T.1.block a c f];exact k.block a (QX c T.1.size) (fun e=>by have:=d a e;omega)⟩,T.2⟩
theorem fJ.fresh(T:fJ n N x i I g)(F:Nat)(c:F<x.heap.size)(b:¬f9 i F):¬f9 g F:=by
 intro a
 rcases T.2 F a with h | h
 ·exact b h
 ·omega
theorem aA.fresh(T:aA n x i I g)(F:Nat)(c:F<x.heap.size)(b:¬f9 i F):¬f9 g F:=by
 intro a
 rcases T.2 F a with h | h
 ·exact b h
 ·omega
theorem ji{w:World}{r:Nat}:ab [r] w ((((w.setCell ⟨r,0,none⟩ yu).setCell ⟨r,1,none⟩ yv).setCell ⟨r,2,none⟩ yz).setCell ⟨r,3,none⟩ x0) :=
 ((((ab.refl _ _).setCell (Q1 (by simp)) _).setCell (Q1 (by simp)) _).setCell (Q1 (by simp)) _).setCell (Q1 (by simp)) _
theorem Fc(b a:Value):ab [n] x ((((((x.setCell ⟨n,0,none⟩ yu).setCell ⟨n,1,none⟩ yv).setCell ⟨n,2,none⟩ yz).setCell ⟨n,3,none⟩ x0).setCell ⟨n,4,none⟩ b).setCell ⟨n,5,none⟩ a) :=
 ((((((ab.refl _ _).setCell (Q1 (by simp)) _).setCell (Q1 (by simp)) _).setCell (Q1 (by simp)) _).setCell (Q1 (by simp)) _).setCell (Q1 (by simp)) _).setCell (Q1 (by simp)) _
def bA:Array Value:=#[.int .i64 0,.string ⟨#[]⟩,.int .i64 0,.int .i64 0]
theorem b8(h:x.heap[n]?=some (.cells bA 87 (0,0))) :
  x.cell? ⟨n,0,none⟩=some (.int .i64 0)/\x.cell? ⟨n,1,none⟩=some (.string ⟨#[]⟩)/\x.cell? ⟨n,2,none⟩=some (.int .i64 0)/\x.cell? ⟨n,3,none⟩=some (.int .i64 0):=by
 refine⟨?_,?_,?_,?_⟩ <;> (rw[aa h];rfl)
theorem nN{F:Nat}(D:aR I n N y1 y5 v g)(T:aA n x i I g)(a:x.heap.size<=F)(h:n≠F)(f:¬f9 g F)(d e c b:Value) :
  aR ((((I.setCell ⟨F,0,none⟩ d).setCell ⟨F,1,none⟩ e).setCell ⟨F,2,none⟩ c).setCell ⟨F,3,none⟩ b) n N y1 y5 v g /\
  aA n x i ((((I.setCell ⟨F,0,none⟩ d).setCell ⟨F,1,none⟩ e).setCell ⟨F,2,none⟩ c).setCell ⟨F,3,none⟩ b) g:=by
 refine⟨D.kept (ji _ _ _ _) (by simpa using h) (fun k j=>by simp;rintro rfl;exact f j),?_,T.2⟩;exact(((T.1.setCell (QV a) _).setCell (QV a) _).setCell (QV a) _).setCell (QV a) _
theorem ue(D:f.length=4)(d:Db)(p:Nat->Hd)(sp:Value)(x n:ByteArray)(j c:Int)(w:World)(h:aR w H T (dM l f) [] d p)(hs:fK d 10000000)(Z:x.size<=1073741824)(hi:AY d 100000000)(hn:(x.toList == [36,91])=false) :
  Calls prog 157 #[.pointer (some ⟨H,0,none⟩),sp,.agg #[.string x,.int .i64 0,.bool false,.string n,.int .i64 j,.int .i64 c]] w fun e i =>
   e=.returned (gU (if((aX d x ⟨n,j,c⟩).1==0)=true then cY else((aX d x ⟨n,j,c⟩).1,⟨n,j,c⟩))) /\
   ∃P,aR i H T (dM l f) [] (aX d x ⟨n,j,c⟩).2 P/\aA H w p i P:=by
 have V:=h.lt;have B:=fun(i:World) (Y:aR i H T (dM l f) [] d p)=>MD H T 5 (dM l f) [] d p x n j c i Y (jl l f D) hs Z hi
 unfold im at B;have q:=hI B;clear B;generalize aX d x ⟨n,j,c⟩=td at *;obtain⟨r,S⟩:=td;simp only at q;obtain⟨W,A⟩:∃W,W=((w.alloc (.cells #[.string x,.int .i64 0,.bool false,.string n,.int .i64 j,.int .i64 c] 255)).alloc (.cells #[.int .i64 0,.string ⟨#[]⟩,.int .i64 0,.int .i64 0] 87)):=⟨_,rfl⟩
 have Q:ab [] w W:=by rw[A];exact((ab.refl [] w).alloc _).alloc _
 have R:aR W H T (dM l f) [] d p:=h.Vb Q
 have hI:W.heap[w.heap.size]?=some (.cells #[.string x,.int .i64 0,.bool false,.string n,.int .i64 j,.int .i64 c] 255 (0,0)):=by
  rw[A];exact((ab.refl [] _).alloc _).get (QS _ _) (by simp)
 have O:W.heap[w.heap.size+1]?=some (.cells bA 87 (0,0)):=by
  rw[A];have:=QS (w.alloc (.cells #[.string x,.int .i64 0,.bool false,.string n,.int .i64 j,.int .i64 c] 255)) (.cells #[.int .i64 0,.string ⟨#[]⟩,.int .i64 0,.int .i64 0] 87);simpa [bA] using this
 have s:Hid (∀k,w.heap.size<=k->¬(k=H∨f9 p k)):=by
  rintro k hk (e | L)
  ·omega
  ·have:=h.inlt L;omega
 have HW:=hI A.symm;clear A h;have i0:W.cell? ⟨w.heap.size,0,none⟩=some (.string x):=by rw[aa hI];rfl
 have i3:W.cell? ⟨w.heap.size,3,none⟩=some (.string n):=by rw[aa hI];rfl
 have i4:W.cell? ⟨w.heap.size,4,none⟩=some (.int .i64 j):=by rw[aa hI];rfl
 have i5:W.cell? ⟨w.heap.size,5,none⟩=some (.int .i64 c):=by rw[aa hI];rfl
 have z:=(show Hid _ from fun(a:World) (b:Nat->Hd) (u:aR a H T (dM l f) [] S b) (g:aA H W.drew p a b) (a0 a1 U a3:Value) =>
  nN u ((g.first (ab.refl [] W).drew).first Q) (F:=w.heap.size+1) (by omega) (by omega) (g.fresh (w.heap.size+1) (by exact ae O) (fun L=>s.out (w.heap.size+1) (by omega) (QV L))) a0 a1 U a3)
 have t:=hI (fun(a:World) (b:Nat->Hd) (g:aA H W.drew p a b)=>(show _/\_ from⟨g.1.get (by exact hI) (s.out _ (QR _)),g.1.get (by exact O) (s.out _ (by omega))⟩))
 have M:∀(a:World) (b:Nat->Hd) (_:aA H W.drew p a b),a.cell? ⟨w.heap.size,0,none⟩=some (.string x)/\a.cell? ⟨w.heap.size,3,none⟩=some (.string n)/\a.cell? ⟨w.heap.size,4,none⟩=some (.int .i64 j)/\a.cell? ⟨w.heap.size,5,none⟩=some (.int .i64 c):=by
  intro a b g;have G:=(t.out a b g).1;refine⟨?_,?_,?_,?_⟩ <;> (rw[aa G];rfl)
 have v:=hI M;clear M;go_enter func157,ntmps157
 go_upto_region 1 with fail
 rw[HW.out]
 go_upto_region 3 with fail
 cases N:(r==0)
 ·have J:(r != 0)=true:=by simp[bne,N]
  go_region_held3 (fun i=>i.cell? ⟨w.heap.size,0,none⟩=some (.string x)/\i.cell? ⟨w.heap.size,3,none⟩=some (.string n)/\i.cell? ⟨w.heap.size,4,none⟩=some (.int .i64 j)/\i.cell? ⟨w.heap.size,5,none⟩=some (.int .i64 c)) (go_keep) (first | (go_at_call 206;refine(q.out _ (by exact R.Vb (ab.refl [] _).drew)).mono ?_;rintro e a ⟨rfl,b,u,g⟩;obtain⟨r0,X,r4,r5⟩:=v.out a b g))
  all_goals
   have m:=(t.out a b g).2;have o:=hI (z.out a b u g);obtain⟨C,K,I,E⟩:=b8 m;have y:=am m;go_wp2
   exact QY (v:=.agg #[.int .i64 r,.string n,.int .i64 j,.int .i64 c]) (by simp[results,results157,go_sem,C,K,I,E]) rfl
    ⟨rfl,b,(o.out _ _ _ _).1,(o.out _ _ _ _).2⟩
 ·have J:(r != 0)=false:=by simp[bne,N]
  go_region_held3 (fun i=>i.cell? ⟨w.heap.size,0,none⟩=some (.string x)/\i.cell? ⟨w.heap.size,3,none⟩=some (.string n)/\i.cell? ⟨w.heap.size,4,none⟩=some (.int .i64 j)/\i.cell? ⟨w.heap.size,5,none⟩=some (.int .i64 c)) (go_keep) (first | (go_at_call 206;refine(q.out _ (by exact R.Vb (ab.refl [] _).drew)).mono ?_;rintro e a ⟨rfl,b,u,g⟩;obtain⟨r0,X,r4,r5⟩:=v.out a b g))
  all_goals
   have m:=(t.out a b g).2;have o:=hI (z.out a b u g);obtain⟨C,K,I,E⟩:=b8 m;have y:=am m;go_wp2
   exact QY (v:=.agg #[.int .i64 0,.string ⟨#[]⟩,.int .i64 0,.int .i64 0]) (by simp[results,results157,go_sem,C,K,I,E]) rfl
    ⟨rfl,b,(o.out _ _ _ _).1,(o.out _ _ _ _).2⟩
def jD(b v:Nat)(fs:Fs)(f j:Nat)(bg:List Bool)(d:Db)(H:Nat->Hd)(w:World):Prop :=
 Calls prog 111 #[.pointer (some ⟨b,0,none⟩),.int .i64 j] w fun e w'=>e=.returned (gU (cn fs f j bg d).1)/\∃H',aR w' b 200 (dM v (cn fs f j bg d).2.1) [] (cn fs f j bg d).2.2 H'/\aA b w H w' H'
theorem ki{F:Nat}(D:aR I n N y1 y5 v g)(T:fJ n y9 x i I g)(f:x.heap.size<=F)(h:n≠F)(e:¬f9 g F)(c d b a:Value) :
  aR ((((I.setCell ⟨F,0,none⟩ c).setCell ⟨F,1,none⟩ d).setCell ⟨F,2,none⟩ b).setCell ⟨F,3,none⟩ a) n N y1 y5 v g /\
  fJ n y9 x i ((((I.setCell ⟨F,0,none⟩ c).setCell ⟨F,1,none⟩ d).setCell ⟨F,2,none⟩ b).setCell ⟨F,3,none⟩ a) g :=
 ⟨D.kept (ji _ _ _ _) (by simpa using h) (fun k j=>by simp;rintro rfl;exact e j),T.beyond (ji _ _ _ _) (by simpa using f)⟩
theorem qQ(f:Bool)(p:Nat):gU (iK S y ⟨z4,k,f,p⟩)=.agg #[.int .i64 (if f=true then 7 else k),.string S,.int .i64 (aP y p),.int .i64 (bm y p)]:=rfl
structure rS(w w':World)(b v tt sp z:Nat)(fs:Fs)(more:List Value)(bg:List Bool)(d:Db)(H:Nat->Hd)(n s:ByteArray):Prop where
 D:aR w' b 200 (dM v bg) [] d H
 TB:bi w' v tt fs more
 SC:bV w' sp n s z
 F:w'.heap[w.heap.size+1]?=some (.cells bA 87 (0,0))
 M:fJ b sp w H w' H
theorem rS.Vb(S:rS x I n N y9 y7 yt yr y1 ys v i yd yf)(k:ab [] I zb):rS x zb n N y9 y7 yt yr y1 ys v i yd yf :=
 ⟨S.D.Vb k,S.TB.kept k (by simp),S.SC.kept k (by simp),k.get S.F (by simp),S.M.Vb k⟩
theorem rS.next{a:Nat}(S:rS x I n N y9 y7 yt yr y1 ys v i yd yf)(k:ab [y7] I zb)(b:bV zb y7 yd yf a)(d:y7≠n)(f:N≠y7)(c:¬f9 i y7)(j:y7<x.heap.size):rS x zb n N y9 y7 a yr y1 ys v i yd yf :=
 ⟨S.D.kept k (by simpa using fun e=>d e.symm) (by intro h g;simp;rintro rfl;exact c g),S.TB.kept k (by simpa using f),b,k.get S.F (by simp;omega),S.M.scan k⟩
theorem Cd(be:f.length=4)(b:Db)(z:Nat->Hd)(n s:ByteArray)(v c:Int)(g:World)(h:aR g D 200 (dM d f) [] b z)(hn:aE w T=n)(bs:ak w T=s)(hs:s.size<=1024)(hz:l<=s.size)(ar:bV g o n s l)(ht:bi g d M w L)(X:o≠D)(a6:d≠o)(ao:¬f9 z o)(RF:Hid (∀(j:Nat) (w':World),j<w.length->aR w' D 200 (dM d f) [] b z->bi w' d M w L->jD D d w H j f b z w')) :
  Calls prog 205 #[.pointer (some ⟨D,0,none⟩),.pointer (some ⟨o,0,none⟩),.agg #[.string n,.int .i64 v,.int .i64 c]] g fun e w' =>
   e=.returned (gU (mX (cn w H) w T l ⟨n,v,c⟩ f b).1.1)/\∃H',aR w' D 200 (dM d (mX (cn w H) w T l ⟨n,v,c⟩ f b).1.2.1) [] (mX (cn w H) w T l ⟨n,v,c⟩ f b).1.2.2 H'/\fJ D o g z w' H' /\
    (((mX (cn w H) w T l ⟨n,v,c⟩ f b).1.1.1==0)=true->bV w' o n s (mX (cn w H) w T l ⟨n,v,c⟩ f b).2):=by
 obtain⟨W,hW⟩:∃W,W=((g.alloc (.cells #[.string n,.int .i64 v,.int .i64 c] 36)).alloc (.cells #[.int .i64 0,.string ⟨#[]⟩,.int .i64 0,.int .i64 0] 87)):=⟨_,rfl⟩
 have hK:ab [] g W:=by rw[hW];exact((ab.refl [] g).alloc _).alloc _
 have b4:=h.lt;have al:=ae ar;have cb:=ht.lt;have aS:aR W D 200 (dM d f) [] b z:=h.Vb hK;have SC:bV W o n s l:=ar.kept hK (by simp);have TB:bi W d M w L:=ht.kept hK (by simp)
 have hP:W.heap[g.heap.size]?=some (.cells #[.string n,.int .i64 v,.int .i64 c] 36 (0,0)):=by
  rw[hW];exact((ab.refl [] _).alloc _).get (QS _ _) (by simp)
 have hF:W.heap[g.heap.size+1]?=some (.cells bA 87 (0,0)):=by
  rw[hW];have:=QS (g.alloc (.cells #[.string n,.int .i64 v,.int .i64 c] 36)) (.cells #[.int .i64 0,.string ⟨#[]⟩,.int .i64 0,.int .i64 0] 87);simpa [bA] using this
 have A:Hid (∀k,g.heap.size<=k->¬f9 z k):=fun k hk hm=>by have:=h.inlt hm;omega
 have HW:=hI hW.symm;have cc:=ae hF;have MK:Hid (fJ D o g z W z):=(fJ.refl D o g z).Vb hK;clear hW h ar ht;have I:Hid (mX (cn w H) w T l ⟨n,v,c⟩ f b=match rx w T l ⟨n,v,c⟩ b with | .inl q=>((q,f,b),l) | .inr (j,z')=>(cn w H j f b,z')):=rfl;have B:Hid (rx w T l ⟨n,v,c⟩ b=_):=(show rx w T l ⟨n,v,c⟩ b=_ from by unfold rx;rw[hn,bs])
 cases ho:kp b
 ·have az:=fG s l hz
  have bw:=rF s l hs;have bf:=fG s (ay s l).2 az.2.1;have bj:=pI (ay s l).1.text w;generalize hr1:ay s l=r1 at *;obtain⟨⟨U,u1,f1,E⟩,z1⟩:=r1;simp only at az bw bf bj B;have b1:=rF s z1 hs;generalize hr2:ay s z1=r2 at *;obtain⟨⟨t2,u2,f2,O⟩,z2⟩:=r2;simp only at bf b1 B;rw[ho]at B;have S0:rS g W D d M o l w L f b z n s:=⟨aS,TB,SC,hF,MK.out⟩;go_enter func205,ntmps205
  go_upto_region 1 with fail
  rw[HW.out];go_wp2_with fail;refine(sX D 200 5 (dM d f) [] b z _ aS (jl d f be)).mono ?_;rintro e w1 ⟨rfl,x⟩;subst x;rw[ho];go_wp2_with fail;refine(sV o l n s _ hs hz SC).mono ?_;rintro e w2 ⟨rfl,ag,bc⟩;rw[hr1]at ag ⊢;simp only[fg]at ag ⊢;have S2:=S0.next bc ag X a6 ao al;obtain⟨W3,af⟩:∃W3,W3=w2.alloc (.cells #[.string U,.int .i64 u1,.bool f1,.string n,.int .i64 (aP s E),.int .i64 (bm s E)] 255):=⟨_,rfl⟩
  have a7:=hI af.symm;have S3:rS g W3 D d M o z1 w L f b z n s:=by rw[af];exact S2.Vb ((ab.refl [] _).alloc _)
  have I3:jx W3 w2.heap.size n s ⟨U,u1,f1,E⟩:=by rw[af];exact QS _ _
  clear af S0 S2 ag bc aS TB SC hP hF hK HW hr1
  go_upto_region 4 with fail
  rw[a7.out];clear a7;obtain⟨m,t,u,p,a4,a5⟩:=I3.cells;go_wp2_with fail;refine(cK U n u1 (aP s E) (bm s E) f1 _).mono ?_;rintro e w4 ⟨rfl,ap⟩;have J:=S3.Vb ap;have I4:=I3.kept ap (by simp);clear m t u p a4 a5 S3 I3 ap;obtain⟨m,t,u,p,a4,a5⟩:=I4.cells;have ca:=ae I4;have b3:=ae J.F
  cases x:(u1==0 && !f1)
  ·have i:Hid (mX (cn w H) w T l ⟨n,v,c⟩ f b=((iK n s ⟨U,u1,f1,E⟩,f,b),l)):=by
    show _=_;rw[I.out,B.out];simp[aI,x]
   clear I B;go_wp2_with fail;refine(na U n u1 (aP s E) (bm s E) f1 _).mono ?_;rintro e w5 ⟨rfl,bp⟩;obtain⟨q,hq⟩:∃q:Int,Hid ((if f1=true then(7:Int) else u1)=q):=⟨_,rfl⟩
   rw[hq.out];have V:=J.Vb bp;obtain⟨Q,P,N,K⟩:=b8 V.F;have y:=am V.F;have a:=hI (fun m t u p=>ki V.D V.M (F:=g.heap.size+1) (by omega) (by omega) (A.out _ (by omega)) m t u p);clear m t u p a4 a5;go_wp2
   exact QY (v:=.agg #[.int .i64 q,.string n,.int .i64 (aP s E),.int .i64 (bm s E)]) (by simp[results,results205,go_sem,Q,P,N,K]) rfl
    ⟨by rw[i.out,qQ,hq.out],z,by rw[i.out];exact(a.out _ _ _ _).1,(a.out _ _ _ _).2,by
     rw[i.out];intro C
     exfalso
     simp only[iK]at C
     cases f1
     ·simp at x C;exact x C
     ·simp at C⟩
  ·have b2:u1=0:=by simp at x;exact x.1
   have bo:f1=false:=by simp at x;exact x.2
   subst b2 bo
   cases S:dA U
   ·have b0:w4.cell? ⟨D,0,none⟩=some (.pointer (some ⟨d,0,none⟩)):=J.D.preCell 0 (by simp[dM])
    rcases bj with ai | ⟨j,hj,Z⟩
    ·have i:Hid (mX (cn w H) w T l ⟨n,v,c⟩ f b=(((6,kK n s E),f,b),l)):=by
      show _=_;rw[I.out,B.out];simp[aI,S,ai]
     clear I B
     go_upto_region 8 with (go_at_call 231;refine(dV U _ (by omega)).mono ?_;rintro e w5 ⟨rfl,rfl⟩)
     go_quiet ((go_at_call 50;exact Rd (lN d M w L U _ (J.Vb ((ab.refl [] _).drewN _)).TB)))
     have V:=J.Vb ((ab.refl [] _).drewN nq);rw[ai];obtain⟨Q,P,N,K⟩:=b8 J.F;have y:=am J.F;have a:=hI (fun m t u p=>ki V.D V.M (F:=g.heap.size+1) (by omega) (by omega) (A.out _ (by omega)) m t u p);go_wp2
     exact QY (v:=.agg #[.int .i64 6,.string n,.int .i64 (aP s E),.int .i64 (bm s E)]) (by simp[results,results205,go_sem,Q,P,N,K]) rfl
      ⟨by rw[i.out];rfl,z,by rw[i.out];exact(a.out _ _ _ _).1,(a.out _ _ _ _).2,by rw[i.out];intro C;cases C⟩
    ·go_upto_region 8 with (go_at_call 231;refine(dV U _ (by omega)).mono ?_;rintro e w5 ⟨rfl,rfl⟩)
     go_quiet ((go_at_call 50;exact Rd (lN d M w L U _ (J.Vb ((ab.refl [] _).drewN _)).TB)))
     rw[Z];have V:=J.Vb ((ab.refl [] _).drewN nq);go_wp2_with fail;refine(sV o z1 n s _ hs az.2.1 V.SC).mono ?_;rintro e w6 ⟨rfl,ad,bl⟩;rw[hr2]at ad ⊢;simp only[fg]at ad ⊢;have S6:=V.next bl ad X a6 ao al;obtain⟨W7,ac⟩:∃W7,W7=w6.alloc (.cells #[.string t2,.int .i64 u2,.bool f2,.string n,.int .i64 (aP s O),.int .i64 (bm s O)] 255):=⟨_,rfl⟩
     have bd:=hI ac.symm;have S7:rS g W7 D d M o z2 w L f b z n s:=by rw[ac];exact S6.Vb ((ab.refl [] _).alloc _)
     have I7:jx W7 w6.heap.size n s ⟨t2,u2,f2,O⟩:=by rw[ac];exact QS _ _
     clear ac J V S6 ad bl I4 m t u p a4 a5 b0
     go_upto_region 12 with fail
     rw[bd.out];clear bd;obtain⟨m,t,u,p,a4,a5⟩:=I7.cells;go_wp2_with fail;refine(cK t2 n u2 (aP s O) (bm s O) f2 _).mono ?_;rintro e w8 ⟨rfl,an⟩;have Y:=S7.Vb an;have I8:=I7.kept an (by simp);clear m t u p a4 a5 S7 I7 an;obtain⟨m,t,u,p,a4,a5⟩:=I8.cells;have b6:=ae I8;have aT:=ae Y.F;have ax:¬((j:Int)<0):=by omega
     cases G:(u2==0 && !f2)
     ·have i:Hid (mX (cn w H) w T l ⟨n,v,c⟩ f b=((iK n s ⟨t2,u2,f2,O⟩,f,b),l)):=by
       show _=_;rw[I.out,B.out,Z];simp[aI,S,G,ax]
      clear I B;go_wp2_with fail;refine(na t2 n u2 (aP s O) (bm s O) f2 _).mono ?_;rintro e w9 ⟨rfl,bz⟩;obtain⟨q,hq⟩:∃q:Int,Hid ((if f2=true then(7:Int) else u2)=q):=⟨_,rfl⟩
      rw[hq.out];have S9:=Y.Vb bz;obtain⟨Q,P,N,K⟩:=b8 S9.F;have y:=am S9.F;have a:=hI (fun m t u p=>ki S9.D S9.M (F:=g.heap.size+1) (by omega) (by omega) (A.out _ (by omega)) m t u p);clear m t u p a4 a5;go_wp2
      exact QY (v:=.agg #[.int .i64 q,.string n,.int .i64 (aP s O),.int .i64 (bm s O)]) (by simp[results,results205,go_sem,Q,P,N,K]) rfl
       ⟨by rw[i.out,qQ,hq.out],z,by rw[i.out];exact(a.out _ _ _ _).1,(a.out _ _ _ _).2,by
        rw[i.out];intro C
        exfalso
        simp only[iK]at C
        cases f2
        ·simp at G C;exact G C
        ·simp at C⟩
     ·have bx:u2=0:=by simp at G;exact G.1
      have bv:f2=false:=by simp at G;exact G.2
      subst bx bv
      cases bk:(t2.toList == [36,93])
      ·have i:Hid (mX (cn w H) w T l ⟨n,v,c⟩ f b=(((5,kK n s O),f,b),l)):=by
        show _=_;rw[I.out,B.out,Z];simp[aI,S,bk,ax]
       clear I B;obtain⟨Q,P,N,K⟩:=b8 Y.F;have y:=am Y.F;have a:=hI (fun m t u p=>ki Y.D Y.M (F:=g.heap.size+1) (by omega) (by omega) (A.out _ (by omega)) m t u p);go_wp2
       exact QY (v:=.agg #[.int .i64 5,.string n,.int .i64 (aP s O),.int .i64 (bm s O)]) (by simp[results,results205,go_sem,Q,P,N,K]) rfl
        ⟨by rw[i.out];rfl,z,by rw[i.out];exact(a.out _ _ _ _).1,(a.out _ _ _ _).2,by rw[i.out];intro C;cases C⟩
      ·have i:Hid (mX (cn w H) w T l ⟨n,v,c⟩ f b=(cn w H j f b,z2)):=by
        show _=_;rw[I.out,B.out,Z];simp[aI,S,bk,ax]
       clear I B;have RJ:=RF.out j w8 hj Y.D Y.TB;unfold jD at RJ;have ba:=hI RJ;clear RJ RF;generalize cn w H j f b=R at *;obtain⟨⟨r,pf,pl,pc⟩,b5,d'⟩:=R;simp only[gU]at ba;go_wp2_with fail;refine QU ba.out ?_;rintro e w9 ⟨rfl,H9,D9,T9⟩;have F9:=T9.1.get Y.F (by rintro (e | e);omega;exact A.out _ (by omega) e);have bT:bV w9 o n s z2:=T9.1.get Y.SC (by rintro (e | e);exact X e;exact ao e);obtain⟨Q,P,N,K⟩:=b8 F9;have y:=am F9;have a:=hI (fun m t u p=>ki D9 (Y.M.trans (T9.Vg o)) (F:=g.heap.size+1) (by omega) (by omega) (T9.fresh _ aT (A.out _ (by omega))) m t u p);have br:=hI (fun m t u p=>bT.kept (ji (r:=g.heap.size+1) m t u p) (by simp;omega));clear m t u p a4 a5;go_wp2
       exact QY (v:=.agg #[.int .i64 r,.string pf,.int .i64 pl,.int .i64 pc]) (by simp[results,results205,go_sem,Q,P,N,K]) rfl
        ⟨by rw[i.out];rfl,H9,by rw[i.out];exact(a.out _ _ _ _).1,(a.out _ _ _ _).2,by rw[i.out];exact fun _=>br.out _ _ _ _⟩
   ·have i:Hid (mX (cn w H) w T l ⟨n,v,c⟩ f b=(((5,kK n s E),f,b),l)):=by
     show _=_;rw[I.out,B.out];simp[aI,S]
    clear I B;obtain⟨Q,P,N,K⟩:=b8 J.F;have y:=am J.F;have a:=hI (fun m t u p=>ki J.D J.M (F:=g.heap.size+1) (by omega) (by omega) (A.out _ (by omega)) m t u p);go_wp2_with (go_at_call 231;refine(dV U _ (by omega)).mono ?_;rintro e w5 ⟨rfl,rfl⟩)
    exact QY (v:=.agg #[.int .i64 5,.string n,.int .i64 (aP s E),.int .i64 (bm s E)]) (by simp[results,results205,go_sem,Q,P,N,K]) rfl
     ⟨by rw[i.out];rfl,z,by rw[i.out];exact(a.out _ _ _ _).1,(a.out _ _ _ _).2,by rw[i.out];intro C;cases C⟩
 ·have i:Hid (mX (cn w H) w T l ⟨n,v,c⟩ f b=(((4,⟨n,v,c⟩),f,b),l)):=by
   show _=_;rw[I.out,B.out,ho];simp
  clear I B;have i0:W.cell? ⟨g.heap.size,0,none⟩=some (.string n):=by rw[aa hP];rfl
  have i1:W.cell? ⟨g.heap.size,1,none⟩=some (.int .i64 v):=by rw[aa hP];rfl
  have i2:W.cell? ⟨g.heap.size,2,none⟩=some (.int .i64 c):=by rw[aa hP];rfl
  obtain⟨Q,P,N,K⟩:=b8 hF;have y:=am hF;have a:=hI (fun m t u p=>ki aS MK.out (F:=g.heap.size+1) (by omega) (by omega) (A.out _ (by omega)) m t u p);go_enter func205,ntmps205
  go_upto_region 1 with fail
  rw[HW.out];go_wp2_with fail;refine(sX D 200 5 (dM d f) [] b z _ aS (jl d f be)).mono ?_;rintro e w1 ⟨rfl,x⟩;subst x;rw[ho];go_wp2
  exact QY (v:=.agg #[.int .i64 4,.string n,.int .i64 v,.int .i64 c]) (by simp[results,results205,go_sem,Q,P,N,K]) rfl
   ⟨by rw[i.out];rfl,z,by rw[i.out];exact(a.out _ _ _ _).1,(a.out _ _ _ _).2,by rw[i.out];intro C;cases C⟩
theorem Aw(z:f.length=4)(b:Db)(i:Nat->Hd)(n s t:ByteArray)(a c:Int)(g:World)(h:aR g D 200 (dM d f) [] b i)(hn:aE w T=n)(ad:ak w T=s)(hs:s.size<=1024)(hz:l<=s.size)(q:bV g o n s l)(ht:bi g d M w L)(m:o≠D)(S:d≠o)(A:¬f9 i o)(V:fK b 10000000)(O:t.size<=1073741824)(Y:AY b 100000000)(RF:Hid (∀(j:Nat) (p:World),j<w.length->aR p D 200 (dM d f) [] b i->bi p d M w L->jD D d w H j f b i p)) :
  Calls prog 157 #[.pointer (some ⟨D,0,none⟩),.pointer (some ⟨o,0,none⟩),.agg #[.string t,.int .i64 0,.bool false,.string n,.int .i64 a,.int .i64 c]] g fun e p =>
   e=.returned (gU (jN (cn w H) w T l t ⟨n,a,c⟩ f b).1.1)/\∃G,aR p D 200 (dM d (jN (cn w H) w T l t ⟨n,a,c⟩ f b).1.2.1) [] (jN (cn w H) w T l t ⟨n,a,c⟩ f b).1.2.2 G/\fJ D o g i p G /\
    (((jN (cn w H) w T l t ⟨n,a,c⟩ f b).1.1.1==0)=true->bV p o n s (jN (cn w H) w T l t ⟨n,a,c⟩ f b).2):=by
 cases Z:(t.toList == [36,91])
 ·have I:jN (cn w H) w T l t ⟨n,a,c⟩ f b=((if((aX b t ⟨n,a,c⟩).1==0)=true then cY else((aX b t ⟨n,a,c⟩).1,⟨n,a,c⟩),f,(aX b t ⟨n,a,c⟩).2),l):=by
   unfold jN;rw[Z];simp
  rw[I];refine(ue D 200 d f z b i _ t n a c g h V O Y Z).mono ?_;rintro e p ⟨rfl,G,D',T'⟩;exact⟨rfl,G,D',T'.Vg o,fun _=>T'.1.get q (by rintro (e | e);exact m e;exact A e)⟩
 ·have I:jN (cn w H) w T l t ⟨n,a,c⟩ f b=mX (cn w H) w T l ⟨n,a,c⟩ f b:=by
   unfold jN;rw[Z];simp
  rw[I];obtain⟨W,E⟩:∃W,W=((g.alloc (.cells #[.string t,.int .i64 0,.bool false,.string n,.int .i64 a,.int .i64 c] 255)).alloc (.cells #[.int .i64 0,.string ⟨#[]⟩,.int .i64 0,.int .i64 0] 87)):=⟨_,rfl⟩
  have J:ab [] g W:=by rw[E];exact((ab.refl [] g).alloc _).alloc _
  have ag:=h.lt;have af:=ae q
  have hI:W.heap[g.heap.size]?=some (.cells #[.string t,.int .i64 0,.bool false,.string n,.int .i64 a,.int .i64 c] 255 (0,0)):=by
   rw[E];exact((ab.refl [] _).alloc _).get (QS _ _) (by simp)
  have hF:W.heap[g.heap.size+1]?=some (.cells bA 87 (0,0)):=by
   rw[E];have:=QS (g.alloc (.cells #[.string t,.int .i64 0,.bool false,.string n,.int .i64 a,.int .i64 c] 255)) (.cells #[.int .i64 0,.string ⟨#[]⟩,.int .i64 0,.int .i64 0] 87);simpa [bA] using this
  have i0:W.cell? ⟨g.heap.size,0,none⟩=some (.string t):=by rw[aa hI];rfl
  have i3:W.cell? ⟨g.heap.size,3,none⟩=some (.string n):=by rw[aa hI];rfl
  have i4:W.cell? ⟨g.heap.size,4,none⟩=some (.int .i64 a):=by rw[aa hI];rfl
  have i5:W.cell? ⟨g.heap.size,5,none⟩=some (.int .i64 c):=by rw[aa hI];rfl
  have IC:=Cd D d M o H T l w L f z b i n s a c W (h.Vb J) hn ad hs hz (q.kept J (by simp)) (ht.kept J (by simp)) m S A RF;have v:=hI IC;have C:Hid (∀k,g.heap.size<=k->¬f9 i k):=fun k hk hm=>by have:=h.inlt hm;omega
  have HW:=hI E.symm;have Q:=ae hF;clear E IC RF I h;generalize mX (cn w H) w T l ⟨n,a,c⟩ f b=R at *;obtain⟨⟨⟨r,pf,pl,pc⟩,ai,d'⟩,z'⟩:=R;simp only[gU]at v ⊢;go_enter func157,ntmps157
  go_upto_region 1 with fail
  rw[HW.out];go_wp2_with fail;refine QU v.out ?_;rintro e w2 ⟨rfl,H2,D2,N,B⟩;have u:=N.1.get hF (by rintro (e | e | e);omega;omega;exact C.out _ (by omega) e);obtain⟨j0,j1,j2,j3⟩:=b8 u;have y:=am u;have x:=hI (fun U P K a3=>ki D2 (N.first J) (F:=g.heap.size+1) (by omega) (by omega) (N.fresh _ Q (C.out _ (by omega))) U P K a3);have ac:=hI (fun U P K a3 X=>(B X).kept (ji (r:=g.heap.size+1) U P K a3) (by simp;omega));clear B i0 i3 i4 i5;go_wp2
  exact QY (v:=.agg #[.int .i64 r,.string pf,.int .i64 pl,.int .i64 pc]) (by simp[results,results157,go_sem,j0,j1,j2,j3]) rfl
   ⟨rfl,H2,(x.out _ _ _ _).1,(x.out _ _ _ _).2,fun X=>ac.out _ _ _ _ X⟩
theorem Cv :
  Calls prog 153 #[.agg #[.string y,.string z4]] y0 fun e a=>∃s,e=.returned (.pointer (some ⟨s,0,none⟩))/\y0.heap.size<=s/\bV a s y z4 0/\ab [] y0 a:=by
 go_enter func153,ntmps153;go_wp2;go_ret;refine⟨y0.heap.size+1,rfl,by omega,?_,((ab.refl _ _).alloc _).alloc _⟩;have:=QS (y0.alloc (.cells #[.string y,.string z4] 68)) (.cells #[.string y,.string z4,.int .i64 0,.int .i64 1,.int .i64 1] 300);simpa [bV,mw,aP,bm] using this
theorem aA.beyond(T:aA n x i I g)(k:ab ya I zb)(d:∀b,b∈ya->x.heap.size<=b):aA n x i zb g :=
 ⟨⟨k.os.trans T.1.os,k.tape.trans T.1.tape,k.output.trans T.1.output,Q3 T.1.size k.size,fun a c f=>by
  rw[<-T.1.block a c f];exact k.block a (QX c T.1.size) (fun e=>by have:=d a e;omega)⟩,T.2⟩
theorem aA.word(T:aA n x i I g)(M:fJ n N I g zb yg)(d:x.heap.size<=N):aA n x i zb yg:=by
 refine⟨⟨M.1.os.trans T.1.os,M.1.tape.trans T.1.tape,M.1.output.trans T.1.output,Q3 T.1.size M.1.size,?_⟩,?_⟩
 ·intro k a b
  rw[<-T.1.block k a b];refine M.1.block k (QX a T.1.size) ?_;rintro (e | e | c)
  ·exact b (Q1 e)
  ·omega
  ·rcases T.2 k c with h | h
   ·exact b (QV h)
   ·omega
 ·intro k a
  rcases M.2 k a with h | h
  ·exact T.2 k h
  ·exact QV (Q3 T.1.size h)
theorem Jj:(dM l f).set (1+z7) (.bool true)=dM l (f.set z7 true):=by
 unfold dM;rw[Nat.add_comm 1 z7,SB,Tn]
theorem CK(h:f.length=4)(a:z7<4):(dM l f)[1+z7]?=some (.bool (f.getD z7 true)):=by
 unfold dM;rw[Nat.add_comm 1 z7,SE,Rq,QQ];rw[QP (by omega)];rfl
theorem wS(a:f.length=4)(d:Db)(b:Nat->Hd)(c:World)(i:l<4)(h:aR c o 200 (dM H f) [] d b)(e:f.getD l true=true):jD o H w T l f d b c:=by
 unfold jD cn;rw[QW e];have j:=h.lt;have g:=h.preCell (1+l) (by rw[jl H f a];omega);rw[CK H f l a i,e]at g;have m:Hid (¬f9 b c.heap.size):=fun k=>by have:=h.inlt k;omega
 go_enter func111,ntmps111;go_wp2
 exact QY (v:=.agg #[.int .i64 0,.string ⟨#[]⟩,.int .i64 0,.int .i64 0]) (by simp[results,results111,go_sem]) rfl
  ⟨rfl,b,h.Vb ((ab.refl [] _).alloc _),(aA.refl _ _ _).Vb ((ab.refl [] _).alloc _)⟩
theorem xP(cu:∀j,j<w.length->(ak w j).size<=1024)(bw:H≠o)(IH:∀g,g<l->∀(j:Nat) (B:List Bool) (d:Db) (I:Nat->Hd) (f:World) (m:Nat),j<w.length->B.length=4->nE d m->m+dP w B<=9000000->dP w B<=g->aR f o 200 (dM H B) [] d I->bi f H T w L->¬f9 I H->jD o H w g j B d I f)(j:Nat)(B:List Bool)(d:Db)(I:Nat->Hd)(f:World)(m:Nat)(hj:j<w.length)(ap:B.length=4)(hB:nE d m)(hm:m+dP w B<=9000000)(hf:dP w B<=l)(h:aR f o 200 (dM H B) [] d I)(ht:bi f H T w L)(bp:¬f9 I H)(hb:B.getD j true=false):jD o H w l j B d I f:=by
 unfold jD cn;rw[QT (by rw[hb];simp)];have cz:=ht.2;have hs:=cu j hj;have br:=wG w B j ap hb;obtain⟨n,hn⟩:∃n,aE w j=n:=⟨_,rfl⟩
 obtain⟨s,U⟩:∃s,ak w j=s:=⟨_,rfl⟩
 rw[U]at hs br;have cE:=h.lt;have cb:=h.free;have c3:=ht.lt;have c1:=h.preCell (1+j) (by rw[jl H B ap];omega);rw[CK H B j ap (by omega),hb]at c1;have c0:=h.preCell 0 (by simp[dM]);have ch:f.cell? ⟨o,0,none⟩=some (.pointer (some ⟨H,0,none⟩)):=c0;clear c0;have P1:=h.pre (1+j) (by rw[jl H B ap];omega) (.bool true);rw[Jj]at P1;obtain⟨i,ag⟩:∃i,B.set j true=i:=⟨_,rfl⟩
 have b2:i.length=4:=by rw[<-ag];simpa using ap
 rw[ag]at P1 br ⊢;clear ag;obtain⟨W,hW⟩:∃W,W=(f.setCell ⟨o,1+j,none⟩ (.bool true)).alloc (.cells #[.int .i64 0,.string ⟨#[]⟩,.int .i64 0,.int .i64 0] 87):=⟨_,rfl⟩
 have D1:aR W o 200 (dM H i) [] d I:=by rw[hW];exact P1.1.Vb ((ab.refl [] _).alloc _)
 have T1:aA o f I W I:=by rw[hW];exact P1.2.Vb ((ab.refl [] _).alloc _)
 have F1:W.heap[f.heap.size]?=some (.cells bA 87 (0,0)):=by
  rw[hW];have:=QS (f.setCell ⟨o,1+j,none⟩ (.bool true)) (.cells bA 87);simpa [World.setCell,bA] using this
 have a6:bi W H T w L:=⟨T1.1.get ht.1 (by rintro (e | e);exact bw e;exact bp e),ht.2⟩;have ax:Hid (∀k,f.heap.size<=k->¬f9 I k):=fun k hk hm=>by have:=h.inlt hm;omega
 have HW:=hI hW.symm;have cf:=hI IH;clear P1 hW IH;go_enter func111,ntmps111;go_wp2_with fail;rw[HW.out];clear HW c1 ch cb ht h;refine(Lf H T j w L _ a6 hj).mono ?_;rintro e w2 ⟨rfl,Y⟩;rw[hn,U];go_wp2_with fail;refine(Cv n s _).mono ?_;rintro e w3 ⟨sp,rfl,cX,h3,V⟩;go_wp2_with fail;refine(sV sp 0 n s _ hs (by omega) h3).mono ?_;rintro e w4 ⟨rfl,h4,ac⟩;have cL:=ae F1;have c4:=Y.size;have cP:=V.size;have c5:=ac.size;have cB:f.heap.size<sp:=by omega
 have bo:sp≠o:=by omega
 have bk:H≠sp:=by omega
 have T4:aA o f I w4 I:=(((T1.Vb Y).Vb V).beyond ac (by simp;omega));have F4:w4.heap[f.heap.size]?=some (.cells bA 87 (0,0)):=ac.get (V.get (Y.get F1 (by simp)) (by simp)) (by simp;omega);have D4:aR w4 o 200 (dM H i) [] d I:=((D1.Vb Y).Vb V).kept ac (by simp;omega) (by intro k hk;simp;rintro rfl;exact ax.out _ (by omega) hk);have bf:bi w4 H T w L:=((a6.kept Y (by simp)).kept V (by simp)).kept ac (by simp;omega);have cA:=ae h4;clear D1 T1 F1 a6 Y V ac h3;simp only[fg];go_wp2
 go_loopg [7] s.size (fun gk _ wr=>∃(k g m1:Nat) (b:List Bool) (x:Db) (O:Nat->Hd),k<=s.size/\gk=s.size-k/\b.length=4/\nE x m1/\m1+(s.size-k)+dP w b<=9000000/\(s.size-k)+dP w b+1<=g/\g<=l /\
  Hid (bq w l j 0 i d=bq w g j k b x)/\bV wr sp n s (ay s k).2/\jx wr w4.heap.size n s (ay s k).1 /\
  wr.heap[f.heap.size]?=some (.cells bA 87 (0,0))/\aR wr o 200 (dM H b) [] x O/\bi wr H T w L/\aA o f I wr O/\(¬f9 O sp/\¬f9 O w4.heap.size/\¬f9 O f.heap.size/\¬f9 O H))
 case atStart=>exact⟨0,l,m,i,d,I,by omega,by omega,b2,hB,by omega,by omega,QR _,rfl,h4.kept ((ab.refl [] _).alloc _) (by simp),QS _ _,((ab.refl [] _).alloc _).get F4 (by simp),D4.Vb ((ab.refl [] _).alloc _),bf.kept ((ab.refl [] _).alloc _) (by simp),T4.Vb ((ab.refl [] _).alloc _),ax.out _ (by omega),ax.out _ (by omega),ax.out _ (by omega),bp⟩
 case round =>
  obtain⟨k,g,m1,b,x,O,hk,hg,an,az,cH,cV,cR,hR,h5,hI,hF,D,TB,ar,bz,bj,J,bd⟩:=hrel;obtain⟨K,rfl⟩:∃K,g=K+1:=⟨g-1,by omega⟩
  clear D4 T4 F4 bf h4;have bs:=fG s k hk;have b3:=rF s k hs;have SK:=C7 w K (Ll w K).2 j k b x m1 (by rw[U];exact hk) an az;have L1:=yD w K j k b x;have L2:=ox w K j k b x;have L3:=zW w K j k b x;have L4:=wk w K j k b x;have ST:fZ w K j k b x=jN (cn w K) w j (ay s k).2 (ay s k).1.text (kK n s (ay s k).1.pos) b x:=by unfold fZ;rw[hn,U]
  rw[U]at SK L1 L2 L3 L4;rw[hn]at L4;rw[ST]at SK L1 L2;have L6:aI (ay s k).1=false->(ay s k).1.fin=false->((ay s k).1.rule==0)=false:=km;have S:=hI SK;have P:=hI L1;have ad:=hI L2;have X:=hI L3;have M:=hI L4;have ao:=hI L6;clear SK L1 L2 L3 L4 L6 ST;generalize hrr:ay s k=r at *;obtain⟨⟨t,u,fi,p⟩,z⟩:=r;clear hrr;simp only at h5 hI bs b3 S P ad X M ao;obtain⟨Z,q1,q2,R,q4,q5⟩:=hI.cells;have cT:=ae hF;have cF:=ae h5;have c6:=ae hI;have c2:=D.lt
  cases hw:(u==0 && !fi)
  ·cases fi
   ·have HF:Hid (bq w l j 0 i d=(iK n s ⟨t,u,false,p⟩,b,x)):=hR.out.trans (M.out hw (by simp))
    have hu:(u==0)=false:=by simpa using hw
    clear P ad X M ao S;go_wp2_with fail;refine(cK t n _ (aP s p) (bm s p) _ _).mono ?_;rintro e w5 ⟨rfl,a⟩;have q:=hI.kept a (by simp);have c:=a.get hF (by simp);have D5:=D.Vb a;have T5:=ar.Vb a;clear Z q1 q2 R q4 q5 hI h5 hF D ar a TB;obtain⟨Z,q1,q2,R,q4,q5⟩:=q.cells;go_wp2_with fail;refine(na t n u (aP s p) (bm s p) _ _).mono ?_;rintro e w6 ⟨rfl,be⟩;simp only[Bool.false_eq_true,if_false];have A:=be.get c (by simp);have D6:=D5.Vb be;have T6:=T5.Vb be;have v:=hI (fun a0 a1 a2 a3=>nN D6 T6 (F:=f.heap.size) (QR _) (by omega) J a0 a1 a2 a3);obtain⟨z0,z1,z2,z3⟩:=b8 A;have y:=am A;go_wp2
    exact QY (v:=.agg #[.int .i64 u,.string n,.int .i64 (aP s p),.int .i64 (bm s p)]) (by simp[results,results111,go_sem,z0,z1,z2,z3]) rfl
     ⟨by rw[HF.out];rfl,O,by rw[HF.out];exact(v.out _ _ _ _).1,(v.out _ _ _ _).2⟩
   ·cases ho:kp x
    ·have HF:Hid (bq w l j 0 i d=(cY,b,x)):=hR.out.trans (X.out hw rfl ho)
     clear P ad X M ao S;go_wp2_with fail;refine(cK t n _ (aP s p) (bm s p) _ _).mono ?_;rintro e w5 ⟨rfl,a⟩;have q:=hI.kept a (by simp);have c:=a.get hF (by simp);have D5:=D.Vb a;have T5:=ar.Vb a;clear Z q1 q2 R q4 q5 hI h5 hF D ar a TB;obtain⟨Z,q1,q2,R,q4,q5⟩:=q.cells;go_wp2_with fail;refine(sX o 200 5 (dM H b) [] x O _ D5 (jl H b an)).mono ?_;rintro e w6 ⟨rfl,ba⟩;subst ba;rw[ho];have v:=hI (fun a0 a1 a2 a3=>nN D5 T5 (F:=f.heap.size) (QR _) (by omega) J a0 a1 a2 a3);obtain⟨z0,z1,z2,z3⟩:=b8 c;have y:=am c;go_wp2
     exact QY (v:=.agg #[.int .i64 0,.string ⟨#[]⟩,.int .i64 0,.int .i64 0]) (by simp[results,results111,go_sem,z0,z1,z2,z3]) rfl
      ⟨by rw[HF.out];rfl,O,by rw[HF.out];exact(v.out _ _ _ _).1,(v.out _ _ _ _).2⟩
    ·have HF:Hid (bq w l j 0 i d=(iK n s ⟨t,u,true,p⟩,b,x)):=hR.out.trans (M.out hw (by simp[ho]))
     clear P ad X M ao S;go_wp2_with fail;refine(cK t n _ (aP s p) (bm s p) _ _).mono ?_;rintro e w5 ⟨rfl,a⟩;have q:=hI.kept a (by simp);have c:=a.get hF (by simp);have D5:=D.Vb a;have T5:=ar.Vb a;clear Z q1 q2 R q4 q5 hI h5 hF D ar a TB;obtain⟨Z,q1,q2,R,q4,q5⟩:=q.cells;go_wp2_with fail;refine(sX o 200 5 (dM H b) [] x O _ D5 (jl H b an)).mono ?_;rintro e w6 ⟨rfl,ba⟩;subst ba;rw[ho];go_wp2_with fail;refine(na t n u (aP s p) (bm s p) _ _).mono ?_;rintro e w7 ⟨rfl,a7⟩;simp only[if_true];have bv:=a7.get c (by simp);have D7:=D5.Vb a7;have T7:=T5.Vb a7;have v:=hI (fun a0 a1 a2 a3=>nN D7 T7 (F:=f.heap.size) (QR _) (by omega) J a0 a1 a2 a3);obtain⟨z0,z1,z2,z3⟩:=b8 bv;have y:=am bv;go_wp2
     exact QY (v:=.agg #[.int .i64 7,.string n,.int .i64 (aP s p),.int .i64 (bm s p)]) (by simp[results,results111,go_sem,z0,z1,z2,z3]) rfl
      ⟨by rw[HF.out];rfl,O,by rw[HF.out];exact(v.out _ _ _ _).1,(v.out _ _ _ _).2⟩
  ·have hu:u=0:=by simp at hw;exact hw.1
   have cs:fi=false:=by simp at hw;exact hw.2
   subst hu cs;have ca:=az.small (N:=10000000) (by omega);have bx:=(az.small (N:=100000000) (by omega)).2
   have RW:=fun(w':World) (h':aR w' o 200 (dM H b) [] x O) (co:bV w' sp n s z) (ck:bi w' H T w L)=>Aw o H T sp K j z w L b an x O n s t (aP s p) (bm s p) w' h' hn U hs bs.2.1 co ck bo bk bz ca.1 (by omega) bx
    (fun jj ww cj b5 b4=>cf.out K (by omega) jj b x O ww m1 cj an az (by omega) (by omega) b5 b4 bd)
   have bc:=hI RW;have E:=hI (S.out hw);have C:=hI (P.out hw);have G:=hI (ad.out hw);clear RW P ad X M ao S;simp only[kK]at E C G;generalize jN (cn w K) w j z t ⟨n,aP s p,bm s p⟩ b x=Q at *;obtain⟨⟨⟨r,pf,pl,pc⟩,a5,d2⟩,z2⟩:=Q;simp only[gU]at E C G bc;have al:=E.out.2;obtain⟨bl,cc,m2,bT,cq⟩:=E.out.1;simp only at bl cc bT cq al;clear E
   cases hr:(r==0)
   ·have cp:(r != 0)=true:=by simp[bne,hr]
    have HF:Hid (bq w l j 0 i d=((r,⟨pf,pl,pc⟩),a5,d2)):=hR.out.trans (G.out hr);clear C G;go_wp2_with fail;refine(cK t n _ (aP s p) (bm s p) _ _).mono ?_;rintro e w5 ⟨rfl,a⟩;have q:=hI.kept a (by simp);have aT:=h5.kept a (by simp);have c:=a.get hF (by simp);have D5:=D.Vb a;have T5:=ar.Vb a;have af:=TB.kept a (by simp);clear Z q1 q2 R q4 q5 hI h5 hF D ar TB a;obtain⟨Z,q1,q2,R,q4,q5⟩:=q.cells;go_wp2_with fail;refine(bc.out _ D5 aT af).mono ?_;rintro e w6 ⟨rfl,H2,D6,M6,-⟩;have A:=M6.1.get c (by rintro (e | e | e);omega;omega;exact J e);have m3:=M6.fresh f.heap.size (ae c) J;have T7:=T5.word M6 (by omega);have a4:=ae A;have y6:=am A;obtain⟨z0,z1,z2,z3⟩:=b8 A;have v:=hI (fun a0 a1 a2 a3=>nN D6 T7 (F:=f.heap.size) (QR _) (by omega) m3 a0 a1 a2 a3);clear Z q1 q2 R q4 q5;go_wp2
    exact QY (v:=.agg #[.int .i64 r,.string pf,.int .i64 pl,.int .i64 pc]) (by simp[results,results111,go_sem,a4,z0,z1,z2,z3]) rfl
     ⟨by rw[HF.out];rfl,H2,by rw[HF.out];exact(v.out _ _ _ _).1.Vb ((ab.refl [] _).alloc _),((v.out _ _ _ _).2.Vb ((ab.refl [] _).alloc _))⟩
   ·have cp:(r != 0)=false:=by simp[bne,hr]
    have HF:Hid (bq w l j 0 i d=bq w K j z2 a5 d2):=hR.out.trans (C.out hr);clear C G;go_wp2_with fail;refine(cK t n _ (aP s p) (bm s p) _ _).mono ?_;rintro e w5 ⟨rfl,a⟩;have q:=hI.kept a (by simp);have aT:=h5.kept a (by simp);have c:=a.get hF (by simp);have D5:=D.Vb a;have T5:=ar.Vb a;have af:=TB.kept a (by simp);clear Z q1 q2 R q4 q5 hI h5 hF D ar TB a;obtain⟨Z,q1,q2,R,q4,q5⟩:=q.cells;go_wp2_with fail;refine(bc.out _ D5 aT af).mono ?_;rintro e w6 ⟨rfl,H2,D6,M6,cl⟩;have h6:=cl hr;have A:=M6.1.get c (by rintro (e | e | e);omega;omega;exact J e);have b0:jx w6 w4.heap.size n s ⟨t,0,false,p⟩:=M6.1.get q (by rintro (e | e | e);omega;omega;exact bj e);have ct:bi w6 H T w L:=⟨M6.1.get af.1 (by rintro (e | e | e);exact bw e;exact bk e;exact bd e),af.2⟩;have e1:=M6.fresh sp (ae aT) bz;have e2:=M6.fresh w4.heap.size (ae q) bj;have e3:=M6.fresh f.heap.size (ae c) J;have e4:=M6.fresh H af.lt bd;have T7:=T5.word M6 (by omega);have a4:=ae A;have cy:=ae b0;have cS:=ae h6;go_wp2_with fail;refine(sV sp z2 n s _ hs al.2 (by exact h6.kept ((ab.refl [] _).alloc _) (by simp))).mono ?_;rintro e w8 ⟨rfl,h8,ai⟩;have aS:=(b0.kept ((ab.refl [] _).alloc _) (by simp)).kept ai (by simp;omega);have b1:=ai.get (((ab.refl [] _).alloc _).get A (by simp)) (by simp;omega);have D8:=(D6.Vb ((ab.refl [] _).alloc _)).kept ai (by simp;omega) (by intro k hk;simp;rintro rfl;exact e1 hk);have b6:=(ct.kept ((ab.refl [] _).alloc _) (by simp)).kept ai (by simp;omega);have T8:=(T7.Vb ((ab.refl [] _).alloc _)).beyond ai (by simp;omega);have yy:=am aS;have cx:=ae aS;clear Z q1 q2 R q4 q5;obtain⟨Z,q1,q2,R,q4,q5⟩:=aS.cells;simp only[fg];go_wp2
    go_roundg (s.size-z2)
    case measure=>omega
    case rel =>
     exact⟨z2,K,m2,a5,d2,H2,al.2,rfl,bl,bT,by omega,by omega,by omega,HF.out,gQ h8 (by omega) _ _ _ _ _ _,pJ aS _,uj b1 (by omega) _ _ _ _ _ _,
      D8.kept (Fc _ _ _ _ _ _) (by simp;omega) (by intro k hk;simp;rintro rfl;exact e2 hk),b6.kept (Fc _ _ _ _ _ _) (by simp;omega),T8.beyond (Fc _ _ _ _ _ _) (by simp;omega),e1,e2,e3,e4⟩
theorem Av(k:∀j,j<w.length->(ak w j).size<=1024)(i:T≠H)(f:Nat):∀(j:Nat) (a:List Bool) (d:Db) (b:Nat->Hd) (c:World) (m:Nat),j<w.length->a.length=4->nE d m->m+dP w a<=9000000->dP w a<=f->aR c H 200 (dM T a) [] d b->bi c T l w L->¬f9 b T->jD H T w f j a d b c:=by
 induction f using Nat.strongRecOn with
 | _ f IH =>
  intro j a d b c m p e r q s h o g
  cases n:a.getD j true with
  | true=>exact wS H T f j w a e d b c (by have:=o.2;omega) h n
  | false=>exact xP H T l f w L k i IH j a d b c m p e r q s h o g n
end Go.Proofs.YtpddjjabfbfifaaGreat
