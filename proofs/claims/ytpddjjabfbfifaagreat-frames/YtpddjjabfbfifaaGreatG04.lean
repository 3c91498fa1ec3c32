import Derived.Deep.RegionHeld3
import Derived.BigQuiet
import Derived.Test.YtpddjjabfbfifaaGreatG03
namespace Go.Proofs.YtpddjjabfbfifaaGreat
open Go.RowKit Tryz
set_option maxRecDepth 100000
set_option maxHeartbeats 40000000
variable{x I zb:World}{n N y9 y7 yt:Nat}{y1 y5:List Value}{v:Db}{i g yg:Nat->Hd}{y8:Option Nat}{ya:List Nat}{yr:Fs}{ys:List Bool}{yd yf:ByteArray}(D d M:Nat)(z6:List Value)(o:Nat)(zt:Fs)(H T l:Nat)(w:Fs)(L:List Value)(b:Db)(z5:Nat->Hd)(S y:ByteArray)(a:Int)(z4:ByteArray)(k:Int)(y0:World)(f:List Bool)(y2:Db)(yu yv yz x0:Value)(y3:List St)(z7:Nat)(y4:Pl)
theorem Ic(h:(z4.toList == [36,61])=true):dA z4=true:=by
 have:z4=⟨#[36,61]⟩:=ym (by rw[ByteArray.toList_mk [36,61]];simpa using h);rw[this];decide +kernel
theorem JF(l:List (ByteArray×Pl))(p:ByteArray×Pl):(⟨(gN l).e,(gN l).size,(gN l).n+1,(gN l).xs++qZ p⟩:dN)=gN (l++[p]):=by
 simp[gN,nD]
def im(b t o:Nat)(pre post:List Value)(d:Db)(H:Nat->Hd)(x f:ByteArray)(l c:Int)(w:World):Prop :=
 Calls prog 206 #[.pointer (some ⟨b,o,none⟩),.string x,.agg #[.string f,.int .i64 l,.int .i64 c]] w fun e w'=>e=.returned (.int .i64 (aX d x ⟨f,l,c⟩).1)/\∃H',aR w' b t pre post (aX d x ⟨f,l,c⟩).2 H'/\aA b w H w' H'
theorem boxed(h:aR x n N y1 y5 v i)(f:ByteArray)(l c:Int) :
  ∃W,Hid (x.alloc (.cells #[.string f,.int .i64 l,.int .i64 c] 36)=W)/\ab [] x W/\aR W n N y1 y5 v i/\W.cell? ⟨x.heap.size,0,none⟩=some (.string f)/\W.cell? ⟨x.heap.size,1,none⟩=some (.int .i64 l)/\W.cell? ⟨x.heap.size,2,none⟩=some (.int .i64 c):=by
 have B:(x.alloc (.cells #[.string f,.int .i64 l,.int .i64 c] 36)).heap[x.heap.size]?=some (.cells #[.string f,.int .i64 l,.int .i64 c] 36 (0,0)):=QS _ _;refine⟨_,rfl,(ab.refl [] _).alloc _,h.Vb ((ab.refl [] _).alloc _),?_,?_,?_⟩ <;> rw[aa B] <;> rfl
theorem Da(h:aR y0 D d z6 L b z5)(w:z6.length=M)(r:fK b 10000000)(X:S.size<=1073741824)(B:(b.kind==0)=false)(R:(b.kind==6)=false)(s:(S.toList == [36,46])=false)(q:(S.toList == [36,61])=false)(T:dA S=false)(z:b.Va=false) :
  im D d M z6 L b z5 S y a k y0:=by
 unfold im;have U:=r.mono (M:=1073741824) (by omega);obtain⟨W,V,K,i,p0,p1,p2⟩:=boxed h y a k;clear h;obtain⟨q0,q1,Z,q3,Y,q5,q6,q7,q8,q9,H,p,I⟩:=i.cells M w;clear q0 q1 Z q3 Y q5 q6 q7 q9 I;have E:=i.free;rw[z]at p
 cases J:(aZ b S==0)
 ·have l:Hid (aX b S ⟨y,a,k⟩=(aZ b S,b)):=by show aX b S ⟨y,a,k⟩=_;simp[aX,B,R,s,q,T,z,J]
  go_enter func206,ntmps206
  go_upto_region 1 with fail
  rw[V.out];go_wp2_with (first | (go_at_call 231;refine(dV S _ X).mono ?_;rintro e v ⟨rfl,rfl⟩) | (go_at_call 236;refine(pd D d M z6 L b z5 S _ (by exact i) w U).mono ?_;rintro e v ⟨rfl,rfl⟩));go_ret;exact⟨QN (by rw[l.out]),z5,by rw[l.out];exact i,(aA.refl _ _ _).Vb K⟩
 ·have l:Hid (aX b S ⟨y,a,k⟩=(0,{ b with U6:=b.U6++[S] })):=by show aX b S ⟨y,a,k⟩=_;simp[aX,B,R,s,q,T,z,J]
  have O:Hid (aZ b S=0):=(show aZ b S=0 by simpa using J);have ac:=r.U6;obtain⟨i0,F,N,A,G⟩:=Re js;have C:=i.Vb ((ab.refl [] W).alloc (.cells #[.string S] 9));have f:=C.own 8;have ad:=i.lt;go_enter func206,ntmps206
  go_upto_region 1 with fail
  rw[V.out];go_wp2_with (first | (go_at_call 231;refine(dV S _ X).mono ?_;rintro e v ⟨rfl,rfl⟩) | (go_at_call 236;refine(pd D d M z6 L b z5 S _ (by exact i) w U).mono ?_;rintro e v ⟨rfl,rfl⟩) | (at_builtin;refine aM _ rfl (.tmp 74) (.tmp 76) 61 rfl i0 (.string ⟨#[]⟩) 16 (z5 8) (aB b.U6) underlying61 F N A G rfl Rc rfl (by exact f) ⟨_,0,none⟩ 1 1 [.string S] rfl rfl ?c1 ?c2 Rc ?c3 ?c4 ?_))
  case c1=>intro j u x;match j,x with | 0,x=>simp at x;subst x;simp[Addr.add]
  case c2=>intro u P;simp at P;subst P;rfl
  case c3=>simp only[aB];unfold maxLen;omega
  case c4=>simp only[aB];omega
  intro g o v t m c;obtain⟨B,f0,Q⟩:=C.app (d':={ b with U6:=b.U6++[S] }) M 10 w 8 (by omega) g o ((aB b.U6).n+1) _ t (dr b.U6 S) m (by simpa using c) (tq b z5 _) (by omega) _ rfl (by simp[b9,g9,aB]);clear C f q8 H p t m c E;go_wp2;go_ret;exact⟨QN (by rw[l.out,O.out]),_,by rw[l.out];exact Q.out.1,Q.out.2.first (K.alloc _)⟩
theorem xW(h:aR y0 D d z6 L b z5)(F:z6.length=M)(t:fK b 10000000)(hx:S.size<=1073741824)(J:(b.kind==0)=false)(U:(b.kind==6)=false)(v:(S.toList == [36,46])=false)(s:(S.toList == [36,61])=false)(V:dA S=false)(z:b.Va=true) :
  im D d M z6 L b z5 S y a k y0:=by
 unfold im;obtain⟨W,HW,K,m,p0,p1,p2⟩:=boxed h y a k;clear h;obtain⟨T,q1,N,q3,G,R,q6,O,q8,q9,w,r,ac⟩:=m.cells M F;clear T q1 N q3 G R q6 O q9 w;have P:=m.free;rw[z]at r;have C:Hid (aX b S ⟨y,a,k⟩=(0,{ b with Vh:=b.Vh++[(S,⟨y,a,k⟩)] })):=by show aX b S ⟨y,a,k⟩=_;simp[aX,J,U,v,s,V,z]
 have I:=t.Vh;obtain⟨i0,p,x,o,q⟩:=Re OC;have Q:=m.lt;have E:Hid (aR (W.alloc (.cells #[.string S,.string y,.int .i64 a,.int .i64 k] 229)).drew D d z6 L b z5):=m.Vb ((ab.refl [] W).alloc _).drew
 have X:Hid (∀j u,(qZ (S,⟨y,a,k⟩))[j]?=some u->(W.alloc (.cells #[.string S,.string y,.int .i64 a,.int .i64 k] 229)).drew.cell? ((⟨W.heap.size,0,none⟩:Addr).add j)=some u):=by
  intro j u hj;have hk:(W.alloc (.cells #[.string S,.string y,.int .i64 a,.int .i64 k] 229)).drew.heap[W.heap.size]?=some (.cells #[.string S,.string y,.int .i64 a,.int .i64 k] 229 (0,0)):=QS _ _;rw[bL,aa hk];simpa [qZ] using hj
 have Y:Hid (∀u∈qZ (S,⟨y,a,k⟩),u.oneCell'=true):=by
  intro u A;simp only[qZ,List.mem_cons,List.not_mem_nil,or_false]at A
  rcases A with rfl | rfl | rfl | rfl <;> rfl
 have s4:Hid ((gN b.Vh).n+1<=maxLen):=by show _<=_;simp only[gN];unfold maxLen;omega
 have s5:Hid (((gN b.Vh).n+1)*48<=140737488355328):=by show _<=_;simp only[gN];omega
 go_enter func206,ntmps206
 go_upto_region 1 with fail
 rw[HW.out];go_wp2_with (go_at_call 231;refine(dV S _ hx).mono ?_;rintro e Z ⟨rfl,rfl⟩)
 go_region_law (refine cd rfl (.tmp 57) (.tmp 61) 156 rfl i0 (.agg #[.string ⟨#[]⟩,.string ⟨#[]⟩,.int .i64 0,.int .i64 0]) 48 (z5 9) (gN b.Vh) underlying156 p x o q rfl (Uz 3) (by simp[Act.eval] <;> rfl) (E.out.own 9) ⟨_,0,none⟩ 1 1 (qZ (S,⟨y,a,k⟩)) (by simp[Act.eval] <;> rfl) rfl X.out Y.out Rc s4.out s5.out ?_;intro g i Z l f c;obtain⟨k5,f5,B⟩:=E.out.app (d':={ b with Vh:=b.Vh++[(S,⟨y,a,k⟩)] }) M 12 F 9 (by omega) g i ((gN b.Vh).n+1) _ l (JF b.Vh (S,⟨y,a,k⟩)) f (by simpa using c) (wZ b z5 _) (by omega) _ rfl (by simp[b9,g9,gN]);clear l f c)
 all_goals go_wp2
 all_goals go_ret
 all_goals exact⟨QN (by rw[C.out]),_,by rw[C.out];exact B.out.1,B.out.2.first (K.trans ((ab.refl [] _).alloc _).drew)⟩
theorem Fr(h:aR y0 D d z6 L b z5)(t:z6.length=M)(u:S.size<=1073741824)(m:(b.kind==0)=false)(n:(b.kind==6)=false)(f:(S.toList == [36,46])=false)(i:(S.toList == [36,61])=true) :
  im D d M z6 L b z5 S y a k y0:=by
 unfold im;obtain⟨W,o,K,j,R,T,P⟩:=boxed h y a k;clear h;obtain⟨E,H,w,I,x,C,G,z,O,N,p,g,q⟩:=j.cells M t;clear E H w I x C G z N p q;have A:=j.free;have r:=Ic S i
 cases s:(b.kind==5)
 ·have c:Hid (aX b S ⟨y,a,k⟩=(8,b)):=by show aX b S ⟨y,a,k⟩=_;simp[aX,m,n,f,s,r]
  go_enter func206,ntmps206
  go_upto_region 1 with fail
  rw[o.out];go_wp2_with (go_at_call 231;refine(dV S _ u).mono ?_;rintro e F ⟨rfl,rfl⟩);go_ret;exact⟨QN (by rw[c.out]),z5,by rw[c.out];exact j,(aA.refl _ _ _).Vb K⟩
 ·cases l:b.Va
  ·have c:Hid (aX b S ⟨y,a,k⟩=b7 b):=by show aX b S ⟨y,a,k⟩=_;simp only[aX,m,n,f,i,s,l];simp
   rw[l]at g;go_enter func206,ntmps206
   go_upto_region 1 with fail
   rw[o.out];go_wp2_with fail;refine(vL D d M z6 L b z5 _ (by exact j) t).mono ?_;rintro e Q ⟨rfl,v,B,J⟩;go_wp2;go_ret;exact⟨QN (by rw[c.out]),v,by rw[c.out];exact B,J.first K⟩
  ·have c:Hid (aX b S ⟨y,a,k⟩=(8,b)):=by show aX b S ⟨y,a,k⟩=_;simp[aX,m,n,f,l,r]
   rw[l]at g;go_enter func206,ntmps206
   go_upto_region 1 with fail
   rw[o.out];go_wp2_with (go_at_call 231;refine(dV S _ u).mono ?_;rintro e F ⟨rfl,rfl⟩);go_ret;exact⟨QN (by rw[c.out]),z5,by rw[c.out];exact j,(aA.refl _ _ _).Vb K⟩
theorem MD(h:aR y0 D d z6 L b z5)(m:z6.length=M)(G:fK b 10000000)(F:S.size<=1073741824)(H:AY b 100000000) :
  im D d M z6 L b z5 S y a k y0:=by
 cases q:(b.kind==0)
 ·cases A:(b.kind==6)
  ·cases j:(S.toList == [36,46])
   ·cases n:(S.toList == [36,61])
    ·cases J:dA S
     ·cases Q:b.Va
      ·exact Da D d M z6 L b z5 S y a k y0 h m G F q A j n J Q
      ·exact xW D d M z6 L b z5 S y a k y0 h m G F q A j n J Q
     ·unfold im
      obtain⟨W,w,K,l,O,P,N⟩:=boxed h y a k;clear h H;obtain⟨t,v,o,x,p,s,u,r,I,z,c,g,f⟩:=l.cells M m;clear t v o x p s u r z c f;have i:Hid (aX b S ⟨y,a,k⟩=(8,b)):=by show aX b S ⟨y,a,k⟩=_;simp[aX,q,A,j,n,J]
      go_enter func206,ntmps206
      go_upto_region 1 with fail
      rw[w.out];go_wp2_with (go_at_call 231;refine(dV S _ F).mono ?_;rintro e T ⟨rfl,rfl⟩);go_ret;exact⟨QN (by rw[i.out]),z5,by rw[i.out];exact l,(aA.refl _ _ _).Vb K⟩
    ·exact Fr D d M z6 L b z5 S y a k y0 h m F q A j n
   ·unfold im
    obtain⟨W,w,K,l,O,P,N⟩:=boxed h y a k;clear h H;obtain⟨t,v,o,x,p,s,u,r,I,z,c,g,f⟩:=l.cells M m;clear t v o x p s u r z c g f;have i:Hid (aX b S ⟨y,a,k⟩=lL b ⟨y,a,k⟩):=by show aX b S ⟨y,a,k⟩=_;simp only[aX,q,A,j];simp
    go_enter func206,ntmps206
    go_upto_region 1 with fail
    rw[w.out];go_wp2_with fail;refine(Nl D d M z6 L b z5 y a k _ (by exact l) m G).mono ?_;rintro e R ⟨rfl,B,C,E⟩;go_wp2;go_ret;exact⟨QN (by rw[i.out]),B,by rw[i.out];exact C,E.first K⟩
  ·unfold im
   obtain⟨W,w,K,l,O,P,N⟩:=boxed h y a k;clear h H;obtain⟨t,v,o,x,p,s,u,r,I,z,c,g,f⟩:=l.cells M m;clear t v o x p s u r z c g f;have i:Hid (aX b S ⟨y,a,k⟩=aH b S):=by show aX b S ⟨y,a,k⟩=_;simp only[aX,q,A];simp
   go_enter func206,ntmps206
   go_upto_region 1 with fail
   rw[w.out];go_wp2_with fail;refine(vg D d M z6 L b z5 S _ (by exact l) m).mono ?_;rintro e R ⟨rfl,B,C,E⟩;go_wp2;go_ret;exact⟨QN (by rw[i.out]),B,by rw[i.out];exact C,E.first K⟩
 ·unfold im
  obtain⟨W,w,K,l,O,P,N⟩:=boxed h y a k;clear h;obtain⟨t,v,o,x,p,s,u,r,I,z,c,g,f⟩:=l.cells M m;clear t v o x p s u r z c g f;have i:Hid (aX b S ⟨y,a,k⟩=av b S):=by show aX b S ⟨y,a,k⟩=_;simp only[aX,q];simp
  go_enter func206,ntmps206
  go_upto_region 1 with fail
  rw[w.out];go_wp2_with fail;refine(xU D d M z6 L b z5 S _ (by exact l) m G F H).mono ?_;rintro e R ⟨rfl,B,C,E⟩;go_wp2;go_ret;exact⟨QN (by rw[i.out]),B,by rw[i.out];exact C,E.first K⟩
def fm:Db:=⟨[],[],[],[],[],[],[],[],0,⟨#[]⟩,[],false,[]⟩
abbrev pA:=Int×Pl
def cY:pA:=(0,⟨⟨#[]⟩,0,0⟩)
def gU(f:pA):Value:=.agg #[.int .i64 f.1,.string f.2.file,.int .i64 f.2.line,.int .i64 f.2.col]
def kK(n s:ByteArray)(p:Nat):Pl:=⟨n,aP s p,bm s p⟩
def iK(n s:ByteArray)(i:rT):pA:=(if i.fin=true then 7 else i.rule,kK n s i.pos)
abbrev FP:=pA×List Bool×Db
def rx(fs:Fs)(x z:Nat)(p:Pl)(d:Db):pA ⊕ (Nat×Nat) :=
  if kp d=true then .inl (4,p)
  else if aI (ay (ak fs x) z).1=false then .inl (iK (aE fs x) (ak fs x) (ay (ak fs x) z).1)
  else if dA (ay (ak fs x) z).1.text=true then .inl (5,kK (aE fs x) (ak fs x) (ay (ak fs x) z).1.pos)
  else if bF fs (ay (ak fs x) z).1.text<0 then .inl (6,kK (aE fs x) (ak fs x) (ay (ak fs x) z).1.pos)
  else if aI (ay (ak fs x) (ay (ak fs x) z).2).1=false then .inl (iK (aE fs x) (ak fs x) (ay (ak fs x) (ay (ak fs x) z).2).1)
  else if((ay (ak fs x) (ay (ak fs x) z).2).1.text.toList == [36,93])=false then .inl (5,kK (aE fs x) (ak fs x) (ay (ak fs x) (ay (ak fs x) z).2).1.pos)
  else .inr ((bF fs (ay (ak fs x) z).1.text).toNat,(ay (ak fs x) (ay (ak fs x) z).2).2)
def mX(rf:Nat->List Bool->Db->FP)(fs:Fs)(x z:Nat)(p:Pl)(bg:List Bool)(d:Db):FP×Nat :=
  match rx fs x z p d with
  | .inl f=>((f,bg,d),z)
  | .inr (j,z')=>(rf j bg d,z')
def jN(rf:Nat->List Bool->Db->FP)(fs:Fs)(x z:Nat)(t:ByteArray)(p:Pl)(bg:List Bool)(d:Db):FP×Nat :=
  if(t.toList == [36,91])=true then mX rf fs x z p bg d
  else((if((aX d t p).1==0)=true then cY else((aX d t p).1,p),bg,(aX d t p).2),z)
def bq(fs:Fs):Nat->Nat->Nat->List Bool->Db->FP
  | 0,_,_,bg,d=>(cY,bg,d)
  | f+1,x,k,bg,d =>
    if aI (ay (ak fs x) k).1=true then
      (if((jN (fun j bg d=>if bg.getD j true=true then(cY,bg,d) else bq fs f j 0 (bg.set j true) d) fs x (ay (ak fs x) k).2 (ay (ak fs x) k).1.text (kK (aE fs x) (ak fs x) (ay (ak fs x) k).1.pos) bg d).1.1.1==0)=true
       then bq fs f x (jN (fun j bg d=>if bg.getD j true=true then(cY,bg,d) else bq fs f j 0 (bg.set j true) d) fs x (ay (ak fs x) k).2 (ay (ak fs x) k).1.text (kK (aE fs x) (ak fs x) (ay (ak fs x) k).1.pos) bg d).2
          (jN (fun j bg d=>if bg.getD j true=true then(cY,bg,d) else bq fs f j 0 (bg.set j true) d) fs x (ay (ak fs x) k).2 (ay (ak fs x) k).1.text (kK (aE fs x) (ak fs x) (ay (ak fs x) k).1.pos) bg d).1.2.1
          (jN (fun j bg d=>if bg.getD j true=true then(cY,bg,d) else bq fs f j 0 (bg.set j true) d) fs x (ay (ak fs x) k).2 (ay (ak fs x) k).1.text (kK (aE fs x) (ak fs x) (ay (ak fs x) k).1.pos) bg d).1.2.2
       else(jN (fun j bg d=>if bg.getD j true=true then(cY,bg,d) else bq fs f j 0 (bg.set j true) d) fs x (ay (ak fs x) k).2 (ay (ak fs x) k).1.text (kK (aE fs x) (ak fs x) (ay (ak fs x) k).1.pos) bg d).1)
    else if(ay (ak fs x) k).1.fin=true/\kp d=false then(cY,bg,d) else(iK (aE fs x) (ak fs x) (ay (ak fs x) k).1,bg,d)
def cn(fs:Fs)(f:Nat)(j:Nat)(bg:List Bool)(d:Db):FP :=
  if bg.getD j true=true then(cY,bg,d) else bq fs f j 0 (bg.set j true) d
def fZ(fs:Fs)(f x k:Nat)(bg:List Bool)(d:Db):FP×Nat :=
  jN (cn fs f) fs x (ay (ak fs x) k).2 (ay (ak fs x) k).1.text (kK (aE fs x) (ak fs x) (ay (ak fs x) k).1.pos) bg d
theorem yD(a:aI (ay (ak zt T) l).1=true)(b:((fZ zt H T l f y2).1.1.1==0)=true) :
    bq zt (H+1) T l f y2=bq zt H T (fZ zt H T l f y2).2 (fZ zt H T l f y2).1.2.1 (fZ zt H T l f y2).1.2.2:=by
  rw[bq,QW a];exact QW b
theorem ox(a:aI (ay (ak zt T) l).1=true)(b:((fZ zt H T l f y2).1.1.1==0)=false) :
    bq zt (H+1) T l f y2=(fZ zt H T l f y2).1:=by
  rw[bq,QW a];exact QT (fun c=>Bool.noConfusion (b.symm.trans c))
theorem zW(a:aI (ay (ak zt T) l).1=false)(b:(ay (ak zt T) l).1.fin=true)(c:kp y2=false) :
    bq zt (H+1) T l f y2=(cY,f,y2):=by
  rw[bq,QT (by simp[a]),QW ⟨b,c⟩]
theorem wk(a:aI (ay (ak zt T) l).1=false)(b:¬((ay (ak zt T) l).1.fin=true/\kp y2=false)) :
    bq zt (H+1) T l f y2=(iK (aE zt T) (ak zt T) (ay (ak zt T) l).1,f,y2):=by
  rw[bq,QT (by simp[a]),QT b]
theorem km{i:rT}(h:aI i=false)(a:i.fin=false):(i.rule==0)=false:=by
  simp[aI,a]at h;simpa using h
structure nE(d:Db)(m:Nat):Prop where
  Ve:d.Ve.length<=m
  U8:d.U8.length+d.U6.length<=m
  U9:d.U9.length+d.U6.length<=m
  Vf:d.Vf.length+d.U6.length<=m
  Vi:d.Vi.length+d.U6.length<=m
  blocks:d.blocks.length<=m
  Vn:d.Vn.length<=m
  Vh:d.Vh.length<=m
  inner:∀p,p∈d.blocks->p.1<=m/\p.2<=m
  same:d.rbl.length=d.blocks.length
  recs:∀x,x∈d.rbl->x<=d.Vn.length
theorem nE.small{N:Nat}(h:nE v n)(b:n<=N):fK v N/\AY v N :=
  ⟨⟨by have:=h.Ve;omega,by have:=h.U8;omega,by have:=h.U9;omega,by have:=h.Vf;omega,by have:=h.Vi;omega,by have:=h.blocks;omega,by have:=h.Vn;omega,by have:=h.blocks;have:=h.same;omega,by have:=h.U8;omega,by have:=h.Vh;omega⟩,
   ⟨fun p a=>by have:=h.inner p a;omega,h.same,h.recs⟩⟩
theorem nE.mono{m':Nat}(h:nE v n)(b:n<=m'):nE v m' :=
  ⟨by have:=h.Ve;omega,by have:=h.U8;omega,by have:=h.U9;omega,by have:=h.Vf;omega,by have:=h.Vi;omega,by have:=h.blocks;omega,by have:=h.Vn;omega,by have:=h.Vh;omega,fun p a=>by have:=h.inner p a;omega,h.same,h.recs⟩
theorem nE.empty:nE fm 0:=by
  refine⟨?_,?_,?_,?_,?_,?_,?_,?_,?_,?_,?_⟩ <;> simp[fm]
theorem nE.plain(h:nE v n)(k:Int)(l:ByteArray)(b:Bool):nE { v with kind:=k,label:=l,Va:=b } n:=⟨h.Ve,h.U8,h.U9,h.Vf,h.Vi,h.blocks,h.Vn,h.Vh,h.inner,h.same,h.recs⟩
theorem vY:(gy y3 z7).length=y3.length:=jg y3 z7 y3.length
theorem nE.declare(h:nE v n)(p:Pl):nE { aY v p with kind:=0,label:=⟨#[]⟩,U6:=[],Va:=false,Vh:=[] } (n+1):=by
  have f:=h.U8;have i:=h.U9;have e:=h.Vf;have d:=h.Vi;have a:=h.mono (TO n);unfold aY
  split
  · exact⟨a.Ve,by simp;omega,by simp;omega,by simp;omega,by simp;omega,a.blocks,a.Vn,by simp,a.inner,a.same,a.recs⟩
  · split
    · have:=Dl v.U9 (v.U6.take v.U6.length)
      simp only[List.take_length]at this;exact⟨a.Ve,by simp[dO];omega,by simp[dO];omega,by simp[dO];omega,by simp[dO];omega,a.blocks,a.Vn,by simp,a.inner,a.same,a.recs⟩
    · unfold mO mY
      have:=h.Vn
      split
      · next g=>exact⟨a.Ve,by simp;omega,by simp;omega,by simp;omega,by simp;omega,a.blocks,by simp;omega,by simp,a.inner,a.same,fun x b=>by have:=h.recs x b;simp;omega⟩
      · exact⟨a.Ve,by simp;omega,by simp;omega,by simp;omega,by simp;omega,a.blocks,by simp;omega,by simp,a.inner,a.same,fun x b=>by have:=h.recs x b;simp;omega⟩
theorem nE.take(h:nE v n)(x:ByteArray)(m:Pl):nE (aX v x m).2 (n+1):=by
  have a:=h.mono (TO n);have b:=fun k=>a.plain k v.label v.Va
  have z:=h.Ve;have w:=h.U8;have t:=h.U9;have r:=h.Vf;have u:=h.Vi;have s:=h.blocks
  have i:nE (bI v x).2 (n+1):=by
    unfold bI
    split
    · exact a
    · split
      · exact a
      · split
        · exact a
        · exact⟨by simp;omega,a.U8,a.U9,a.Vf,a.Vi,a.blocks,a.Vn,a.Vh,a.inner,a.same,a.recs⟩
  have j:nE (aH v x).2 (n+1):=by
    unfold aH
    split
    · exact b 2
    · split
      · exact b 3
      · split
        · exact b 4
        · split
          · exact b 5
          · exact a
  have f:nE (av v x).2 (n+1):=by
    unfold av
    split
    · refine⟨a.Ve,a.U8,a.U9,a.Vf,a.Vi,by simp;omega,a.Vn,a.Vh,?_,by simp[h.same],?_⟩
      · intro p c
        simp only[List.mem_append,List.mem_singleton]at c
        rcases c with c | rfl
        · exact a.inner p c
        · simp only;omega
      · intro y d
        simp only[List.mem_append,List.mem_singleton]at d
        rcases d with d | rfl
        · exact h.recs y d
        · exact QR _
    · split
      · split
        · exact a
        · next p c =>
          unfold cw
          have o:v.rbl≠[]:=by
            intro e;have:=h.same;rw[e,rD c]at this;simp at this
          obtain⟨y,d⟩:∃y,v.rbl.getLast?=some y:=⟨_,Ta o⟩
          rw[d];refine⟨a.Ve,a.U8,a.U9,?_,?_,?_,?_,a.Vh,?_,?_,?_⟩
          · simp only[dq,List.length_take];omega
          · simp only[dq,List.length_take];omega
          · simp only[dq,List.length_dropLast];omega
          · show(gy v.Vn y).length<=_;rw[vY];exact a.Vn
          · intro q l
            simp only[dq]at l;exact a.inner q (TP _ l)
          · simp only[dq,List.length_dropLast,h.same]
          · intro q l
            show q<=(gy v.Vn y).length
            rw[vY];exact h.recs q (TP _ l)
      · split
        · split
          · exact a
          · exact b 7
        · split
          · exact b 8
          · split
            · exact b 1
            · split
              · exact a
              · exact i
  have g:nE (lL v m).2 (n+1):=by
    unfold lL
    split
    · exact a
    · split
      · exact a
      · exact h.declare m
  unfold aX
  split
  · exact f
  · split
    · exact j
    · split
      · exact g
      · split
        · unfold b7
          split
          · exact a
          · exact a.plain v.kind v.label true
        · split
          · exact a
          · split
            · exact⟨a.Ve,a.U8,a.U9,a.Vf,a.Vi,a.blocks,a.Vn,by have:=h.Vh;simp;omega,a.inner,a.same,a.recs⟩
            · split
              · exact⟨a.Ve,by simp;omega,by simp;omega,by simp;omega,by simp;omega,a.blocks,a.Vn,a.Vh,a.inner,a.same,a.recs⟩
              · exact a
def MX(fs:Fs)(bg:List Bool)(j:Nat):Nat:=if bg.getD j true=true then 0 else(ak fs j).size+2
def dP(fs:Fs)(bg:List Bool):Nat:=MX fs bg 0+MX fs bg 1+MX fs bg 2+MX fs bg 3
theorem wG(g:f.length=4)(e:f.getD z7 true=false):dP w (f.set z7 true)+(ak w z7).size+2=dP w f:=by
  match f,g with
  | [a,b,c,d],_ =>
    match z7 with
    | 0=>simp at e;subst e;simp[dP,MX];omega
    | 1=>simp at e;subst e;simp[dP,MX];omega
    | 2=>simp at e;subst e;simp[dP,MX];omega
    | 3=>simp at e;subst e;simp[dP,MX];omega
    | z7+4=>simp at e
def Qo(fs:Fs)(bg:List Bool)(m:Nat)(r:FP):Prop :=
  r.2.1.length=4/\dP fs r.2.1<=dP fs bg/\∃m',nE r.2.2 m'/\m'+dP fs r.2.1<=m+dP fs bg
theorem C7(l:∀j a d m,a.length=4->nE d m->Qo w a m (cn w z7 j a d))(x k:Nat)(a:List Bool)(d:Db)(m:Nat)(q:k<=(ak w x).size)(f:a.length=4)(i:nE d m)(r:aI (ay (ak w x) k).1=true) :
    Qo w a (m+1) (fZ w z7 x k a d).1/\k<(fZ w z7 x k a d).2/\(fZ w z7 x k a d).2<=(ak w x).size:=by
  have e:=fG (ak w x) k q;have c:=e.2.2 r;unfold fZ jN
  split
  · unfold mX
    split
    · exact⟨⟨f,QR _,m,i,by simp only;omega⟩,c,e.2.1⟩
    · next j u b =>
      have g:=l j a d m f i;refine⟨⟨g.1,g.2.1,?_⟩,?_⟩
      · obtain⟨n,p,t⟩:=g.2.2;exact⟨n,p,by simp only;omega⟩
      · unfold rx at b
        have s:=fG (ak w x) (ay (ak w x) k).2 e.2.1;have v:=fG (ak w x) (ay (ak w x) (ay (ak w x) k).2).2 s.2.1
        repeat' split at b
        all_goals first | (cases b;done) | skip
        injection b with b
        injection b with o h
        subst h;omega
  · exact⟨⟨f,QR _,m+1,i.take _ _,by simp only;omega⟩,c,e.2.1⟩
theorem Ll(f:Nat):(∀x k a d m,k<=(ak w x).size->a.length=4->nE d m->(bq w f x k a d).2.1.length=4/\dP w (bq w f x k a d).2.1<=dP w a/\∃c,nE (bq w f x k a d).2.2 c/\c+dP w (bq w f x k a d).2.1<=m+((ak w x).size-k)+dP w a) /\
    (∀j a d m,a.length=4->nE d m->Qo w a m (cn w f j a d)):=by
  have b:∀f,(∀x k a d m,k<=(ak w x).size->a.length=4->nE d m->(bq w f x k a d).2.1.length=4/\dP w (bq w f x k a d).2.1<=dP w a/\∃c,nE (bq w f x k a d).2.2 c/\c+dP w (bq w f x k a d).2.1<=m+((ak w x).size-k)+dP w a) ->
      (∀j a d m,a.length=4->nE d m->Qo w a m (cn w f j a d)):=by
    intro f h j a d m e g;unfold cn
    split
    · exact⟨e,QR _,m,g,QR _⟩
    · next C =>
      have n:a.getD j true=false:=by simpa using C
      have G:=wG w a j e n;have:=h j 0 (a.set j true) d m (Ro _) (by simpa using e) g;refine⟨this.1,by omega,?_⟩;obtain⟨c,D,F⟩:=this.2.2;exact⟨c,D,by omega⟩
  induction f with
  | zero =>
    have u:∀x k a d m,k<=(ak w x).size->a.length=4->nE d m->(bq w 0 x k a d).2.1.length=4/\dP w (bq w 0 x k a d).2.1<=dP w a/\∃c,nE (bq w 0 x k a d).2.2 c/\c+dP w (bq w 0 x k a d).2.1<=m+((ak w x).size-k)+dP w a:=by
      intro x k a d m s e g;exact⟨e,QR _,m,g,by simp only[bq];omega⟩
    exact⟨u,b 0 u⟩
  | succ f t =>
    have p:∀x k a d m,k<=(ak w x).size->a.length=4->nE d m->(bq w (f+1) x k a d).2.1.length=4/\dP w (bq w (f+1) x k a d).2.1<=dP w a/\∃c,nE (bq w (f+1) x k a d).2.2 c/\c+dP w (bq w (f+1) x k a d).2.1<=m+((ak w x).size-k)+dP w a:=by
      intro x k a d m s e g
      cases l:aI (ay (ak w x) k).1 with
      | true =>
        have v:=C7 w f t.2 x k a d m s e g l;obtain⟨⟨q,B,o,r,I⟩,J,y⟩:=v
        cases i:((fZ w f x k a d).1.1.1==0) with
        | true =>
          rw[yD w f x k a d l i];obtain⟨z,K,E,A,H⟩:=t.1 x (fZ w f x k a d).2 (fZ w f x k a d).1.2.1 (fZ w f x k a d).1.2.2 o y q r;exact⟨z,by omega,E,A,by omega⟩
        | false =>
          rw[ox w f x k a d l i];exact⟨q,B,o,r,by omega⟩
      | false =>
        by_cases i:(ay (ak w x) k).1.fin=true/\kp d=false
        · rw[zW w f x k a d l i.1 i.2];exact⟨e,QR _,m,g,by simp only;omega⟩
        · rw[wk w f x k a d l i];exact⟨e,QR _,m,g,by simp only;omega⟩
    exact⟨p,b (f+1) p⟩
theorem xI(k:Nat)(a:z4.size<=1024):(aW z4 k).1.text.size<=1024:=by
  unfold aW;generalize z4.size-k+1=f
  induction f generalizing k with
  | zero=>simp[bX,ByteArray.size]
  | succ f b =>
    rw[bX]
    split
    · split
      · simp[ByteArray.size]
      · exact b _
    · split
      · simp[ByteArray.size]
      · exact qx z4 k a
theorem rF(k:Nat)(a:z4.size<=1024):(ay z4 k).1.text.size<=1024:=by
  unfold ay;generalize z4.size-k+1=f
  induction f generalizing k with
  | zero=>simp[dH,ByteArray.size]
  | succ f b =>
    rw[dH]
    split
    · split
      · exact b _
      · exact xI z4 _ a
    · exact qx z4 k a
theorem Ft:(aX b z4 y4).2.Vh=b.Vh∨(aX b z4 y4).2.Vh=[]∨(aX b z4 y4).2.Vh=b.Vh++[(z4,y4)]:=by
 unfold aX
 split
 ·left
  unfold av
  split
  ·rfl
  ·split
   ·split
    ·rfl
    ·unfold cw;split <;> rfl
   ·split
    ·split <;> rfl
    ·split
     ·rfl
     ·split
      ·rfl
      ·split
       ·rfl
       ·unfold bI
        repeat' split
        all_goals rfl
 ·split
  ·left;unfold aH
   repeat' split
   all_goals rfl
  ·split
   ·unfold lL
    split
    ·left;rfl
    ·split
     ·left;rfl
     ·right;left;rfl
   ·split
    ·left;unfold b7;split <;> rfl
    ·split
     ·left;rfl
     ·split
      ·right;right;rfl
      ·split
       ·left;rfl
       ·left;rfl
theorem Dd:(aX b z4 y4).2.Vn=b.Vn∨(∃y∈b.rbl,(aX b z4 y4).2.Vn=gy b.Vn y)∨((aX b z4 y4).2.Vn=b.Vn++[⟨b.kind,b.label,b.U6,b.Vh,y4,0⟩]/\0<b.U6.length):=by
 unfold aX
 split
 ·unfold av
  split
  ·left;rfl
  ·split
   ·split
    ·left;rfl
    ·unfold cw
     split
     ·left;rfl
     ·next y d=>right;left;exact⟨y,List.mem_of_getLast? d,rfl⟩
   ·split
    ·split <;> (left;rfl)
    ·split
     ·left;rfl
     ·split
      ·left;rfl
      ·split
       ·left;rfl
       ·left;unfold bI
        repeat' split
        all_goals rfl
 ·split
  ·left;unfold aH
   repeat' split
   all_goals rfl
  ·split
   ·unfold lL
    split
    ·left;rfl
    ·next c =>
     have a:0<b.U6.length:=by
      unfold l5 at c
      split at c <;> omega
     split
     ·left;rfl
     ·unfold aY
      split
      ·left;rfl
      ·split
       ·left;rfl
       ·right;right
        refine⟨?_,a⟩;unfold mO
        split <;> rfl
   ·split
    ·left;unfold b7;split <;> rfl
    ·split
     ·left;rfl
     ·split
      ·left;rfl
      ·split
       ·left;rfl
       ·left;rfl
theorem MH:(aX b z4 y4).2.rbl=b.rbl∨(aX b z4 y4).2.rbl=b.rbl.dropLast∨(aX b z4 y4).2.rbl=b.rbl++[b.Vn.length]:=by
 unfold aX
 split
 ·unfold av
  split
  ·right;right;rfl
  ·split
   ·split
    ·left;rfl
    ·unfold cw
     split
     ·left;rfl
     ·right;left;rfl
   ·split
    ·split <;> (left;rfl)
    ·split
     ·left;rfl
     ·split
      ·left;rfl
      ·split
       ·left;rfl
       ·left;unfold bI
        repeat' split
        all_goals rfl
 ·left
  split
  ·unfold aH
   repeat' split
   all_goals rfl
  ·split
   ·unfold lL
    split
    ·rfl
    ·split
     ·rfl
     ·unfold aY
      split
      ·rfl
      ·split
       ·rfl
       ·unfold mO;split <;> rfl
   ·split
    ·unfold b7;split <;> rfl
    ·split
     ·rfl
     ·split
      ·rfl
      ·split <;> rfl
structure PJ(S:List St)(d:Db):Prop where
 pre:∃m,d.Vn=S++m
 rbl:∀y∈d.rbl,S.length<=y
theorem DW(m:List St)(y:Nat)(h:y3.length<=y):∃b,gy (y3++m) y=y3++b:=by
 refine⟨(gy (y3++m) y).drop y3.length,?_⟩
 have e:(gy (y3++m) y).take y3.length=y3:=by
  apply Sq
  intro i;rw[Tj]
  split
  ·next a =>
   unfold gy fD;rw[List.getElem?_mapIdx,Q7 a,QP a];rw[UU,QT (by omega)]
  ·rw[Rx];omega
 conv=>lhs;rw[<-Ul y3.length (gy (y3++m) y),e]
theorem PJ.take{S:List St}(h:PJ S v)(x:ByteArray)(p:Pl):PJ S (aX v x p).2:=by
 obtain⟨m,b⟩:=h.pre;refine⟨?_,?_⟩
 ·rcases Dd v x p with e | ⟨y,a,e⟩ | ⟨e,_⟩
  ·exact⟨m,by rw[e,b]⟩
  ·rw[e,b];exact DW S m y (h.rbl y a)
  ·exact⟨m++[_],by rw[e,b,Sy]⟩
 ·rcases MH v x p with e | e | e
  ·rw[e];exact h.rbl
  ·rw[e];intro y a;exact h.rbl y (TP _ a)
  ·rw[e]
   intro y a
   rcases Rr.1 a with a | a
   ·exact h.rbl y a
   ·rw[Q9.1 a,b,Q0];omega
theorem PJ.begin(h:nE v n)(b:kp v=false):PJ v.Vn v:=by
 refine⟨⟨[],by simp⟩,fun y a=>?_⟩;have c:=h.same
 have d:v.blocks.length=0:=by
  unfold kp at b;simp only[Bool.or_eq_false_iff,decide_eq_false_iff_not]at b;omega
 rw[d]at c;rw[Rk c]at a
 cases a
structure Rw where
 label:ByteArray
 Vc:Int
 why:Int
 at_:Pl
def mL(r:Rw):List Value:=[.string r.label,.int .i64 r.Vc,.int .i64 r.why,.string r.at_.file,.int .i64 r.at_.line,.int .i64 r.at_.col]
def kL(l:List Rw):List Value:=l.flatMap mL
def kT:Pl:=⟨⟨#[]⟩,0,0⟩
def qd:Rw:=⟨⟨#[]⟩,0,0,kT⟩
theorem Qa:(prog.info? 38).map (fun i=>(i.zero,i.size,i.bytes))=some (some (.agg #[.string ⟨#[]⟩,.int .i64 0,.int .i64 0,.string ⟨#[]⟩,.int .i64 0,.int .i64 0]),6,64):=by kernel_rfl
theorem CZ(l:List Rw):(kL l).length=l.length*6:=by
 induction l with
 | nil=>rfl
 | cons x r a =>
  have e:kL (x :: r)=mL x++kL r:=rfl;rw[e,Q0,a];simp[mL];omega
theorem GJ(l:List Rw)(k:Nat)(a:k<l.length)(j:Nat)(d:j<6):(kL l)[k*6+j]?=(mL l[k])[j]?:=by
 induction l generalizing k with
 | nil=>simp at a
 | cons s r c =>
  have e:kL (s :: r)=mL s++kL r:=rfl;rw[e]
  cases k with
  | zero=>rw[Q7 (by simp[mL];omega)];simp
  | succ k =>
   rw[Q5 (by simp[mL];omega)];have b:(k+1)*6+j-(mL s).length=k*6+j:=by simp[mL];omega
   rw[b,c k (by simpa using a)];rfl
def Ko(p:Pl):Prop:=-1000000000<=p.line/\p.line<=1000000000
def pC(w:World):Option Nat->List Rw->Prop
 | none,L=>L=[]
 | some g,L=>0<L.length/\w.heap[g]?=some (.cells (kL L).toArray 38 (0,0))
theorem pC.kept{L:List Rw}(h:pC x y8 L)(k:ab ya x I)(a:∀g,y8=some g->g∉ya):pC I y8 L:=by
 cases y8 with
 | none=>exact h
 | some g=>exact⟨h.1,k.get h.2 (a g rfl)⟩
theorem pC.Vb{L:List Rw}(h:pC x y8 L)(k:ab [] x I):pC I y8 L:=h.kept k (by simp)
theorem pC.lt{L:List Rw}(h:pC x y8 L)(g:Nat)(e:y8=some g):g<x.heap.size:=by
 subst e;exact ae h.2
structure QA(L:List Rw):Prop where
 len:L.length<=100000
 line:∀r∈L,Ko r.at_
theorem na(c:Int)(f:Bool)(w:World) :
  Calls prog 159 #[.agg #[.string S,.int .i64 a,.bool f,.string y,.int .i64 k,.int .i64 c]] w fun e b=>e=.returned (.agg #[.int .i64 (if f=true then 7 else a),.string y,.int .i64 k,.int .i64 c])/\ab [] w b:=by
 cases f
 ·go_enter func159,ntmps159
  go_wp2;exact QY (v:=.agg #[.int .i64 a,.string y,.int .i64 k,.int .i64 c]) (by simp[results,results159,go_sem]) rfl ⟨rfl,((ab.refl _ _).alloc _).alloc _⟩
 ·go_enter func159,ntmps159
  go_wp2;exact QY (v:=.agg #[.int .i64 7,.string y,.int .i64 k,.int .i64 c]) (by simp[results,results159,go_sem]) rfl ⟨rfl,((ab.refl _ _).alloc _).alloc _⟩
def dM(v:Nat)(bg:List Bool):List Value:=.pointer (some ⟨v,0,none⟩) :: bg.map Value.bool
theorem jl(h:f.length=4):(dM l f).length=5:=by simp[dM,h]
theorem aR.pre(h:aR x n N y1 y5 v i)(a:Nat)(c:a<y1.length)(u:Value) :
  aR (x.setCell ⟨n,a,none⟩ u) n N (y1.set a u) y5 v i/\aA n x i (x.setCell ⟨n,a,none⟩ u) i:=by
 refine⟨⟨?_,?_,h.apart,h.off⟩,(eK.refl _ _).setCell (Q1 (Q1 rfl)) _,fun _ b=>Q1 b⟩
 ·rw[ah h.blk,Ru,TM _ _ c]
 ·intro j
  refine(h.own j).Vg (fun k b=>Q4 _ _ _ _ ?_);rintro rfl;exact h.off j b
theorem aR.preCell(h:aR x n N y1 y5 v i)(a:Nat)(b:a<y1.length):x.cell? ⟨n,a,none⟩=y1[a]?:=by
 rw[aa h.blk];simp[List.getElem?_append_left b]
def fJ(b sp:Nat)(w:World)(H:Nat->Hd)(w':World)(H':Nat->Hd):Prop :=
 eK (fun k=>k=b∨k=sp∨f9 H k) w w'/\∀k,f9 H' k->f9 H k∨w.heap.size<=k
theorem aA.Vg{w':World}(t:aA n x i w' g):fJ n z7 x i w' g :=
 ⟨⟨t.1.os,t.1.tape,t.1.output,t.1.size,fun k a b=>t.1.block k a (fun e=>b (e.elim Q1 (fun e=>QV (QV e))))⟩,t.2⟩
theorem fJ.trans{w1:World}(a:fJ n N x i w1 g)(c:fJ n N w1 g I yg):fJ n N x i I yg:=by
 refine⟨⟨c.1.os.trans a.1.os,c.1.tape.trans a.1.tape,c.1.output.trans a.1.output,Q3 a.1.size c.1.size,?_⟩,?_⟩
 ·intro k d b
  rw[<-a.1.block k d b];refine c.1.block k (QX d a.1.size) ?_;rintro (e | e | f)
  ·exact b (Q1 e)
  ·exact b (QV (Q1 e))
  ·rcases a.2 k f with h | h
   ·exact b (QV (QV h))
   ·omega
 ·intro k d
  rcases c.2 k d with h | h
  ·exact a.2 k h
  ·exact QV (Q3 a.1.size h)
theorem fJ.refl(H:Nat->Hd):fJ T l y0 H y0 H:=⟨eK.refl _ _,fun _ a=>Q1 a⟩
theorem fJ.Vb(a:fJ n N x i I g)(c:ab [] I zb):fJ n N x i zb g :=
 a.trans ⟨c.toP (by simp),fun _ b=>Q1 b⟩
theorem fJ.first(c:ab [] x I)(a:fJ n N I i zb g):fJ n N x i zb g :=
 fJ.trans ⟨c.toP (by simp),fun _ b=>Q1 b⟩ a
theorem fJ.scan(a:fJ n N x i I g)(c:ab [N] I zb):fJ n N x i zb g :=
 a.trans ⟨c.toP (by intro k b _;simp at b;exact QV (Q1 b)),fun _ b=>Q1 b⟩
theorem fJ.beyond(T:fJ n N x i I g)(k:ab ya I zb)(f:∀c,c∈ya->x.heap.size<=c):fJ n N x i zb g :=
 ⟨⟨k.os.trans T.1.os,k.tape.trans T.1.tape,k.output.trans T.1.output,Q3 T.1.size k.size,fun a b e=>by
  rw[<-T.1.block a b e];exact k.block a (QX b T.1.size) (fun d=>by have:=f a d;omega)⟩,T.2⟩
theorem fJ.fresh(T:fJ n N x i I g)(F:Nat)(c:F<x.heap.size)(a:¬f9 i F):¬f9 g F:=by
 intro b
 rcases T.2 F b with h | h
 ·exact a h
 ·omega
theorem aA.fresh(T:aA n x i I g)(F:Nat)(c:F<x.heap.size)(a:¬f9 i F):¬f9 g F:=by
 intro b
 rcases T.2 F b with h | h
 ·exact a h
 ·omega
theorem ji{w:World}{r:Nat}:ab [r] w ((((w.setCell ⟨r,0,none⟩ yu).setCell ⟨r,1,none⟩ yv).setCell ⟨r,2,none⟩ yz).setCell ⟨r,3,none⟩ x0) :=
 ((((ab.refl _ _).setCell (Q1 (by simp)) _).setCell (Q1 (by simp)) _).setCell (Q1 (by simp)) _).setCell (Q1 (by simp)) _
theorem Fc(a b:Value):ab [n] x ((((((x.setCell ⟨n,0,none⟩ yu).setCell ⟨n,1,none⟩ yv).setCell ⟨n,2,none⟩ yz).setCell ⟨n,3,none⟩ x0).setCell ⟨n,4,none⟩ a).setCell ⟨n,5,none⟩ b) :=
 ((((((ab.refl _ _).setCell (Q1 (by simp)) _).setCell (Q1 (by simp)) _).setCell (Q1 (by simp)) _).setCell (Q1 (by simp)) _).setCell (Q1 (by simp)) _).setCell (Q1 (by simp)) _
def bA:Array Value:=#[.int .i64 0,.string ⟨#[]⟩,.int .i64 0,.int .i64 0]
theorem b8(h:x.heap[n]?=some (.cells bA 87 (0,0))) :
  x.cell? ⟨n,0,none⟩=some (.int .i64 0)/\x.cell? ⟨n,1,none⟩=some (.string ⟨#[]⟩)/\x.cell? ⟨n,2,none⟩=some (.int .i64 0)/\x.cell? ⟨n,3,none⟩=some (.int .i64 0):=by
 refine⟨?_,?_,?_,?_⟩ <;> (rw[aa h];rfl)
theorem nN{F:Nat}(D:aR I n N y1 y5 v g)(T:aA n x i I g)(a:x.heap.size<=F)(f:n≠F)(h:¬f9 g F)(b d e c:Value) :
  aR ((((I.setCell ⟨F,0,none⟩ b).setCell ⟨F,1,none⟩ d).setCell ⟨F,2,none⟩ e).setCell ⟨F,3,none⟩ c) n N y1 y5 v g /\
  aA n x i ((((I.setCell ⟨F,0,none⟩ b).setCell ⟨F,1,none⟩ d).setCell ⟨F,2,none⟩ e).setCell ⟨F,3,none⟩ c) g:=by
 refine⟨D.kept (ji _ _ _ _) (by simpa using f) (fun k j=>by simp;rintro rfl;exact h j),?_,T.2⟩;exact(((T.1.setCell (QV a) _).setCell (QV a) _).setCell (QV a) _).setCell (QV a) _
theorem ue(G:f.length=4)(d:Db)(q:Nat->Hd)(U:Value)(x n:ByteArray)(j c:Int)(w:World)(h:aR w H T (dM l f) [] d q)(hs:fK d 10000000)(hx:x.size<=1073741824)(hi:AY d 100000000)(hn:(x.toList == [36,91])=false) :
  Calls prog 157 #[.pointer (some ⟨H,0,none⟩),U,.agg #[.string x,.int .i64 0,.bool false,.string n,.int .i64 j,.int .i64 c]] w fun e g =>
   e=.returned (gU (if((aX d x ⟨n,j,c⟩).1==0)=true then cY else((aX d x ⟨n,j,c⟩).1,⟨n,j,c⟩))) /\
   ∃R,aR g H T (dM l f) [] (aX d x ⟨n,j,c⟩).2 R/\aA H w q g R:=by
 have X:=h.lt;have L:=fun(g:World) (h':aR g H T (dM l f) [] d q)=>MD H T 5 (dM l f) [] d q x n j c g h' (jl l f G) hs hx hi
 unfold im at L;have u:=hI L;clear L;generalize aX d x ⟨n,j,c⟩=td at *;obtain⟨r,d'⟩:=td;simp only at u;obtain⟨W,B⟩:∃W,W=((w.alloc (.cells #[.string x,.int .i64 0,.bool false,.string n,.int .i64 j,.int .i64 c] 255)).alloc (.cells #[.int .i64 0,.string ⟨#[]⟩,.int .i64 0,.int .i64 0] 87)):=⟨_,rfl⟩
 have S:ab [] w W:=by rw[B];exact((ab.refl [] w).alloc _).alloc _
 have P:aR W H T (dM l f) [] d q:=h.Vb S
 have m:W.heap[w.heap.size]?=some (.cells #[.string x,.int .i64 0,.bool false,.string n,.int .i64 j,.int .i64 c] 255 (0,0)):=by
  rw[B];exact((ab.refl [] _).alloc _).get (QS _ _) (by simp)
 have N:W.heap[w.heap.size+1]?=some (.cells bA 87 (0,0)):=by
  rw[B];have:=QS (w.alloc (.cells #[.string x,.int .i64 0,.bool false,.string n,.int .i64 j,.int .i64 c] 255)) (.cells #[.int .i64 0,.string ⟨#[]⟩,.int .i64 0,.int .i64 0] 87);simpa [bA] using this
 have s:Hid (∀k,w.heap.size<=k->¬(k=H∨f9 q k)):=by
  rintro k hk (e | D)
  ·omega
  ·have:=h.inlt D;omega
 have HW:=hI B.symm;clear B h;have i0:W.cell? ⟨w.heap.size,0,none⟩=some (.string x):=by rw[aa m];rfl
 have i3:W.cell? ⟨w.heap.size,3,none⟩=some (.string n):=by rw[aa m];rfl
 have i4:W.cell? ⟨w.heap.size,4,none⟩=some (.int .i64 j):=by rw[aa m];rfl
 have i5:W.cell? ⟨w.heap.size,5,none⟩=some (.int .i64 c):=by rw[aa m];rfl
 have A:=(show Hid _ from fun(a:World) (b:Nat->Hd) (v:aR a H T (dM l f) [] d' b) (i:aA H W.drew q a b) (a0 a1 a2 V:Value) =>
  nN v ((i.first (ab.refl [] W).drew).first S) (F:=w.heap.size+1) (by omega) (by omega) (i.fresh (w.heap.size+1) (by exact ae N) (fun D=>s.out (w.heap.size+1) (by omega) (QV D))) a0 a1 a2 V)
 have t:=hI (fun(a:World) (b:Nat->Hd) (i:aA H W.drew q a b)=>(show _/\_ from⟨i.1.get (by exact m) (s.out _ (QR _)),i.1.get (by exact N) (s.out _ (by omega))⟩))
 have O:∀(a:World) (b:Nat->Hd) (_:aA H W.drew q a b),a.cell? ⟨w.heap.size,0,none⟩=some (.string x)/\a.cell? ⟨w.heap.size,3,none⟩=some (.string n)/\a.cell? ⟨w.heap.size,4,none⟩=some (.int .i64 j)/\a.cell? ⟨w.heap.size,5,none⟩=some (.int .i64 c):=by
  intro a b i;have M:=(t.out a b i).1;refine⟨?_,?_,?_,?_⟩ <;> (rw[aa M];rfl)
 have z:=hI O;clear O;go_enter func157,ntmps157
 go_upto_region 1 with fail
 rw[HW.out]
 go_upto_region 3 with fail
 cases Q:(r==0)
 ·have E:(r != 0)=true:=by simp[bne,Q]
  go_region_held3 (fun g=>g.cell? ⟨w.heap.size,0,none⟩=some (.string x)/\g.cell? ⟨w.heap.size,3,none⟩=some (.string n)/\g.cell? ⟨w.heap.size,4,none⟩=some (.int .i64 j)/\g.cell? ⟨w.heap.size,5,none⟩=some (.int .i64 c)) (go_keep) (first | (go_at_call 206;refine(u.out _ (by exact P.Vb (ab.refl [] _).drew)).mono ?_;rintro e a ⟨rfl,b,v,i⟩;obtain⟨r0,Y,r4,Z⟩:=z.out a b i))
  all_goals
   have o:=(t.out a b i).2;have p:=hI (A.out a b v i);obtain⟨J,K,C,I⟩:=b8 o;have y:=am o;go_wp2
   exact QY (v:=.agg #[.int .i64 r,.string n,.int .i64 j,.int .i64 c]) (by simp[results,results157,go_sem,J,K,C,I]) rfl
    ⟨rfl,b,(p.out _ _ _ _).1,(p.out _ _ _ _).2⟩
 ·have E:(r != 0)=false:=by simp[bne,Q]
  go_region_held3 (fun g=>g.cell? ⟨w.heap.size,0,none⟩=some (.string x)/\g.cell? ⟨w.heap.size,3,none⟩=some (.string n)/\g.cell? ⟨w.heap.size,4,none⟩=some (.int .i64 j)/\g.cell? ⟨w.heap.size,5,none⟩=some (.int .i64 c)) (go_keep) (first | (go_at_call 206;refine(u.out _ (by exact P.Vb (ab.refl [] _).drew)).mono ?_;rintro e a ⟨rfl,b,v,i⟩;obtain⟨r0,Y,r4,Z⟩:=z.out a b i))
  all_goals
   have o:=(t.out a b i).2;have p:=hI (A.out a b v i);obtain⟨J,K,C,I⟩:=b8 o;have y:=am o;go_wp2
   exact QY (v:=.agg #[.int .i64 0,.string ⟨#[]⟩,.int .i64 0,.int .i64 0]) (by simp[results,results157,go_sem,J,K,C,I]) rfl
    ⟨rfl,b,(p.out _ _ _ _).1,(p.out _ _ _ _).2⟩
def jD(b v:Nat)(fs:Fs)(f j:Nat)(bg:List Bool)(d:Db)(H:Nat->Hd)(w:World):Prop :=
 Calls prog 111 #[.pointer (some ⟨b,0,none⟩),.int .i64 j] w fun e w'=>e=.returned (gU (cn fs f j bg d).1)/\∃H',aR w' b 200 (dM v (cn fs f j bg d).2.1) [] (cn fs f j bg d).2.2 H'/\aA b w H w' H'
theorem ki{F:Nat}(D:aR I n N y1 y5 v g)(T:fJ n y9 x i I g)(e:x.heap.size<=F)(f:n≠F)(h:¬f9 g F)(a c d b:Value) :
  aR ((((I.setCell ⟨F,0,none⟩ a).setCell ⟨F,1,none⟩ c).setCell ⟨F,2,none⟩ d).setCell ⟨F,3,none⟩ b) n N y1 y5 v g /\
  fJ n y9 x i ((((I.setCell ⟨F,0,none⟩ a).setCell ⟨F,1,none⟩ c).setCell ⟨F,2,none⟩ d).setCell ⟨F,3,none⟩ b) g :=
 ⟨D.kept (ji _ _ _ _) (by simpa using f) (fun k j=>by simp;rintro rfl;exact h j),T.beyond (ji _ _ _ _) (by simpa using e)⟩
theorem qQ(f:Bool)(p:Nat):gU (iK S y ⟨z4,k,f,p⟩)=.agg #[.int .i64 (if f=true then 7 else k),.string S,.int .i64 (aP y p),.int .i64 (bm y p)]:=rfl
structure rS(w w':World)(b v tt sp z:Nat)(fs:Fs)(more:List Value)(bg:List Bool)(d:Db)(H:Nat->Hd)(n s:ByteArray):Prop where
 D:aR w' b 200 (dM v bg) [] d H
 TB:bi w' v tt fs more
 SC:bV w' sp n s z
 F:w'.heap[w.heap.size+1]?=some (.cells bA 87 (0,0))
 M:fJ b sp w H w' H
theorem rS.Vb(S:rS x I n N y9 y7 yt yr y1 ys v i yd yf)(k:ab [] I zb):rS x zb n N y9 y7 yt yr y1 ys v i yd yf :=
 ⟨S.D.Vb k,S.TB.kept k (by simp),S.SC.kept k (by simp),k.get S.F (by simp),S.M.Vb k⟩
theorem rS.next{a:Nat}(S:rS x I n N y9 y7 yt yr y1 ys v i yd yf)(k:ab [y7] I zb)(f:bV zb y7 yd yf a)(c:y7≠n)(b:N≠y7)(d:¬f9 i y7)(h:y7<x.heap.size):rS x zb n N y9 y7 a yr y1 ys v i yd yf :=
 ⟨S.D.kept k (by simpa using fun e=>c e.symm) (by intro j g;simp;rintro rfl;exact d g),S.TB.kept k (by simpa using b),f,k.get S.F (by simp;omega),S.M.scan k⟩
theorem Cd(bj:f.length=4)(b:Db)(z:Nat->Hd)(n s:ByteArray)(x c:Int)(g:World)(h:aR g D 200 (dM d f) [] b z)(hn:aE w T=n)(b1:ak w T=s)(hs:s.size<=1024)(hz:l<=s.size)(az:bV g o n s l)(ht:bi g d M w L)(Y:o≠D)(bl:d≠o)(ao:¬f9 z o)(RF:Hid (∀(j:Nat) (w':World),j<w.length->aR w' D 200 (dM d f) [] b z->bi w' d M w L->jD D d w H j f b z w')) :
  Calls prog 205 #[.pointer (some ⟨D,0,none⟩),.pointer (some ⟨o,0,none⟩),.agg #[.string n,.int .i64 x,.int .i64 c]] g fun e w' =>
   e=.returned (gU (mX (cn w H) w T l ⟨n,x,c⟩ f b).1.1)/\∃H',aR w' D 200 (dM d (mX (cn w H) w T l ⟨n,x,c⟩ f b).1.2.1) [] (mX (cn w H) w T l ⟨n,x,c⟩ f b).1.2.2 H'/\fJ D o g z w' H' /\
    (((mX (cn w H) w T l ⟨n,x,c⟩ f b).1.1.1==0)=true->bV w' o n s (mX (cn w H) w T l ⟨n,x,c⟩ f b).2):=by
 obtain⟨W,hW⟩:∃W,W=((g.alloc (.cells #[.string n,.int .i64 x,.int .i64 c] 36)).alloc (.cells #[.int .i64 0,.string ⟨#[]⟩,.int .i64 0,.int .i64 0] 87)):=⟨_,rfl⟩
 have hK:ab [] g W:=by rw[hW];exact((ab.refl [] g).alloc _).alloc _
 have b5:=h.lt;have al:=ae az;have cf:=ht.lt;have ba:aR W D 200 (dM d f) [] b z:=h.Vb hK;have SC:bV W o n s l:=az.kept hK (by simp);have TB:bi W d M w L:=ht.kept hK (by simp)
 have hP:W.heap[g.heap.size]?=some (.cells #[.string n,.int .i64 x,.int .i64 c] 36 (0,0)):=by
  rw[hW];exact((ab.refl [] _).alloc _).get (QS _ _) (by simp)
 have hF:W.heap[g.heap.size+1]?=some (.cells bA 87 (0,0)):=by
  rw[hW];have:=QS (g.alloc (.cells #[.string n,.int .i64 x,.int .i64 c] 36)) (.cells #[.int .i64 0,.string ⟨#[]⟩,.int .i64 0,.int .i64 0] 87);simpa [bA] using this
 have A:Hid (∀k,g.heap.size<=k->¬f9 z k):=fun k hk hm=>by have:=h.inlt hm;omega
 have HW:=hI hW.symm;have ca:=ae hF;have MK:Hid (fJ D o g z W z):=(fJ.refl D o g z).Vb hK;clear hW h az ht;have J:Hid (mX (cn w H) w T l ⟨n,x,c⟩ f b=match rx w T l ⟨n,x,c⟩ b with | .inl q=>((q,f,b),l) | .inr (j,z')=>(cn w H j f b,z')):=rfl;have B:Hid (rx w T l ⟨n,x,c⟩ b=_):=(show rx w T l ⟨n,x,c⟩ b=_ from by unfold rx;rw[hn,b1])
 cases ho:kp b
 ·have ax:=fG s l hz
  have bT:=rF s l hs;have bk:=fG s (ay s l).2 ax.2.1;have a7:=pI (ay s l).1.text w;generalize hr1:ay s l=r1 at *;obtain⟨⟨S,u1,f1,E⟩,z1⟩:=r1;simp only at ax bT bk a7 B;have bp:=rF s z1 hs;generalize hr2:ay s z1=r2 at *;obtain⟨⟨t2,u2,f2,Q⟩,z2⟩:=r2;simp only at bk bp B;rw[ho]at B;have S0:rS g W D d M o l w L f b z n s:=⟨ba,TB,SC,hF,MK.out⟩;go_enter func205,ntmps205
  go_upto_region 1 with fail
  rw[HW.out];go_wp2_with fail;refine(sX D 200 5 (dM d f) [] b z _ ba (jl d f bj)).mono ?_;rintro e w1 ⟨rfl,v⟩;subst v;rw[ho];go_wp2_with fail;refine(sV o l n s _ hs hz SC).mono ?_;rintro e w2 ⟨rfl,ag,aT⟩;rw[hr1]at ag ⊢;simp only[fg]at ag ⊢;have S2:=S0.next aT ag Y bl ao al;obtain⟨W3,ai⟩:∃W3,W3=w2.alloc (.cells #[.string S,.int .i64 u1,.bool f1,.string n,.int .i64 (aP s E),.int .i64 (bm s E)] 255):=⟨_,rfl⟩
  have be:=hI ai.symm;have S3:rS g W3 D d M o z1 w L f b z n s:=by rw[ai];exact S2.Vb ((ab.refl [] _).alloc _)
  have I3:jx W3 w2.heap.size n s ⟨S,u1,f1,E⟩:=by rw[ai];exact QS _ _
  clear ai S0 S2 ag aT ba TB SC hP hF hK HW hr1
  go_upto_region 4 with fail
  rw[be.out];clear be;obtain⟨t,u,m,p,a4,Z⟩:=I3.cells;go_wp2_with fail;refine(cK S n u1 (aP s E) (bm s E) f1 _).mono ?_;rintro e w4 ⟨rfl,ap⟩;have I:=S3.Vb ap;have I4:=I3.kept ap (by simp);clear t u m p a4 Z S3 I3 ap;obtain⟨t,u,m,p,a4,Z⟩:=I4.cells;have b6:=ae I4;have b4:=ae I.F
  cases v:(u1==0 && !f1)
  ·have i:Hid (mX (cn w H) w T l ⟨n,x,c⟩ f b=((iK n s ⟨S,u1,f1,E⟩,f,b),l)):=by
    show _=_;rw[J.out,B.out];simp[aI,v]
   clear J B;go_wp2_with fail;refine(na S n u1 (aP s E) (bm s E) f1 _).mono ?_;rintro e w5 ⟨rfl,bw⟩;obtain⟨q,hq⟩:∃q:Int,Hid ((if f1=true then(7:Int) else u1)=q):=⟨_,rfl⟩
   rw[hq.out];have V:=I.Vb bw;obtain⟨N,P,K,O⟩:=b8 V.F;have y:=am V.F;have a:=hI (fun t u m p=>ki V.D V.M (F:=g.heap.size+1) (by omega) (by omega) (A.out _ (by omega)) t u m p);clear t u m p a4 Z;go_wp2
   exact QY (v:=.agg #[.int .i64 q,.string n,.int .i64 (aP s E),.int .i64 (bm s E)]) (by simp[results,results205,go_sem,N,P,K,O]) rfl
    ⟨by rw[i.out,qQ,hq.out],z,by rw[i.out];exact(a.out _ _ _ _).1,(a.out _ _ _ _).2,by
     rw[i.out];intro C
     exfalso
     simp only[iK]at C
     cases f1
     ·simp at v C;exact v C
     ·simp at C⟩
  ·have b3:u1=0:=by simp at v;exact v.1
   have br:f1=false:=by simp at v;exact v.2
   subst b3 br
   cases U:dA S
   ·have b0:w4.cell? ⟨D,0,none⟩=some (.pointer (some ⟨d,0,none⟩)):=I.D.preCell 0 (by simp[dM])
    rcases a7 with an | ⟨j,hj,ad⟩
    ·have i:Hid (mX (cn w H) w T l ⟨n,x,c⟩ f b=(((6,kK n s E),f,b),l)):=by
      show _=_;rw[J.out,B.out];simp[aI,U,an]
     clear J B
     go_upto_region 8 with (go_at_call 231;refine(dV S _ (by omega)).mono ?_;rintro e w5 ⟨rfl,rfl⟩)
     go_quiet ((go_at_call 50;exact Rd (lN d M w L S _ (I.Vb ((ab.refl [] _).drewN _)).TB)))
     have V:=I.Vb ((ab.refl [] _).drewN nq);rw[an];obtain⟨N,P,K,O⟩:=b8 I.F;have y:=am I.F;have a:=hI (fun t u m p=>ki V.D V.M (F:=g.heap.size+1) (by omega) (by omega) (A.out _ (by omega)) t u m p);go_wp2
     exact QY (v:=.agg #[.int .i64 6,.string n,.int .i64 (aP s E),.int .i64 (bm s E)]) (by simp[results,results205,go_sem,N,P,K,O]) rfl
      ⟨by rw[i.out];rfl,z,by rw[i.out];exact(a.out _ _ _ _).1,(a.out _ _ _ _).2,by rw[i.out];intro C;cases C⟩
    ·go_upto_region 8 with (go_at_call 231;refine(dV S _ (by omega)).mono ?_;rintro e w5 ⟨rfl,rfl⟩)
     go_quiet ((go_at_call 50;exact Rd (lN d M w L S _ (I.Vb ((ab.refl [] _).drewN _)).TB)))
     rw[ad];have V:=I.Vb ((ab.refl [] _).drewN nq);go_wp2_with fail;refine(sV o z1 n s _ hs ax.2.1 V.SC).mono ?_;rintro e w6 ⟨rfl,ac,bc⟩;rw[hr2]at ac ⊢;simp only[fg]at ac ⊢;have S6:=V.next bc ac Y bl ao al;obtain⟨W7,af⟩:∃W7,W7=w6.alloc (.cells #[.string t2,.int .i64 u2,.bool f2,.string n,.int .i64 (aP s Q),.int .i64 (bm s Q)] 255):=⟨_,rfl⟩
     have bd:=hI af.symm;have S7:rS g W7 D d M o z2 w L f b z n s:=by rw[af];exact S6.Vb ((ab.refl [] _).alloc _)
     have I7:jx W7 w6.heap.size n s ⟨t2,u2,f2,Q⟩:=by rw[af];exact QS _ _
     clear af I V S6 ac bc I4 t u m p a4 Z b0
     go_upto_region 12 with fail
     rw[bd.out];clear bd;obtain⟨t,u,m,p,a4,Z⟩:=I7.cells;go_wp2_with fail;refine(cK t2 n u2 (aP s Q) (bm s Q) f2 _).mono ?_;rintro e w8 ⟨rfl,aS⟩;have X:=S7.Vb aS;have I8:=I7.kept aS (by simp);clear t u m p a4 Z S7 I7 aS;obtain⟨t,u,m,p,a4,Z⟩:=I8.cells;have cb:=ae I8;have a6:=ae X.F;have ar:¬((j:Int)<0):=by omega
     cases G:(u2==0 && !f2)
     ·have i:Hid (mX (cn w H) w T l ⟨n,x,c⟩ f b=((iK n s ⟨t2,u2,f2,Q⟩,f,b),l)):=by
       show _=_;rw[J.out,B.out,ad];simp[aI,U,G,ar]
      clear J B;go_wp2_with fail;refine(na t2 n u2 (aP s Q) (bm s Q) f2 _).mono ?_;rintro e w9 ⟨rfl,bs⟩;obtain⟨q,hq⟩:∃q:Int,Hid ((if f2=true then(7:Int) else u2)=q):=⟨_,rfl⟩
      rw[hq.out];have S9:=X.Vb bs;obtain⟨N,P,K,O⟩:=b8 S9.F;have y:=am S9.F;have a:=hI (fun t u m p=>ki S9.D S9.M (F:=g.heap.size+1) (by omega) (by omega) (A.out _ (by omega)) t u m p);clear t u m p a4 Z;go_wp2
      exact QY (v:=.agg #[.int .i64 q,.string n,.int .i64 (aP s Q),.int .i64 (bm s Q)]) (by simp[results,results205,go_sem,N,P,K,O]) rfl
       ⟨by rw[i.out,qQ,hq.out],z,by rw[i.out];exact(a.out _ _ _ _).1,(a.out _ _ _ _).2,by
        rw[i.out];intro C
        exfalso
        simp only[iK]at C
        cases f2
        ·simp at G C;exact G C
        ·simp at C⟩
     ·have bz:u2=0:=by simp at G;exact G.1
      have bv:f2=false:=by simp at G;exact G.2
      subst bz bv
      cases bo:(t2.toList == [36,93])
      ·have i:Hid (mX (cn w H) w T l ⟨n,x,c⟩ f b=(((5,kK n s Q),f,b),l)):=by
        show _=_;rw[J.out,B.out,ad];simp[aI,U,bo,ar]
       clear J B;obtain⟨N,P,K,O⟩:=b8 X.F;have y:=am X.F;have a:=hI (fun t u m p=>ki X.D X.M (F:=g.heap.size+1) (by omega) (by omega) (A.out _ (by omega)) t u m p);go_wp2
       exact QY (v:=.agg #[.int .i64 5,.string n,.int .i64 (aP s Q),.int .i64 (bm s Q)]) (by simp[results,results205,go_sem,N,P,K,O]) rfl
        ⟨by rw[i.out];rfl,z,by rw[i.out];exact(a.out _ _ _ _).1,(a.out _ _ _ _).2,by rw[i.out];intro C;cases C⟩
      ·have i:Hid (mX (cn w H) w T l ⟨n,x,c⟩ f b=(cn w H j f b,z2)):=by
        show _=_;rw[J.out,B.out,ad];simp[aI,U,bo,ar]
       clear J B;have RJ:=RF.out j w8 hj X.D X.TB;unfold jD at RJ;have bf:=hI RJ;clear RJ RF;generalize cn w H j f b=R at *;obtain⟨⟨r,pf,pl,pc⟩,cc,d'⟩:=R;simp only[gU]at bf;go_wp2_with fail;refine QU bf.out ?_;rintro e w9 ⟨rfl,H9,D9,T9⟩;have F9:=T9.1.get X.F (by rintro (e | e);omega;exact A.out _ (by omega) e);have b2:bV w9 o n s z2:=T9.1.get X.SC (by rintro (e | e);exact Y e;exact ao e);obtain⟨N,P,K,O⟩:=b8 F9;have y:=am F9;have a:=hI (fun t u m p=>ki D9 (X.M.trans (T9.Vg o)) (F:=g.heap.size+1) (by omega) (by omega) (T9.fresh _ a6 (A.out _ (by omega))) t u m p);have bx:=hI (fun t u m p=>b2.kept (ji (r:=g.heap.size+1) t u m p) (by simp;omega));clear t u m p a4 Z;go_wp2
       exact QY (v:=.agg #[.int .i64 r,.string pf,.int .i64 pl,.int .i64 pc]) (by simp[results,results205,go_sem,N,P,K,O]) rfl
        ⟨by rw[i.out];rfl,H9,by rw[i.out];exact(a.out _ _ _ _).1,(a.out _ _ _ _).2,by rw[i.out];exact fun _=>bx.out _ _ _ _⟩
   ·have i:Hid (mX (cn w H) w T l ⟨n,x,c⟩ f b=(((5,kK n s E),f,b),l)):=by
     show _=_;rw[J.out,B.out];simp[aI,U]
    clear J B;obtain⟨N,P,K,O⟩:=b8 I.F;have y:=am I.F;have a:=hI (fun t u m p=>ki I.D I.M (F:=g.heap.size+1) (by omega) (by omega) (A.out _ (by omega)) t u m p);go_wp2_with (go_at_call 231;refine(dV S _ (by omega)).mono ?_;rintro e w5 ⟨rfl,rfl⟩)
    exact QY (v:=.agg #[.int .i64 5,.string n,.int .i64 (aP s E),.int .i64 (bm s E)]) (by simp[results,results205,go_sem,N,P,K,O]) rfl
     ⟨by rw[i.out];rfl,z,by rw[i.out];exact(a.out _ _ _ _).1,(a.out _ _ _ _).2,by rw[i.out];intro C;cases C⟩
 ·have i:Hid (mX (cn w H) w T l ⟨n,x,c⟩ f b=(((4,⟨n,x,c⟩),f,b),l)):=by
   show _=_;rw[J.out,B.out,ho];simp
  clear J B;have i0:W.cell? ⟨g.heap.size,0,none⟩=some (.string n):=by rw[aa hP];rfl
  have i1:W.cell? ⟨g.heap.size,1,none⟩=some (.int .i64 x):=by rw[aa hP];rfl
  have i2:W.cell? ⟨g.heap.size,2,none⟩=some (.int .i64 c):=by rw[aa hP];rfl
  obtain⟨N,P,K,O⟩:=b8 hF;have y:=am hF;have a:=hI (fun t u m p=>ki ba MK.out (F:=g.heap.size+1) (by omega) (by omega) (A.out _ (by omega)) t u m p);go_enter func205,ntmps205
  go_upto_region 1 with fail
  rw[HW.out];go_wp2_with fail;refine(sX D 200 5 (dM d f) [] b z _ ba (jl d f bj)).mono ?_;rintro e w1 ⟨rfl,v⟩;subst v;rw[ho];go_wp2
  exact QY (v:=.agg #[.int .i64 4,.string n,.int .i64 x,.int .i64 c]) (by simp[results,results205,go_sem,N,P,K,O]) rfl
   ⟨by rw[i.out];rfl,z,by rw[i.out];exact(a.out _ _ _ _).1,(a.out _ _ _ _).2,by rw[i.out];intro C;cases C⟩
theorem Aw(E:f.length=4)(g:Db)(p:Nat->Hd)(n s t:ByteArray)(a c:Int)(b:World)(h:aR b D 200 (dM d f) [] g p)(hn:aE w T=n)(Z:ak w T=s)(hs:s.size<=1024)(hz:l<=s.size)(u:bV b o n s l)(ht:bi b d M w L)(q:o≠D)(ac:d≠o)(v:¬f9 p o)(U:fK g 10000000)(N:t.size<=1073741824)(ad:AY g 100000000)(RF:Hid (∀(j:Nat) (m:World),j<w.length->aR m D 200 (dM d f) [] g p->bi m d M w L->jD D d w H j f g p m)) :
  Calls prog 157 #[.pointer (some ⟨D,0,none⟩),.pointer (some ⟨o,0,none⟩),.agg #[.string t,.int .i64 0,.bool false,.string n,.int .i64 a,.int .i64 c]] b fun e m =>
   e=.returned (gU (jN (cn w H) w T l t ⟨n,a,c⟩ f g).1.1)/\∃J,aR m D 200 (dM d (jN (cn w H) w T l t ⟨n,a,c⟩ f g).1.2.1) [] (jN (cn w H) w T l t ⟨n,a,c⟩ f g).1.2.2 J/\fJ D o b p m J /\
    (((jN (cn w H) w T l t ⟨n,a,c⟩ f g).1.1.1==0)=true->bV m o n s (jN (cn w H) w T l t ⟨n,a,c⟩ f g).2):=by
 cases X:(t.toList == [36,91])
 ·have K:jN (cn w H) w T l t ⟨n,a,c⟩ f g=((if((aX g t ⟨n,a,c⟩).1==0)=true then cY else((aX g t ⟨n,a,c⟩).1,⟨n,a,c⟩),f,(aX g t ⟨n,a,c⟩).2),l):=by
   unfold jN;rw[X];simp
  rw[K];refine(ue D 200 d f E g p _ t n a c b h U N ad X).mono ?_;rintro e m ⟨rfl,J,D',T'⟩;exact⟨rfl,J,D',T'.Vg o,fun _=>T'.1.get u (by rintro (e | e);exact q e;exact v e)⟩
 ·have K:jN (cn w H) w T l t ⟨n,a,c⟩ f g=mX (cn w H) w T l ⟨n,a,c⟩ f g:=by
   unfold jN;rw[X];simp
  rw[K];obtain⟨W,G⟩:∃W,W=((b.alloc (.cells #[.string t,.int .i64 0,.bool false,.string n,.int .i64 a,.int .i64 c] 255)).alloc (.cells #[.int .i64 0,.string ⟨#[]⟩,.int .i64 0,.int .i64 0] 87)):=⟨_,rfl⟩
  have I:ab [] b W:=by rw[G];exact((ab.refl [] b).alloc _).alloc _
  have ag:=h.lt;have af:=ae u
  have i:W.heap[b.heap.size]?=some (.cells #[.string t,.int .i64 0,.bool false,.string n,.int .i64 a,.int .i64 c] 255 (0,0)):=by
   rw[G];exact((ab.refl [] _).alloc _).get (QS _ _) (by simp)
  have hF:W.heap[b.heap.size+1]?=some (.cells bA 87 (0,0)):=by
   rw[G];have:=QS (b.alloc (.cells #[.string t,.int .i64 0,.bool false,.string n,.int .i64 a,.int .i64 c] 255)) (.cells #[.int .i64 0,.string ⟨#[]⟩,.int .i64 0,.int .i64 0] 87);simpa [bA] using this
  have i0:W.cell? ⟨b.heap.size,0,none⟩=some (.string t):=by rw[aa i];rfl
  have i3:W.cell? ⟨b.heap.size,3,none⟩=some (.string n):=by rw[aa i];rfl
  have i4:W.cell? ⟨b.heap.size,4,none⟩=some (.int .i64 a):=by rw[aa i];rfl
  have i5:W.cell? ⟨b.heap.size,5,none⟩=some (.int .i64 c):=by rw[aa i];rfl
  have IC:=Cd D d M o H T l w L f E g p n s a c W (h.Vb I) hn Z hs hz (u.kept I (by simp)) (ht.kept I (by simp)) q ac v RF;have C:=hI IC;have z:Hid (∀k,b.heap.size<=k->¬f9 p k):=fun k hk hm=>by have:=h.inlt hm;omega
  have HW:=hI G.symm;have V:=ae hF;clear G IC RF K h;generalize mX (cn w H) w T l ⟨n,a,c⟩ f g=R at *;obtain⟨⟨⟨r,pf,pl,pc⟩,ai,d'⟩,z'⟩:=R;simp only[gU]at C ⊢;go_enter func157,ntmps157
  go_upto_region 1 with fail
  rw[HW.out];go_wp2_with fail;refine QU C.out ?_;rintro e w2 ⟨rfl,H2,D2,M2,x⟩;have A:=M2.1.get hF (by rintro (e | e | e);omega;omega;exact z.out _ (by omega) e);obtain⟨j0,j1,j2,j3⟩:=b8 A;have y:=am A;have B:=hI (fun S Y O P=>ki D2 (M2.first I) (F:=b.heap.size+1) (by omega) (by omega) (M2.fresh _ V (z.out _ (by omega))) S Y O P);have Q:=hI (fun S Y O P hh=>(x hh).kept (ji (r:=b.heap.size+1) S Y O P) (by simp;omega));clear x i0 i3 i4 i5;go_wp2
  exact QY (v:=.agg #[.int .i64 r,.string pf,.int .i64 pl,.int .i64 pc]) (by simp[results,results157,go_sem,j0,j1,j2,j3]) rfl
   ⟨rfl,H2,(B.out _ _ _ _).1,(B.out _ _ _ _).2,fun hh=>Q.out _ _ _ _ hh⟩
theorem Cv :
  Calls prog 153 #[.agg #[.string y,.string z4]] y0 fun e a=>∃s,e=.returned (.pointer (some ⟨s,0,none⟩))/\y0.heap.size<=s/\bV a s y z4 0/\ab [] y0 a:=by
 go_enter func153,ntmps153;go_wp2;go_ret;refine⟨y0.heap.size+1,rfl,by omega,?_,((ab.refl _ _).alloc _).alloc _⟩;have:=QS (y0.alloc (.cells #[.string y,.string z4] 68)) (.cells #[.string y,.string z4,.int .i64 0,.int .i64 1,.int .i64 1] 300);simpa [bV,mw,aP,bm] using this
theorem aA.beyond(T:aA n x i I g)(k:ab ya I zb)(f:∀c,c∈ya->x.heap.size<=c):aA n x i zb g :=
 ⟨⟨k.os.trans T.1.os,k.tape.trans T.1.tape,k.output.trans T.1.output,Q3 T.1.size k.size,fun a b e=>by
  rw[<-T.1.block a b e];exact k.block a (QX b T.1.size) (fun d=>by have:=f a d;omega)⟩,T.2⟩
theorem aA.word(T:aA n x i I g)(M:fJ n N I g zb yg)(d:x.heap.size<=N):aA n x i zb yg:=by
 refine⟨⟨M.1.os.trans T.1.os,M.1.tape.trans T.1.tape,M.1.output.trans T.1.output,Q3 T.1.size M.1.size,?_⟩,?_⟩
 ·intro k a b
  rw[<-T.1.block k a b];refine M.1.block k (QX a T.1.size) ?_;rintro (e | e | c)
  ·exact b (Q1 e)
  ·omega
  ·rcases T.2 k c with h | h
   ·exact b (QV h)
   ·omega
 ·intro k a
  rcases M.2 k a with h | h
  ·exact T.2 k h
  ·exact QV (Q3 T.1.size h)
theorem Jj:(dM l f).set (1+z7) (.bool true)=dM l (f.set z7 true):=by
 unfold dM;rw[Nat.add_comm 1 z7,SB,Tn]
theorem CK(h:f.length=4)(a:z7<4):(dM l f)[1+z7]?=some (.bool (f.getD z7 true)):=by
 unfold dM;rw[Nat.add_comm 1 z7,SE,Rq,QQ];rw[QP (by omega)];rfl
theorem wS(a:f.length=4)(d:Db)(b:Nat->Hd)(c:World)(k:l<4)(h:aR c o 200 (dM H f) [] d b)(e:f.getD l true=true):jD o H w T l f d b c:=by
 unfold jD cn;rw[QW e];have j:=h.lt;have g:=h.preCell (1+l) (by rw[jl H f a];omega);rw[CK H f l a k,e]at g;have m:Hid (¬f9 b c.heap.size):=fun i=>by have:=h.inlt i;omega
 go_enter func111,ntmps111;go_wp2
 exact QY (v:=.agg #[.int .i64 0,.string ⟨#[]⟩,.int .i64 0,.int .i64 0]) (by simp[results,results111,go_sem]) rfl
  ⟨rfl,b,h.Vb ((ab.refl [] _).alloc _),(aA.refl _ _ _).Vb ((ab.refl [] _).alloc _)⟩
theorem xP(b3:∀j,j<w.length->(ak w j).size<=1024)(bl:H≠o)(IH:∀g,g<l->∀(j:Nat) (C:List Bool) (d:Db) (J:Nat->Hd) (i:World) (m:Nat),j<w.length->C.length=4->nE d m->m+dP w C<=9000000->dP w C<=g->aR i o 200 (dM H C) [] d J->bi i H T w L->¬f9 J H->jD o H w g j C d J i)(j:Nat)(C:List Bool)(d:Db)(J:Nat->Hd)(i:World)(m:Nat)(hj:j<w.length)(ap:C.length=4)(hB:nE d m)(hm:m+dP w C<=9000000)(hf:dP w C<=l)(h:aR i o 200 (dM H C) [] d J)(ht:bi i H T w L)(br:¬f9 J H)(hb:C.getD j true=false):jD o H w l j C d J i:=by
 unfold jD cn;rw[QT (by rw[hb];simp)];have cz:=ht.2;have hs:=b3 j hj;have bx:=wG w C j ap hb;obtain⟨n,hn⟩:∃n,aE w j=n:=⟨_,rfl⟩
 obtain⟨s,ai⟩:∃s,ak w j=s:=⟨_,rfl⟩
 rw[ai]at hs bx;have cH:=h.lt;have b4:=h.free;have c4:=ht.lt;have c1:=h.preCell (1+j) (by rw[jl H C ap];omega);rw[CK H C j ap (by omega),hb]at c1;have c0:=h.preCell 0 (by simp[dM]);have ck:i.cell? ⟨o,0,none⟩=some (.pointer (some ⟨H,0,none⟩)):=c0;clear c0;have P1:=h.pre (1+j) (by rw[jl H C ap];omega) (.bool true);rw[Jj]at P1;obtain⟨f,ao⟩:∃f,C.set j true=f:=⟨_,rfl⟩
 have ch:f.length=4:=by rw[<-ao];simpa using ap
 rw[ao]at P1 bx ⊢;clear ao;obtain⟨W,hW⟩:∃W,W=(i.setCell ⟨o,1+j,none⟩ (.bool true)).alloc (.cells #[.int .i64 0,.string ⟨#[]⟩,.int .i64 0,.int .i64 0] 87):=⟨_,rfl⟩
 have D1:aR W o 200 (dM H f) [] d J:=by rw[hW];exact P1.1.Vb ((ab.refl [] _).alloc _)
 have T1:aA o i J W J:=by rw[hW];exact P1.2.Vb ((ab.refl [] _).alloc _)
 have F1:W.heap[i.heap.size]?=some (.cells bA 87 (0,0)):=by
  rw[hW];have:=QS (i.setCell ⟨o,1+j,none⟩ (.bool true)) (.cells bA 87);simpa [World.setCell,bA] using this
 have bd:bi W H T w L:=⟨T1.1.get ht.1 (by rintro (e | e);exact bl e;exact br e),ht.2⟩;have aT:Hid (∀k,i.heap.size<=k->¬f9 J k):=fun k hk hm=>by have:=h.inlt hm;omega
 have HW:=hI hW.symm;have cs:=hI IH;clear P1 hW IH;go_enter func111,ntmps111;go_wp2_with fail;rw[HW.out];clear HW c1 ck b4 ht h;refine(Lf H T j w L _ bd hj).mono ?_;rintro e w2 ⟨rfl,R⟩;rw[hn,ai];go_wp2_with fail;refine(Cv n s _).mono ?_;rintro e w3 ⟨sp,rfl,cV,h3,ad⟩;go_wp2_with fail;refine(sV sp 0 n s _ hs (by omega) h3).mono ?_;rintro e w4 ⟨rfl,h4,Y⟩;have c5:=ae F1;have cX:=R.size;have cP:=ad.size;have c3:=Y.size;have cF:i.heap.size<sp:=by omega
 have b1:sp≠o:=by omega
 have bz:H≠sp:=by omega
 have T4:aA o i J w4 J:=(((T1.Vb R).Vb ad).beyond Y (by simp;omega));have F4:w4.heap[i.heap.size]?=some (.cells bA 87 (0,0)):=Y.get (ad.get (R.get F1 (by simp)) (by simp)) (by simp;omega);have D4:aR w4 o 200 (dM H f) [] d J:=((D1.Vb R).Vb ad).kept Y (by simp;omega) (by intro k hk;simp;rintro rfl;exact aT.out _ (by omega) hk);have bv:bi w4 H T w L:=((bd.kept R (by simp)).kept ad (by simp)).kept Y (by simp;omega);have cB:=ae h4;clear D1 T1 F1 bd R ad Y h3;simp only[fg];go_wp2
 go_loopg [7] s.size (fun gk _ wr=>∃(k g m1:Nat) (b:List Bool) (A:Db) (M:Nat->Hd),k<=s.size/\gk=s.size-k/\b.length=4/\nE A m1/\m1+(s.size-k)+dP w b<=9000000/\(s.size-k)+dP w b+1<=g/\g<=l /\
  Hid (bq w l j 0 f d=bq w g j k b A)/\bV wr sp n s (ay s k).2/\jx wr w4.heap.size n s (ay s k).1 /\
  wr.heap[i.heap.size]?=some (.cells bA 87 (0,0))/\aR wr o 200 (dM H b) [] A M/\bi wr H T w L/\aA o i J wr M/\(¬f9 M sp/\¬f9 M w4.heap.size/\¬f9 M i.heap.size/\¬f9 M H))
 case atStart=>exact⟨0,l,m,f,d,J,by omega,by omega,ch,hB,by omega,by omega,QR _,rfl,h4.kept ((ab.refl [] _).alloc _) (by simp),QS _ _,((ab.refl [] _).alloc _).get F4 (by simp),D4.Vb ((ab.refl [] _).alloc _),bv.kept ((ab.refl [] _).alloc _) (by simp),T4.Vb ((ab.refl [] _).alloc _),aT.out _ (by omega),aT.out _ (by omega),aT.out _ (by omega),br⟩
 case round =>
  obtain⟨k,g,m1,b,A,M,hk,hg,ar,aS,cR,cS,c6,hR,h5,c,hF,D,TB,az,bT,bs,P,bf⟩:=hrel;obtain⟨K,rfl⟩:∃K,g=K+1:=⟨g-1,by omega⟩
  clear D4 T4 F4 bv h4;have bo:=fG s k hk;have b5:=rF s k hs;have SK:=C7 w K (Ll w K).2 j k b A m1 (by rw[ai];exact hk) ar aS;have L1:=yD w K j k b A;have L2:=ox w K j k b A;have L3:=zW w K j k b A;have L4:=wk w K j k b A;have ST:fZ w K j k b A=jN (cn w K) w j (ay s k).2 (ay s k).1.text (kK n s (ay s k).1.pos) b A:=by unfold fZ;rw[hn,ai]
  rw[ai]at SK L1 L2 L3 L4;rw[hn]at L4;rw[ST]at SK L1 L2;have L6:aI (ay s k).1=false->(ay s k).1.fin=false->((ay s k).1.rule==0)=false:=km;have S:=hI SK;have af:=hI L1;have ag:=hI L2;have ac:=hI L3;have O:=hI L4;have an:=hI L6;clear SK L1 L2 L3 L4 L6 ST;generalize hrr:ay s k=r at *;obtain⟨⟨t,u,fi,p⟩,z⟩:=r;clear hrr;simp only at h5 c bo b5 S af ag ac O an;obtain⟨Z,q1,X,q3,V,q5⟩:=c.cells;have c2:=ae hF;have c8:=ae h5;have cT:=ae c;have cL:=D.lt
  cases hw:(u==0 && !fi)
  ·cases fi
   ·have HF:Hid (bq w l j 0 f d=(iK n s ⟨t,u,false,p⟩,b,A)):=hR.out.trans (O.out hw (by simp))
    have hu:(u==0)=false:=by simpa using hw
    clear af ag ac O an S;go_wp2_with fail;refine(cK t n _ (aP s p) (bm s p) _ _).mono ?_;rintro e w5 ⟨rfl,a⟩;have v:=c.kept a (by simp);have q:=a.get hF (by simp);have D5:=D.Vb a;have T5:=az.Vb a;clear Z q1 X q3 V q5 c h5 hF D az a TB;obtain⟨Z,q1,X,q3,V,q5⟩:=v.cells;go_wp2_with fail;refine(na t n u (aP s p) (bm s p) _ _).mono ?_;rintro e w6 ⟨rfl,bc⟩;simp only[Bool.false_eq_true,if_false];have B:=bc.get q (by simp);have D6:=D5.Vb bc;have T6:=T5.Vb bc;have x:=hI (fun a0 a1 a2 a3=>nN D6 T6 (F:=i.heap.size) (QR _) (by omega) P a0 a1 a2 a3);obtain⟨z0,z1,z2,z3⟩:=b8 B;have y:=am B;go_wp2
    exact QY (v:=.agg #[.int .i64 u,.string n,.int .i64 (aP s p),.int .i64 (bm s p)]) (by simp[results,results111,go_sem,z0,z1,z2,z3]) rfl
     ⟨by rw[HF.out];rfl,M,by rw[HF.out];exact(x.out _ _ _ _).1,(x.out _ _ _ _).2⟩
   ·cases ho:kp A
    ·have HF:Hid (bq w l j 0 f d=(cY,b,A)):=hR.out.trans (ac.out hw rfl ho)
     clear af ag ac O an S;go_wp2_with fail;refine(cK t n _ (aP s p) (bm s p) _ _).mono ?_;rintro e w5 ⟨rfl,a⟩;have v:=c.kept a (by simp);have q:=a.get hF (by simp);have D5:=D.Vb a;have T5:=az.Vb a;clear Z q1 X q3 V q5 c h5 hF D az a TB;obtain⟨Z,q1,X,q3,V,q5⟩:=v.cells;go_wp2_with fail;refine(sX o 200 5 (dM H b) [] A M _ D5 (jl H b ar)).mono ?_;rintro e w6 ⟨rfl,ba⟩;subst ba;rw[ho];have x:=hI (fun a0 a1 a2 a3=>nN D5 T5 (F:=i.heap.size) (QR _) (by omega) P a0 a1 a2 a3);obtain⟨z0,z1,z2,z3⟩:=b8 q;have y:=am q;go_wp2
     exact QY (v:=.agg #[.int .i64 0,.string ⟨#[]⟩,.int .i64 0,.int .i64 0]) (by simp[results,results111,go_sem,z0,z1,z2,z3]) rfl
      ⟨by rw[HF.out];rfl,M,by rw[HF.out];exact(x.out _ _ _ _).1,(x.out _ _ _ _).2⟩
    ·have HF:Hid (bq w l j 0 f d=(iK n s ⟨t,u,true,p⟩,b,A)):=hR.out.trans (O.out hw (by simp[ho]))
     clear af ag ac O an S;go_wp2_with fail;refine(cK t n _ (aP s p) (bm s p) _ _).mono ?_;rintro e w5 ⟨rfl,a⟩;have v:=c.kept a (by simp);have q:=a.get hF (by simp);have D5:=D.Vb a;have T5:=az.Vb a;clear Z q1 X q3 V q5 c h5 hF D az a TB;obtain⟨Z,q1,X,q3,V,q5⟩:=v.cells;go_wp2_with fail;refine(sX o 200 5 (dM H b) [] A M _ D5 (jl H b ar)).mono ?_;rintro e w6 ⟨rfl,ba⟩;subst ba;rw[ho];go_wp2_with fail;refine(na t n u (aP s p) (bm s p) _ _).mono ?_;rintro e w7 ⟨rfl,be⟩;simp only[if_true];have bw:=be.get q (by simp);have D7:=D5.Vb be;have T7:=T5.Vb be;have x:=hI (fun a0 a1 a2 a3=>nN D7 T7 (F:=i.heap.size) (QR _) (by omega) P a0 a1 a2 a3);obtain⟨z0,z1,z2,z3⟩:=b8 bw;have y:=am bw;go_wp2
     exact QY (v:=.agg #[.int .i64 7,.string n,.int .i64 (aP s p),.int .i64 (bm s p)]) (by simp[results,results111,go_sem,z0,z1,z2,z3]) rfl
      ⟨by rw[HF.out];rfl,M,by rw[HF.out];exact(x.out _ _ _ _).1,(x.out _ _ _ _).2⟩
  ·have hu:u=0:=by simp at hw;exact hw.1
   have ct:fi=false:=by simp at hw;exact hw.2
   subst hu ct;have cp:=aS.small (N:=10000000) (by omega);have b2:=(aS.small (N:=100000000) (by omega)).2
   have RW:=fun(w':World) (h':aR w' o 200 (dM H b) [] A M) (cu:bV w' sp n s z) (cq:bi w' H T w L)=>Aw o H T sp K j z w L b ar A M n s t (aP s p) (bm s p) w' h' hn ai hs bo.2.1 cu cq b1 bz bT cp.1 (by omega) b2
    (fun jj ww cc co cf=>cs.out K (by omega) jj b A M ww m1 cc ar aS (by omega) (by omega) co cf bf)
   have bj:=hI RW;have E:=hI (S.out hw);have I:=hI (af.out hw);have G:=hI (ag.out hw);clear RW af ag ac O an S;simp only[kK]at E I G;generalize jN (cn w K) w j z t ⟨n,aP s p,bm s p⟩ b A=Q at *;obtain⟨⟨⟨r,pf,pl,pc⟩,a7,d2⟩,z2⟩:=Q;simp only[gU]at E I G bj;have al:=E.out.2;obtain⟨bp,ca,m2,b0,cy⟩:=E.out.1;simp only at bp ca b0 cy al;clear E
   cases hr:(r==0)
   ·have cx:(r != 0)=true:=by simp[bne,hr]
    have HF:Hid (bq w l j 0 f d=((r,⟨pf,pl,pc⟩),a7,d2)):=hR.out.trans (G.out hr);clear I G;go_wp2_with fail;refine(cK t n _ (aP s p) (bm s p) _ _).mono ?_;rintro e w5 ⟨rfl,a⟩;have v:=c.kept a (by simp);have a5:=h5.kept a (by simp);have q:=a.get hF (by simp);have D5:=D.Vb a;have T5:=az.Vb a;have U:=TB.kept a (by simp);clear Z q1 X q3 V q5 c h5 hF D az TB a;obtain⟨Z,q1,X,q3,V,q5⟩:=v.cells;go_wp2_with fail;refine(bj.out _ D5 a5 U).mono ?_;rintro e w6 ⟨rfl,H2,D6,M6,-⟩;have B:=M6.1.get q (by rintro (e | e | e);omega;omega;exact P e);have m3:=M6.fresh i.heap.size (ae q) P;have T7:=T5.word M6 (by omega);have a6:=ae B;have y6:=am B;obtain⟨z0,z1,z2,z3⟩:=b8 B;have x:=hI (fun a0 a1 a2 a3=>nN D6 T7 (F:=i.heap.size) (QR _) (by omega) m3 a0 a1 a2 a3);clear Z q1 X q3 V q5;go_wp2
    exact QY (v:=.agg #[.int .i64 r,.string pf,.int .i64 pl,.int .i64 pc]) (by simp[results,results111,go_sem,a6,z0,z1,z2,z3]) rfl
     ⟨by rw[HF.out];rfl,H2,by rw[HF.out];exact(x.out _ _ _ _).1.Vb ((ab.refl [] _).alloc _),((x.out _ _ _ _).2.Vb ((ab.refl [] _).alloc _))⟩
   ·have cx:(r != 0)=false:=by simp[bne,hr]
    have HF:Hid (bq w l j 0 f d=bq w K j z2 a7 d2):=hR.out.trans (I.out hr);clear I G;go_wp2_with fail;refine(cK t n _ (aP s p) (bm s p) _ _).mono ?_;rintro e w5 ⟨rfl,a⟩;have v:=c.kept a (by simp);have a5:=h5.kept a (by simp);have q:=a.get hF (by simp);have D5:=D.Vb a;have T5:=az.Vb a;have U:=TB.kept a (by simp);clear Z q1 X q3 V q5 c h5 hF D az TB a;obtain⟨Z,q1,X,q3,V,q5⟩:=v.cells;go_wp2_with fail;refine(bj.out _ D5 a5 U).mono ?_;rintro e w6 ⟨rfl,H2,D6,M6,cl⟩;have h6:=cl hr;have B:=M6.1.get q (by rintro (e | e | e);omega;omega;exact P e);have bk:jx w6 w4.heap.size n s ⟨t,0,false,p⟩:=M6.1.get v (by rintro (e | e | e);omega;omega;exact bs e);have cj:bi w6 H T w L:=⟨M6.1.get U.1 (by rintro (e | e | e);exact bl e;exact bz e;exact bf e),U.2⟩;have e1:=M6.fresh sp (ae a5) bT;have e2:=M6.fresh w4.heap.size (ae v) bs;have e3:=M6.fresh i.heap.size (ae q) P;have e4:=M6.fresh H U.lt bf;have T7:=T5.word M6 (by omega);have a6:=ae B;have cE:=ae bk;have c7:=ae h6;go_wp2_with fail;refine(sV sp z2 n s _ hs al.2 (by exact h6.kept ((ab.refl [] _).alloc _) (by simp))).mono ?_;rintro e w8 ⟨rfl,h8,ax⟩;have a4:=(bk.kept ((ab.refl [] _).alloc _) (by simp)).kept ax (by simp;omega);have b6:=ax.get (((ab.refl [] _).alloc _).get B (by simp)) (by simp;omega);have D8:=(D6.Vb ((ab.refl [] _).alloc _)).kept ax (by simp;omega) (by intro k hk;simp;rintro rfl;exact e1 hk);have cb:=(cj.kept ((ab.refl [] _).alloc _) (by simp)).kept ax (by simp;omega);have T8:=(T7.Vb ((ab.refl [] _).alloc _)).beyond ax (by simp;omega);have yy:=am a4;have cA:=ae a4;clear Z q1 X q3 V q5;obtain⟨Z,q1,X,q3,V,q5⟩:=a4.cells;simp only[fg];go_wp2
    go_roundg (s.size-z2)
    case measure=>omega
    case rel =>
     exact⟨z2,K,m2,a7,d2,H2,al.2,rfl,bp,b0,by omega,by omega,by omega,HF.out,gQ h8 (by omega) _ _ _ _ _ _,pJ a4 _,uj b6 (by omega) _ _ _ _ _ _,
      D8.kept (Fc _ _ _ _ _ _) (by simp;omega) (by intro k hk;simp;rintro rfl;exact e2 hk),cb.kept (Fc _ _ _ _ _ _) (by simp;omega),T8.beyond (Fc _ _ _ _ _ _) (by simp;omega),e1,e2,e3,e4⟩
theorem Av(i:∀j,j<w.length->(ak w j).size<=1024)(k:T≠H)(f:Nat):∀(j:Nat) (a:List Bool) (d:Db) (b:Nat->Hd) (c:World) (m:Nat),j<w.length->a.length=4->nE d m->m+dP w a<=9000000->dP w a<=f->aR c H 200 (dM T a) [] d b->bi c T l w L->¬f9 b T->jD H T w f j a d b c:=by
 induction f using Nat.strongRecOn with
 | _ f IH =>
  intro j a d b c m s e q p r h n g
  cases o:a.getD j true with
  | true=>exact wS H T f j w a e d b c (by have:=n.2;omega) h o
  | false=>exact xP H T l f w L i k IH j a d b c m s e q p r h n g o
end Go.Proofs.YtpddjjabfbfifaaGreat
