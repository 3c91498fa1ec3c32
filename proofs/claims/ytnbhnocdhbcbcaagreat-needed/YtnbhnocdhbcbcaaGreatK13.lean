import Derived.Deep.RegionHeld3
import Derived.Laws.OwnMore
import Derived.Test.YtnbhnocdhbcbcaaGreatK03
namespace Go.Proofs.YtnbhnocdhbcbcaaGreat
open Go.RowKit Tryz
open Value IntKind Ending
set_option maxHeartbeats 0
variable{f S z1:World}{D N:Xs}{x:Nat}{y t zt:Hd}{z7:eR}{z2:Array Oper}{y0:List Oper}{L:Oper}{I:Act}{z3:Exit->Act->World->Prop}{z0:Program}{y2:Act->World->Prop}{i y3:List Tk}{y4:Xu}{y5:Fs}{z4:List Bool}{y6:Xv}(d:Fs)(n:List Tk)(M:Xu)(z5:Nat)(l b:Xs)(g s o:Int)(k T:Nat)(m:List Tk)(H:World)(z6:Tk)
theorem sH :
  Calls prog 165 #[int u8 o] H fun e a=>e=returned (bool (dn o))/\a=H:=by
 go_enter func165,ntmps165;go_wp2
 all_goals go_ret
 all_goals (refine⟨?_,rfl⟩;first | (simp[dn, *];done) | (simp[dn, *,Bool.or_assoc];rw[Bool.or_comm (o==13)]))
theorem lZ :
  Calls prog 79 #[int u8 o] H fun e a=>e=returned (bool (fV o))/\a=H:=by
 go_enter func79,ntmps79;go_wp2
 all_goals go_ret
 all_goals (refine⟨?_,rfl⟩;first | (simp[fV, *];done) | (simp[fV];omega) | (rename_i h;simp only[fV];rw[show decide (33<=o)=true by simp;omega];simp;omega))
theorem go(u:l.size<=4294967296)(v:b.size<=4294967296) :
  Calls prog 121 #[string l,string b] H fun e r=>e=returned (bool (ij l b))/\r=H:=by
 go_enter func121,ntmps121;go_wp2
 go_loopg [5] (l.size+1) (fun g i wr=>∃k:Nat,k<=l.size+1/\g=l.size+1-k/\i=int i64 k/\Xr (∀i,i<k->i+b.size<=l.size->tp l b i=false)/\wr=H)
 ·exact⟨0,by omega,by omega,rfl,fun i h=>by omega,rfl⟩
 obtain⟨k,t,s,rfl,a,rfl⟩:=hrel;by_cases f:k+b.size<=l.size
 ·have n:(k:Int)<=(k:Int)+(b.size:Int):=by omega
  have p:(k:Int)+(b.size:Int)<=(l.size:Int):=by omega
  have q:((k:Int)+(b.size:Int)).toNat=k+b.size:=by omega
  cases j:((l.extract k (k+b.size)).toList==b.toList)
  ·go_wp2;go_roundg (l.size+1-(k+1))
   ·refine⟨k+1,by omega,rfl,by go_num,?_,rfl⟩;intro i m c;by_cases e:i=k
    ·subst e;exact j
    ·exact a.o i (by omega) c
   omega
  ·have d:Xr (ij l b=true):=nc k (by omega) (by simp[f,tp,j]);go_wp2;go_ret;exact⟨aF d.o.symm,rfl⟩
 ·have d:Xr (ij l b=false):=uQ (fun i m=>by
   by_cases c:i+b.size<=l.size
   ·simp[a.o i (by omega) c]
   ·simp[c])
  go_wp2;go_ret;exact⟨aF d.o.symm,rfl⟩
structure wk(w wr:World)(nm d:Xs)(j:Nat):Prop where
 f:wr.heap[w.heap.size]?=some (.cells #[string nm,string d] 68)
 r:wr.heap[w.heap.size+1]?=some (.cells #[string ⟨#[]⟩,int i64 0,int i64 0] 36)
 p:wr.heap[w.heap.size+2]?=some (.cells #[string nm,int i64 (aU d j),int i64 (bJ d j)] 36)
 XR:ae [] w wr
theorem wk.start(a d:Xs):wk H (((H.alloc (.cells #[string a,string d] 68)).alloc (.cells #[string ⟨#[]⟩,int i64 0,int i64 0] 36)).alloc (.cells #[string a,int i64 1,int i64 1] 36)) a d 0:=by
 have i:=(ae.refl [] H).alloc (.cells #[string a,string d] 68);have c:=(ae.refl [] (H.alloc (.cells #[string a,string d] 68))).alloc (.cells #[string ⟨#[]⟩,int i64 0,int i64 0] 36);have b:=(ae.refl [] ((H.alloc (.cells #[string a,string d] 68)).alloc (.cells #[string ⟨#[]⟩,int i64 0,int i64 0] 36))).alloc (.cells #[string a,int i64 1,int i64 1] 36);have e:(H.alloc (.cells #[string a,string d] 68)).heap[H.heap.size]?=some (.cells #[string a,string d] 68):=Tu _ _;have f:=Tu (H.alloc (.cells #[string a,string d] 68)) (.cells #[string ⟨#[]⟩,int i64 0,int i64 0] 36);have g:=Tu ((H.alloc (.cells #[string a,string d] 68)).alloc (.cells #[string ⟨#[]⟩,int i64 0,int i64 0] 36)) (.cells #[string a,int i64 1,int i64 1] 36);refine⟨b.get (c.get e (by simp)) (by simp),b.get (by simpa using f) (by simp),by simpa [aU,bJ] using g,(i.trans c).trans b⟩
theorem wk.other(h:wk f S D N x)(a:(aI N x==10)=false):wk f (S.setCell ⟨f.heap.size+1+1,2,none⟩ (int i64 (bJ N x+1))) D N (x+1):=by
 have k:ae [f.heap.size+1+1] S (S.setCell ⟨f.heap.size+1+1,2,none⟩ (int i64 (bJ N x+1))):=(ae.refl _ _).sl1 _;refine⟨k.get h.f (by simp;omega),k.get h.r (by simp),?_,h.XR.setCell (TE (by show _<=f.heap.size+1+1;omega)) _⟩;rw[ab h.p];simp[aU,bJ,a]
theorem wk.lf(h:wk f S D N x)(a:(aI N x==10)=true):wk f (((S.setCell ⟨f.heap.size+1+1,2,none⟩ (int i64 (bJ N x+1))).setCell ⟨f.heap.size+1+1,1,none⟩ (int i64 (aU N x+1))).setCell ⟨f.heap.size+1+1,2,none⟩ (int i64 1)) D N (x+1):=by
 have k:ae [f.heap.size+1+1] S (((S.setCell ⟨f.heap.size+1+1,2,none⟩ (int i64 (bJ N x+1))).setCell ⟨f.heap.size+1+1,1,none⟩ (int i64 (aU N x+1))).setCell ⟨f.heap.size+1+1,2,none⟩ (int i64 1)):=(((ae.refl _ _).sl1 _).sl1 _).sl1 _;refine⟨k.get h.f (by simp;omega),k.get h.r (by simp),?_,((h.XR.setCell (TE (by show _<=f.heap.size+1+1;omega)) _).setCell (TE (by show _<=f.heap.size+1+1;omega)) _).setCell (TE (by show _<=f.heap.size+1+1;omega)) _⟩;rw[ab (ab (ab h.p 2 _) 1 _) 2 _];simp[aU,bJ,a]
theorem sZ(R:T<=b.size)(O:b.size<=1073741824) :
  Calls prog 166 #[agg #[string l,string b],int i64 T] H fun e y=>e=returned (agg #[string l,int i64 (aU b T),int i64 (bJ b T)])/\ae [] H y:=by
 go_enter func166,ntmps166;go_wp2
 go_loopg [6] T (fun g i wr=>∃j:Nat,j<=T/\g=T-j/\i=int i64 j/\Xr (wk H wr l b j))
 ·exact⟨0,by omega,rfl,rfl,wk.start H l b⟩
 obtain⟨j,Q,P,rfl,c⟩:=hrel;have t:=c.o.f;have a:=c.o.r;have d:=c.o.p;have E:wr.cell? ⟨H.heap.size,1,none⟩=some (string b):=by rw[ah t];rfl
 have F:wr.cell? ⟨H.heap.size+2,0,none⟩=some (string l):=by rw[ah d];rfl
 have G:wr.cell? ⟨H.heap.size+2,1,none⟩=some (int i64 (aU b j)):=by rw[ah d];rfl
 have I:wr.cell? ⟨H.heap.size+2,2,none⟩=some (int i64 (bJ b j)):=by rw[ah d];rfl
 have J:=am d 1;have K:=am d 2;have L:=am a 0;have M:=am a 1;have N:=am a 2;have S:wr.cell? ⟨H.heap.size+1,0,none⟩=some (string ⟨#[]⟩):=by rw[ah a];rfl
 have U:wr.cell? ⟨H.heap.size+1,1,none⟩=some (int i64 0):=by rw[ah a];rfl
 have V:wr.cell? ⟨H.heap.size+1,2,none⟩=some (int i64 0):=by rw[ah a];rfl
 have D:=Bx b j;have C:=Be b j;by_cases x:j<T
 ·have k:j<b.size:=by omega
  cases s:((b[j].toNat:Int)==10)
  ·have m:Xr (wk H _ l b (j+1)):=c.o.other (by rw[bZ b j k];exact s);go_wp2;go_roundg (T-(j+1))
   ·exact⟨j+1,by omega,rfl,by go_num,m.o⟩
   omega
  ·have m:Xr (wk H _ l b (j+1)):=c.o.lf (by rw[bZ b j k];exact s);go_wp2;go_roundg (T-(j+1))
   ·exact⟨j+1,by omega,rfl,by go_num,m.o⟩
   omega
 ·have e:j=T:=by omega
  subst e;have u:Xr _:=c.o.XR;go_wp2;have n:=ab a 0 (string l);have q:=ab n 1 (int i64 (aU b j));have w:=ab q 2 (int i64 (bJ b j));have z:(wr.setCell ⟨H.heap.size+1,0,none⟩ (string l)).cell? ⟨H.heap.size+1,0,none⟩=some (string l):=by rw[ah n];rfl
  have A:((wr.setCell ⟨H.heap.size+1,0,none⟩ (string l)).setCell ⟨H.heap.size+1,1,none⟩ (int i64 (aU b j))).cell? ⟨H.heap.size+1,1,none⟩=some (int i64 (aU b j)):=by rw[ah q];rfl
  have B:(((wr.setCell ⟨H.heap.size+1,0,none⟩ (string l)).setCell ⟨H.heap.size+1,1,none⟩ (int i64 (aU b j))).setCell ⟨H.heap.size+1,2,none⟩ (int i64 (bJ b j))).cell? ⟨H.heap.size+1,2,none⟩=some (int i64 (bJ b j)):=by rw[ah w];rfl
  exact Tz (v:=agg #[string l,int i64 (aU b j),int i64 (bJ b j)]) (by simp[results,results166,go_sem,z,A,B]) rfl ⟨rfl,((u.o.sr1 (by simp) _).sr1 (by simp) _).sr1 (by simp) _⟩
structure bq(w w':World)(h h':Hd):Prop where
 XR:ae h.XS.toList w w'
 XS:h'.XS=h.XS∨∃g,h'.XS=some g/\w.heap.size<=g
theorem aQ(a:x∈y.XS.toList):y.XS=some x:=by
 cases e:y.XS with
 | none=>rw[e]at a;simp at a
 | some b=>rw[e]at a;simp at a;rw[a]
theorem bq.XE(k:ae [] f S):bq f S y y:=⟨k.mono (by simp),TH rfl⟩
theorem bq.trans{w1:World}(a:bq f w1 y t)(b:bq w1 S t zt):bq f S y zt:=by
 refine⟨⟨b.XR.os.trans a.XR.os,b.XR.tape.trans a.XR.tape,b.XR.output.trans a.XR.output,TF a.XR.size b.XR.size,fun k i j=>?_⟩,?_⟩
 ·rw[b.XR.block k (Tw i a.XR.size) (fun l=>?_),a.XR.block k i j];have e:=aQ l;rcases a.XS with c | ⟨g,c,d⟩
  ·exact j (by rw[<-c,e];simp)
  ·rw[c]at e;cases e;omega
 ·rcases b.XS with e | ⟨g,e,d⟩
  ·rcases a.XS with c | ⟨g,c,d⟩
   ·exact TH (e.trans c)
   ·exact TE ⟨g,e.trans c,d⟩
  ·exact TE ⟨g,e,TF a.XR.size d⟩
theorem bq.made{c:Nat}(a:f.grownBy S y.XS)(b:y.XS=some x∨f.heap.size<=x):bq f S y ⟨some ⟨x,0,none⟩,c⟩ :=
 ⟨⟨a.os,a.tape,a.output,a.size,fun k d g=>a.block k d (fun e=>g (by rw[<-e];simp))⟩,by
  rcases b with e | e
  ·exact TH e.symm
  ·exact TE ⟨x,rfl,e⟩⟩
theorem aB.XE(o:aB f y z7)(k:ae [] f S):aB S y z7:=o.XJ (fun q a=>k.block q (o.lt a) (by simp))
theorem Fq:(prog.info? 138).map (fun i=>(i.zero,i.size,i.bytes))=some (some (agg #[string ⟨#[]⟩,int i64 0,string ⟨#[]⟩,int i64 0,int i64 0]),5,56):=by kernel_rfl
theorem On:∀j u,(Ct z6)[j]?=some u->(H.alloc (.cells (Ct z6).toArray 138)).cell? ((⟨H.heap.size,0,none⟩:Addr).add j)=some u:=by
 intro j u a;rw[bY];have b:(H.alloc (.cells (Ct z6).toArray 138)).heap[H.heap.size]?=some (.cells (Ct z6).toArray 138):=Tu _ _;rw[ah b];simpa using a
theorem Oo:∀u∈Ct z6,u.oneCell'=true:=by
 intro u a;simp only[Ct,List.mem_cons,List.not_mem_nil,or_false]at a;rcases a with rfl | rfl | rfl | rfl | rfl <;> rfl
set_option maxRecDepth 100000
theorem AG(h:Hd)(w:World)(L:k<=T)(hz:T<=b.size)(O:b.size<=1073741824)(hL:m.length<=100000)(t:aB w h (ji m)) :
  Calls prog 167 #[agg #[string l,string b],int i64 k,int i64 T,slice h.ao m.length h.cap] w fun e F=>∃q,e=returned (slice q.ao (jO l b k T m).length q.cap)/\aB F q (ji (jO l b k T m))/\bq w F h q:=by
 have r:ae [] w (w.alloc (.cells #[string l,string b] 68)):=bR.alloc _;have B:(w.alloc (.cells #[string l,string b] 68)).heap[w.heap.size]?=some (.cells #[string l,string b] 68):=Tu _ _;by_cases e:k=T
 ·subst e;have p:Xr (jO l b k k m=m):=ci (by unfold jO;rw[Tr rfl]);have s:Xr _:=t.XE r;rw[p.o];go_enter func167,ntmps167;go_wp2;go_ret;exact⟨h,rfl,s.o,bq.XE r⟩
 ·have p:Xr (jO l b k T m=m++[na l b (b.extract k T) 0 k]):=by show _=_;unfold jO;rw[Tp e]
  have P:¬((k:Int)=(T:Int)):=by omega
  obtain⟨R,Q,v,x,y⟩:=TZ Fq;have M:(k:Int)<=(T:Int):=by omega
  have N:(T:Int)<=(b.size:Int):=by omega
  go_enter func167,ntmps167;go_upto_region 4 with (go_at_call 166;refine(sZ l b k _ (by omega) O).mono ?_;rintro e Y ⟨rfl,z⟩)
  obtain⟨W,a⟩:=bn (Y.alloc (.cells #[string l,int i64 (aU b k),int i64 (bJ b k)] 36));have A:=fI a.o;have D:=f9 a.o;have K:=(r.trans z).trans A;have C:=A.get (z.get B (by simp)) (by simp);have Z:W.cell? ⟨w.heap.size,1,none⟩=some (string b):=by rw[ah C];rfl
  obtain⟨p0,p1,p2⟩:=wn D;rw[a.o];have I:Xr _:=K;have J:Xr (aB (W.alloc (.cells #[string (b.extract k T),int i64 0,string l,int i64 (aU b k),int i64 (bJ b k)] 138)).drew h (ji m)):=(t.XE K).XE ((ae.refl [] W).alloc _).drew;have S:Xr (∀j u,([string (b.extract k T),int i64 0,string l,int i64 (aU b k),int i64 (bJ b k)]:List Value)[j]?=some u->(W.alloc (.cells #[string (b.extract k T),int i64 0,string l,int i64 (aU b k),int i64 (bJ b k)] 138)).drew.cell? ((⟨W.heap.size,0,none⟩:Addr).add j)=some u):=On W (na l b (b.extract k T) 0 k);have U:Xr (∀u∈([string (b.extract k T),int i64 0,string l,int i64 (aU b k),int i64 (bJ b k)]:List Value),u.oneCell'=true):=Oo (na l b (b.extract k T) 0 k);have V:Xr ((ji m).n+1<=maxLen):=by show _<=_;simp only[ji];unfold maxLen;omega
  have X:Xr (((ji m).n+1)*56<=140737488355328):=by show _<=_;simp only[ji];omega
  clear A D K C B r z a t;go_region_law (refine dd rfl (.tmp 17) (.tmp 25) 101 rfl R (agg #[string ⟨#[]⟩,int i64 0,string ⟨#[]⟩,int i64 0,int i64 0]) 56 h (ji m) underlying101 Q v x y rfl (show 0<5 by omega) (by simp[Act.eval] <;> rfl) J.o ⟨W.heap.size,0,none⟩ 1 1 [string (b.extract k T),int i64 0,string l,int i64 (aU b k),int i64 (bJ b k)] (by simp[Act.eval]) rfl S.o U.o TR V.o X.o ?_;intro E c G g d f)
  all_goals
   have i:aB G ⟨some ⟨E,0,none⟩,c⟩ (ji (m++[na l b (b.extract k T) 0 k])):=(by rw[<-Ak];exact g);have H:Xr (bq w G h ⟨some ⟨E,0,none⟩,c⟩):=(bq.XE (I.o.trans ((ae.refl [] W).alloc _).drew)).trans (bq.made d (by simpa using f));have s:Xr _:=i;clear g d f i;go_wp2;go_ret;exact⟨_,by rw[p.o];simp[ji],by rw[p.o];exact s.o,H.o⟩
theorem cv(q:L.guard=none)(s x:Operand)(i:L.op=Op.call { callee:=Callee.builtin Builtin.append,args:=#[s,x],argTypes:=#[101,101] })(h:Hd)(a:List Tk)(t:Tk)(u:I.eval s=slice h.ao a.length h.cap)(d:aB H h (ji a))(z:a.length<=1000000)(v:I.eval x=slice (some ⟨H.heap.size,0,none⟩) 1 1)(p:∀f m,aB m f (ji (a++[t]))->bq H m h f->wpList prog z2 z3 y0 (I.put L.dst (slice f.ao (a.length+1) f.cap)) m) :
  wpList prog z2 z3 (L :: y0) I (H.alloc (.cells (Ct t).toArray 138)):=by
 obtain⟨w,r,j,k,l⟩:=TZ Fq;have n:ae [] H (H.alloc (.cells (Ct t).toArray 138)):=bR.alloc _;refine aL _ q s x 101 i w (agg #[string ⟨#[]⟩,int i64 0,string ⟨#[]⟩,int i64 0,int i64 0]) 56 h (ji a) underlying101 r j k l rfl (show 0<5 by omega) u (d.XE n) ⟨H.heap.size,0,none⟩ 1 1 (Ct t) v rfl (On H t) (Oo t) TR (by simp only[ji];unfold maxLen;omega) (by simp only[ji];omega) ?_;intro o b y e c g;rw[Ak]at e;exact p ⟨some ⟨o,0,none⟩,b⟩ y e ((bq.XE n).trans (bq.made c g))
theorem qw{P:Program}(t E:TypeId)(i:TypeInfo)(z:Value)(d:Nat)(h:Hd)(r:eR)(A:P.underlying t=some (.slice r.e))(B:P.info? r.e=some i)(N:i.zero=some z)(I:i.size=r.size)(O:i.bytes=d)(Q:z.cells.size=r.size)(R:0<r.size)(b:aB H h r)(y:Xu)(m c:Nat)(a:List Value)(D:a.length=m*r.size)(l:y=none->m=0/\c=0)(C:∀p,y=some p->∀j u,a[j]?=some u->H.cell? (p.add j)=some u)(v:∀u∈a,u.oneCell'=true)(J:r.n+m<=maxLen)(K:(r.n+m)*d<=140737488355328) :
  ∃f o,(Builtin.append_ #[t,t] E #[slice h.ao r.n h.cap,slice y m c]).run P H=.ok (slice f.ao (r.n+m) f.cap) o /\
   aB o f ⟨r.e,r.size,r.n+m,r.xs++a⟩/\bq H o h f:=by
 cases y with
 | none =>
  obtain⟨rfl,rfl⟩:=l rfl;have k:a=[]:=Uf (by simpa using D);subst k;have T:=run_append_owned_none (P:=P) H 0 t E r.e i r.size A B (slice h.ao r.n h.cap) r.n r.xs b;exact⟨h,H,T,by rw[TY];exact b,bq.XE (ae.refl _ _)⟩
 | some p =>
  have C:=C p rfl;by_cases S:0<m
  ·obtain⟨g,q,o,V,W,X,Y⟩:=qV H t E i z d h r A B N I O Q R b p m c a D C v S J K;exact⟨⟨some ⟨g,0,none⟩,q⟩,o,V,W,bq.made X Y⟩
  ·have e:m=0:=(by omega);subst e;have k:a=[]:=Uf (by simpa using D);subst k;rcases b.XP with ⟨s,G,M⟩ | ⟨g,L,s,G,M,Z,e5,e6⟩
   ·refine⟨h,H,?_,?_,bq.XE (ae.refl _ _)⟩
    ·rw[s,G];simp[Builtin.append_,run_underlying A,sizeOf,typeInfo,B,Builtin.lenOf,Builtin.firstCells,loadCells,loadCellsFrom]
    ·rw[TY,Ve];exact b
   ·obtain⟨o,x,U,F⟩:=run_append_fits (P:=P) H 0 t E r.e i r.size A B I g r.n h.cap r.xs (by have:=b;unfold aB at this;rw[s]at this;exact this) p 0 c [] D C v (by omega);have w:h.XS=some g:=(by unfold Hd.XS;rw[s];rfl);exact⟨⟨some ⟨g,0,none⟩,h.cap⟩,o,by rw[s,x],U,bq.made (by rw[w];exact F) (TH w)⟩
theorem fh(P:L.guard=none)(s x:Operand)(t:TypeId)(w:L.op=Op.call { callee:=Callee.builtin Builtin.append,args:=#[s,x],argTypes:=#[t,t] })(i:TypeInfo)(z:Value)(b:Nat)(h:Hd)(r:eR)(B:z0.underlying t=some (.slice r.e))(C:z0.info? r.e=some i)(D:i.zero=some z)(E:i.size=r.size)(F:i.bytes=b)(G:z.cells.size=r.size)(J:0<r.size)(R:I.eval s=slice h.ao r.n h.cap)(f:aB H h r)(l:Xu)(m c:Nat)(a:List Value)(S:I.eval x=slice l m c)(Q:a.length=m*r.size)(d:l=none->m=0/\c=0)(O:∀y,l=some y->∀j u,a[j]?=some u->H.cell? (y.add j)=some u)(p:∀u∈a,u.oneCell'=true)(A:r.n+m<=1000000000)(N:b<=1000)(M:∀o k,aB k o ⟨r.e,r.size,r.n+m,r.xs++a⟩->bq H k h o->wpList z0 z2 z3 y0 (I.put L.dst (slice o.ao (r.n+m) o.cap)) k) :
  wpList z0 z2 z3 (L :: y0) I H:=by
 obtain⟨v,k,g,T,U⟩:=qw (P:=z0) H t L.type i z b h r B C D E F G J f l m c a Q d O p (by unfold maxLen;omega) (TF (VL A N) (by omega));refine wpList_plain P fun K q=>?_;unfold Oper.wp;simp[execOp,w,resolve,invoke,builtin,R,S,g,Result.andThen];exact q _ _ (M v k T U)
theorem yJ{E:Prop}(P:L.guard=none)(s x:Operand)(t:TypeId)(y:L.op=Op.call { callee:=Callee.builtin Builtin.append,args:=#[s,x],argTypes:=#[t,t] })(i:TypeInfo)(z:Value)(b:Nat)(h:Hd)(r:eR)(C:z0.underlying t=some (.slice r.e))(D:z0.info? r.e=some i)(F:i.zero=some z)(G:i.size=r.size)(H:i.bytes=b)(J:z.cells.size=r.size)(K:0<r.size)(R:I.eval s=slice h.ao r.n h.cap)(o:aB f h r)(v:Xu)(m c:Nat)(a:List Value)(T:I.eval x=slice v m c)(Q:a.length=m*r.size)(k:v=none->m=0/\c=0)(O:∀A,v=some A->∀j u,a[j]?=some u->f.cell? (A.add j)=some u)(w:∀u∈a,u.oneCell'=true)(B:r.n+m<=1000000000)(N:b<=1000)(M:∀g d q,aB q ⟨g,d⟩ ⟨r.e,r.size,r.n+m,r.xs++a⟩->bq f q h ⟨g,d⟩->y2 (I.put L.dst (slice g (r.n+m) d)) q) :
  if Region.wanted L (yielded z2 I.tmps)=true then Oper.wp z0 L I f y2 z3 else E:=by
 have S:Region.wanted L (yielded z2 I.tmps)=true:=by simp[Region.wanted,P]
 rw[Tr S];obtain⟨l,q,p,U,V⟩:=qw (P:=z0) f t L.type i z b h r C D F G H J K o v m c a Q k O w (by unfold maxLen;omega) (TF (VL B N) (by omega));unfold Oper.wp;simp[execOp,y,resolve,invoke,builtin,R,T,p,Result.andThen];exact M l.ao l.cap q U V
theorem bX{E:Prop}(F:L.guard=none)(s x:Operand)(t:TypeId)(l:L.op=Op.call { callee:=Callee.builtin Builtin.append,args:=#[s,x],argTypes:=#[t,t] })(i:TypeInfo)(z:Value)(c:Nat)(h:Hd)(r:eR)(a:List Value)(p:z0.underlying t=some (.slice r.e))(q:z0.info? r.e=some i)(v:i.zero=some z)(w:i.size=r.size)(y:i.bytes=c)(A:z.cells.size=r.size)(B:0<r.size)(K:I.eval s=slice h.ao r.n h.cap)(f:aB H h r)(P:r.n<=900000000)(D:c<=1000)(M:I.eval x=slice (some ⟨H.heap.size,0,none⟩) 1 1)(Q:a.length=r.size)(k:∀u∈a,u.oneCell'=true)(C:∀d b g,aB g ⟨d,b⟩ ⟨r.e,r.size,r.n+1,r.xs++a⟩->bq H g h ⟨d,b⟩->y2 (I.put L.dst (slice d (r.n+1) b)) g) :
  if Region.wanted L (yielded z2 I.tmps)=true then Oper.wp z0 L I (H.alloc (.cells a.toArray r.e)).drew y2 z3 else E:=by
 have m:ae [] H (H.alloc (.cells a.toArray r.e)).drew:=(bR.alloc _).drew;have J:(H.alloc (.cells a.toArray r.e)).drew.heap[H.heap.size]?=some (.cells a.toArray r.e):=Tu _ _;refine yJ F s x t l i z c h r p q v w y A B K (f.XE m) (some ⟨H.heap.size,0,none⟩) 1 1 a M (by omega) (fun e=>by cases e) ?_ k (by omega) D ?_
 ·intro O e j u G;cases e
  rw[bY,ah J];simpa using G
 ·intro d b g N o;exact C d b g N ((bq.XE m).trans o)
structure zi(w wr:World)(nm d:Xs)(h:Hd)(L:List Tk):Prop where
 f:wr.heap[w.heap.size]?=some (.cells #[string nm,string d] 68)
 X9:aB wr h (ji L)
 far:∀k,h.XS=some k->w.heap.size<k
 XR:ae [] w wr
theorem zi.XE(a:zi f S D N y i)(k:ae [] S z1):zi f z1 D N y i :=
 ⟨k.get a.f (by simp),a.X9.XE k,a.far,a.XR.trans k⟩
theorem zi.XO(a:zi f S D N y i)(g:bq S z1 y t)(o:aB z1 t (ji y3)):zi f z1 D N t y3:=by
 have d:=aj a.f;refine⟨g.XR.get a.f (fun c=>by have:=a.far _ (aQ c);omega),o,fun k b=>?_,⟨g.XR.os.trans a.XR.os,g.XR.tape.trans a.XR.tape,g.XR.output.trans a.XR.output,TF a.XR.size g.XR.size,fun k b _=>?_⟩⟩
 ·rcases g.XS with e | ⟨q,e,c⟩
  ·exact a.far k (by rw[<-e];exact b)
  ·rw[e]at b;cases b;omega
 ·rw[g.XR.block k (Tw b a.XR.size) (fun c=>by have:=a.far _ (aQ c);omega),a.XR.block k b (by simp)]
theorem ye{l c:Int}(h:Xr (f.alloc (.cells #[string D,int i64 l,int i64 c] 36)=S)):ae [] f S/\f.heap.size<S.heap.size/\S.cell? ⟨f.heap.size,0,none⟩=some (string D)/\S.cell? ⟨f.heap.size,1,none⟩=some (int i64 l)/\S.cell? ⟨f.heap.size,2,none⟩=some (int i64 c):=by
 have a:S.heap[f.heap.size]?=some (.cells #[string D,int i64 l,int i64 c] 36):=by rw[<-h.o];exact Tu _ _
 exact⟨by rw[<-h.o];exact bR.alloc _,aj a,by rw[ah a];rfl,by rw[ah a];rfl,by rw[ah a];rfl⟩
theorem QU(c:x<D.size)(h:rR (aI D x)=true)(a:∀j,j<x->rR (aI D j)=false):ke D=some x:=by
 unfold ke;rw[UT];exact⟨h,TG.2 c,fun j b=>by rw[a j b];rfl⟩
theorem Mm(a:∀j,j<D.size->rR (aI D j)=false):ke D=none:=by
 unfold ke;rw[UE];intro j b;rw[a j (TG.1 b)];simp
theorem GV(hd:b.size<=10000) :
  Calls prog 116 #[agg #[string l,string b]] H fun e w=>∃m,e=returned (slice m.ao (iY l b).length m.cap)/\aB w m (ji (iY l b))/\ae [] H w/\∀k,m.XS=some k->H.heap.size<k:=by
 have Y:Xr (zi H (H.alloc (.cells #[string l,string b] 68)) l b ⟨none,0⟩ []):=⟨Tu _ _,Ty _ _ _ _,(by intro k V;cases V),bR.alloc _⟩;obtain⟨i0,hi,ad,af,ag⟩:=TZ Fq;go_enter func116,ntmps116;go_wp2
 go_loopg [3,4,5] b.size (fun g o f i wr=>∃(k:Nat) (h:Hd),k<=b.size/\g=b.size-k/\o=slice h.ao (jN l b k).length h.cap/\f=int i64 (dJ b k)/\i=int i64 k/\Xr (∀j,j<k->rR (aI b j)=false)/\Xr (zi H wr l b h (jN l b k)))
 ·exact⟨0,⟨none,0⟩,by omega,rfl,rfl,rfl,rfl,(fun j U=>by omega),Y⟩
 obtain⟨k,h,V,hg,rfl,rfl,rfl,J,v⟩:=hrel;have K:wr.cell? ⟨H.heap.size,0,none⟩=some (string l):=by rw[ah v.o.f];rfl
 have L:wr.cell? ⟨H.heap.size,1,none⟩=some (string b):=by rw[ah v.o.f];rfl
 have ac:=yW l b k;have D:=pq b k;rcases kn k b.size with ⟨y,Z⟩ | ⟨y,-⟩
 ·have c:Xr _:=bZ b k y;cases A:dn (b[k].toNat:Int)
  ·cases R:fV (b[k].toNat:Int)
   ·have M:Xr (ke b=some k):=QU y (by rw[c.o];unfold rR;rw[A,R];rfl) J.o;(go_upto_region 10 with (first | (go_at_call 79;refine(lZ _ _).mono ?_;rintro e u ⟨rfl,a⟩;rw[a];clear a) | (go_at_call 165;refine(sH _ _).mono ?_;rintro e u ⟨rfl,a⟩;rw[a];clear a) | (go_at_call 166;refine(sZ l b k _ (by omega) (by omega)).mono ?_;rintro e u ⟨rfl,F⟩)));obtain⟨W,d⟩:=bn (u.alloc (.cells #[string l,int i64 (aU b k),int i64 (bJ b k)] 36));obtain⟨G,y1,p0,p1,p2⟩:=ye d;rw[d.o];have B:Xr _:=v.o.XE (F.trans G);have Q:=B.o.X9;have z:Xr (iY l b=jN l b k++[na l b ⟨#[]⟩ 1 k]):=ci (by unfold iY;rw[M.o]);clear G F K L d;go_wp2_with (at_builtin;refine cv W rfl (.tmp 36) (.tmp 39) rfl h (jN l b k) (na l b ⟨#[]⟩ 1 k) rfl Q (by omega) rfl ?_;intro P w5 r q;have n:Xr _:=B.o.XO q r;clear r q);go_ret;exact⟨P,by rw[z.o];simp,by rw[z.o];exact n.o.X9,n.o.XR,n.o.far⟩
   ·have n:Xr (∀j,j<k+1->rR (aI b j)=false):=fun j U=>by
     by_cases e:j=k
     ·subst e;rw[c.o];unfold rR;rw[R];rfl
     ·exact J.o j (by omega)
    have x:Xr (jN l b (k+1)=jN l b k/\dJ b (k+1)=dJ b k):=by
     constructor
     ·rw[jN,Tp (by rw[c.o,A];simp)]
     ·rw[dJ,Tp (by rw[c.o,A];simp)]
    go_wp2_with (first | (go_at_call 79;refine(lZ _ _).mono ?_;rintro e u ⟨rfl,a⟩;rw[a];clear a) | (go_at_call 165;refine(sH _ _).mono ?_;rintro e u ⟨rfl,a⟩;rw[a];clear a));go_roundg (b.size-(k+1))
    ·exact⟨k+1,h,by omega,rfl,by rw[x.o.1],by rw[x.o.2],by go_num,n,by rw[x.o.1];exact v⟩
    omega
  ·have n:Xr (∀j,j<k+1->rR (aI b j)=false):=fun j U=>by
    by_cases e:j=k
    ·subst e;rw[c.o];unfold rR;rw[A];simp
    ·exact J.o j (by omega)
   have x:Xr (jN l b (k+1)=jO l b (dJ b k) k (jN l b k)/\dJ b (k+1)=k+1):=by
    constructor
    ·rw[jN,Tr (by rw[c.o,A])]
    ·rw[dJ,Tr (by rw[c.o,A])]
   have t:Xr (∀s,zi H s l b h (jN l b k)->Calls prog 167 #[agg #[string l,string b],int i64 (dJ b k),int i64 k,slice h.ao (jN l b k).length h.cap] s fun e w=>∃m,e=returned (slice m.ao (jO l b (dJ b k) k (jN l b k)).length m.cap)/\aB w m (ji (jO l b (dJ b k) k (jN l b k)))/\bq s w h m):=fun s S=>AG l b _ k _ h s D (by omega) (by omega) (by omega) S.X9;cases R:fV (b[k].toNat:Int)
   all_goals
    go_wp2_with (first | (go_at_call 79;refine(lZ _ _).mono ?_;rintro e u ⟨rfl,a⟩;rw[a];clear a) | (go_at_call 165;refine(sH _ _).mono ?_;rintro e u ⟨rfl,a⟩;rw[a];clear a) | (go_at_call 167;refine(t.o _ v.o).mono ?_;rintro e T ⟨O,rfl,I,C⟩;have p:Xr _:=v.o.XO C I;clear C I));go_roundg (b.size-(k+1))
    ·exact⟨k+1,O,by omega,rfl,by rw[x.o.1],by rw[x.o.2];go_num,by go_num,n,by rw[x.o.1];exact p⟩
    omega
 ·have e:k=b.size:=by omega
  subst e;have M:Xr (ke b=none):=Mm J.o;have z:Xr (iY l b=jO l b (dJ b b.size) b.size (jN l b b.size)++[na l b ⟨#[]⟩ 0 b.size]):=ci (by unfold iY;rw[M.o]);have E:=vH l b (dJ b b.size) b.size (jN l b b.size);obtain⟨X,N⟩:=bn (jO l b (dJ b b.size) b.size (jN l b b.size));have t:Xr (∀s,zi H s l b h (jN l b b.size)->Calls prog 167 #[agg #[string l,string b],int i64 (dJ b b.size),int i64 b.size,slice h.ao (jN l b b.size).length h.cap] s fun e w=>∃m,e=returned (slice m.ao (jO l b (dJ b b.size) b.size (jN l b b.size)).length m.cap)/\aB w m (ji (jO l b (dJ b b.size) b.size (jN l b b.size)))/\bq s w h m):=fun s S=>AG l b _ b.size _ h s D (by omega) (by omega) (by omega) S.X9;rw[N.o]at t E z;go_upto_region 15 with (go_at_call 167;refine(t.o _ v.o).mono ?_;rintro e T ⟨O,rfl,I,C⟩;have p:Xr _:=v.o.XO C I;clear C I)
  clear K L;have K:T.cell? ⟨H.heap.size,0,none⟩=some (string l):=by rw[ah p.o.f];rfl
  have L:T.cell? ⟨H.heap.size,1,none⟩=some (string b):=by rw[ah p.o.f];rfl
  go_upto_region 16 with (go_at_call 166;refine(sZ l b b.size _ (by omega) (by omega)).mono ?_;rintro e u ⟨rfl,F⟩)
  obtain⟨W,d⟩:=bn (u.alloc (.cells #[string l,int i64 (aU b b.size),int i64 (bJ b b.size)] 36));obtain⟨G,y1,p0,p1,p2⟩:=ye d;rw[d.o];have B:Xr _:=p.o.XE (F.trans G);have Q:=B.o.X9;clear G F K L d;go_wp2_with (at_builtin;refine cv W rfl (.tmp 61) (.tmp 64) rfl O X (na l b ⟨#[]⟩ 0 b.size) rfl Q (by omega) rfl ?_;intro P w5 r q;have n:Xr _:=B.o.XO q r;clear r q);go_ret;exact⟨P,by rw[z.o];simp,by rw[z.o];exact n.o.X9,n.o.XR,n.o.far⟩
theorem rd(o:aB f y (ji i))(b:y.ao=some ⟨x,0,none⟩)(k:Nat)(t:Tk)(d:i[k]?=some t) :
  f.cell? ⟨x,k*5,none⟩=some (string t.s)/\f.cell? ⟨x,k*5+1,none⟩=some (int i64 t.X6)/\f.cell? ⟨x,k*5+2,none⟩=some (string t.XZ)/\f.cell? ⟨x,k*5+3,none⟩=some (int i64 t.X0)/\f.cell? ⟨x,k*5+4,none⟩=some (int i64 t.X3):=by
 have e:∀c,c<5->∀u,(Ct t)[c]?=some u->f.cell? ⟨x,k*5+c,none⟩=some u:=fun c a u g=>o.cell b (k*5+c) u (by show(RO i)[k*5+c]?=some u;rw[RH i k t d c a];exact g);exact⟨e 0 (by omega) _ rfl,e 1 (by omega) _ rfl,e 2 (by omega) _ rfl,e 3 (by omega) _ rfl,e 4 (by omega) _ rfl⟩
theorem rD(o:aB f y z7)(i:0<z7.n):∃g,y.ao=some ⟨g,0,none⟩/\g<f.heap.size/\z7.n<=y.cap:=by
 rcases o.XP with ⟨_,e,_⟩ | ⟨g,a,b,c,d,-⟩
 ·omega
 ·exact⟨g,b,aj c,d⟩
structure OG(w wr:World)(h:Hd)(O:List Tk):Prop where
 X9:aB wr h (ji O)
 far:∀k,h.XS=some k->w.heap.size<=k
 XR:ae [] w wr
theorem OG.XE(a:OG f S y i)(k:ae [] S z1):OG f z1 y i:=⟨a.X9.XE k,a.far,a.XR.trans k⟩
theorem OG.XO(a:OG f S y i)(g:bq S z1 y t)(o:aB z1 t (ji y3)):OG f z1 t y3:=by
 refine⟨o,fun k b=>?_,⟨g.XR.os.trans a.XR.os,g.XR.tape.trans a.XR.tape,g.XR.output.trans a.XR.output,TF a.XR.size g.XR.size,fun k b _=>?_⟩⟩
 ·rcases g.XS with e | ⟨q,e,c⟩
  ·exact a.far k (by rw[<-e];exact b)
  ·rw[e]at b;cases b;exact TF a.XR.size c
 ·rw[g.XR.block k (Tw b a.XR.size) (fun c=>by have:=a.far _ (aQ c);omega),a.XR.block k b (by simp)]
def lQ(w:World)(ao:Xu)(cap:Nat)(L:List Tk):Prop:=L.length<=cap/\∀k t,L[k]?=some t->∃g,ao=some ⟨g,0,none⟩/\g<w.heap.size /\
  w.cell? ⟨g,k*5,none⟩=some (string t.s)/\w.cell? ⟨g,k*5+1,none⟩=some (int i64 t.X6)/\w.cell? ⟨g,k*5+2,none⟩=some (string t.XZ)/\w.cell? ⟨g,k*5+3,none⟩=some (int i64 t.X0)/\w.cell? ⟨g,k*5+4,none⟩=some (int i64 t.X3)
theorem aB.src(o:aB f y (ji i)):lQ f y.ao y.cap i:=by
 refine⟨?_,fun k t c=>?_⟩
 ·rcases o.XP with ⟨e,b,_⟩ | ⟨g,d,m,n,j,-⟩
  ·have b:i.length=0:=b;omega
  ·exact j
 ·have p:=(TA.1 c).1;obtain⟨g,a,l,-⟩:=rD o (show 0<i.length by omega);exact⟨g,a,l,rd o a k t c⟩
theorem lQ.XE(h:lQ f y4 x i)(k:ae [] f S):lQ S y4 x i:=by
 refine⟨h.1,fun j t p=>?_⟩;obtain⟨g,e,a,c⟩:=h.2 j t p;obtain⟨b,d,l,m,n⟩:=c;have q:∀o,S.cell? ⟨g,o,none⟩=f.cell? ⟨g,o,none⟩:=fun o=>TO (k.block g a (by simp));exact⟨g,e,Tw a k.size,by rw[q];exact b,by rw[q];exact d,by rw[q];exact l,by rw[q];exact m,by rw[q];exact n⟩
theorem Jn(hL:n.length<=100000)(P:lQ H M T n)(hs:∀t∈n,t.s.size<=1073741824) :
  Calls prog 117 #[slice M n.length T] H fun e w'=>∃l,e=returned (slice l.ao (b7 false n).length l.cap)/\OG H w' l (b7 false n):=by
 have S0:Xr (OG H H ⟨none,0⟩ []):=⟨Ty _ _ _ _,(by intro k Q;cases Q),ae.refl _ _⟩;have HO:Xr _:=P;clear P;go_enter func117,ntmps117;go_wp2
 go_loopg [3,4,5] n.length (fun g o L i wr=>∃(k:Nat) (l:Hd) (O:List Tk) (b:Bool),k<=n.length/\g=n.length-k/\o=slice l.ao O.length l.cap/\L=bool b/\i=int i64 k/\O.length<=k/\Xr (O++b7 b (n.drop k)=b7 false n)/\Xr (OG H wr l O))
 ·exact⟨0,⟨none,0⟩,[],false,by omega,rfl,rfl,rfl,rfl,Tq _,rfl,S0⟩
 obtain⟨k,l,O,b,Q,hg,rfl,rfl,rfl,ac,u,E⟩:=hrel;by_cases A:k<n.length
 ·obtain⟨gs,rfl,ad,S,U,V,X,Y⟩:=(lQ.XE HO.o E.o.XR).2 k n[k] (Tn A);have Z:Xr _:=TV A;have K:=hs n[k] (TP A);have af:(k:Int)<n.length:=by omega
  rw[Z.o]at u;generalize n[k]=t at *;obtain⟨d,z,p,q,m⟩:=t;simp only at S U V X Y K;obtain⟨W,w⟩:=bn (wr.alloc (.cells #[string d,int i64 z,string p,int i64 q,int i64 m] 138));have N:=f9 w.o;obtain⟨p0,p1,p2,p3,p4⟩:=od N;have j:Xr (OG H W l O):=E.o.XE (by rw[<-w.o];exact bR.alloc _);have r:=j.o.X9;go_upto_region 7 with fail
  rw[w.o];clear S U V X Y w N;go_upto_region 9 with (go_at_call 121;refine(go d _ _ (by omega) (by show 2<=_;omega)).mono ?_;rintro e w1 ⟨rfl,B⟩;rw[B];clear B)
  cases b
  ·cases R:(d.toList == [36,40])
   ·have f:Xr ((O++[⟨d,z,p,q,m⟩])++b7 false (n.drop (k+1))=b7 false n):=by
     show _=_;rw[<-u.o,b7,Tp (by show ¬(d.toList == [36,40])=true;rw[R];simp)];simp
    go_wp2_with (at_builtin;refine cv W rfl (.tmp 41) (.tmp 43) rfl l O ⟨d,z,p,q,m⟩ rfl r (by omega) rfl ?_;intro y D c a;have v:Xr _:=j.o.XO a c;clear c a);go_roundg (n.length-(k+1))
    ·exact⟨k+1,y,O++[⟨d,z,p,q,m⟩],false,by omega,rfl,by simp,rfl,by go_num,by simp;omega,f,v⟩
    omega
   ·have f:Xr (O++b7 true (n.drop (k+1))=b7 false n):=by
     show _=_;rw[<-u.o,b7,Tr (by show(d.toList == [36,40])=true;exact R)]
    go_wp2;go_roundg (n.length-(k+1))
    ·exact⟨k+1,l,O,true,by omega,rfl,rfl,rfl,by go_num,by omega,f,j⟩
    omega
  ·cases I:(z==0)
   ·have f:Xr ((O++[⟨d,z,p,q,m⟩])++b7 true (n.drop (k+1))=b7 false n):=by
     show _=_;rw[<-u.o,b7,Tr (by exact I)];simp
    go_wp2_with (at_builtin;refine cv W rfl (.tmp 41) (.tmp 43) rfl l O ⟨d,z,p,q,m⟩ rfl r (by omega) rfl ?_;intro y D c a;have v:Xr _:=j.o.XO a c;clear c a);go_roundg (n.length-(k+1))
    ·exact⟨k+1,y,O++[⟨d,z,p,q,m⟩],true,by omega,rfl,by simp,rfl,by go_num,by simp;omega,f,v⟩
    omega
   ·have J:z=0:=(by simpa using I);subst J;clear I;cases C:(d.toList == [36,41])
    ·cases F:(d.toList == [])
     ·cases x:(ij d ⟨#[36,40]⟩||ij d ⟨#[36,41]⟩)
      ·have f:Xr (O++b7 true (n.drop (k+1))=b7 false n):=by
        show _=_;rw[<-u.o,b7,Tp (by simp),Tp (by show ¬(d.toList == [36,41])=true;rw[C];simp),Tp (by show ¬(d.toList == [])=true;rw[F];simp),Tp (by rw[x];simp)]
       simp only[Bool.or_eq_false_iff]at x;obtain⟨x,G⟩:=x;rw[x,G];go_wp2;go_roundg (n.length-(k+1))
       ·exact⟨k+1,l,O,true,by omega,rfl,rfl,rfl,by go_num,by omega,f,j⟩
       omega
      ·have f:Xr (b7 false n=O++[⟨⟨#[]⟩,2,p,q,m⟩]):=by
        show _=_;rw[<-u.o,b7,Tp (by simp),Tp (by show ¬(d.toList == [36,41])=true;rw[C];simp),Tp (by show ¬(d.toList == [])=true;rw[F];simp),Tr (by rw[x])]
       cases G:ij d ⟨#[36,40]⟩
       ·rw[G,UN]at x;rw[x];go_wp2_with (at_builtin;refine cv W rfl (.tmp 64) (.tmp 68) rfl l O ⟨⟨#[]⟩,2,p,q,m⟩ rfl r (by omega) rfl ?_;intro y D c a;have v:Xr _:=j.o.XO a c;clear c a);go_ret;exact⟨y,by rw[f.o];simp,by rw[f.o];exact v.o⟩
       ·clear x;go_wp2_with (at_builtin;refine cv W rfl (.tmp 64) (.tmp 68) rfl l O ⟨⟨#[]⟩,2,p,q,m⟩ rfl r (by omega) rfl ?_;intro y D c a;have v:Xr _:=j.o.XO a c;clear c a);go_ret;exact⟨y,by rw[f.o];simp,by rw[f.o];exact v.o⟩
     ·have f:Xr ((O++[⟨⟨#[]⟩,3,p,q,m⟩])++b7 true (n.drop (k+1))=b7 false n):=by
       show _=_;rw[<-u.o,b7,Tp (by simp),Tp (by show ¬(d.toList == [36,41])=true;rw[C];simp),Tr (by exact F)];simp
      go_wp2_with (at_builtin;refine cv W rfl (.tmp 53) (.tmp 57) rfl l O ⟨⟨#[]⟩,3,p,q,m⟩ rfl r (by omega) rfl ?_;intro y D c a;have v:Xr _:=j.o.XO a c;clear c a);go_roundg (n.length-(k+1))
      ·exact⟨k+1,y,O++[⟨⟨#[]⟩,3,p,q,m⟩],true,by omega,rfl,by simp,rfl,by go_num,by simp;omega,f,v⟩
      omega
    ·have f:Xr (O++b7 false (n.drop (k+1))=b7 false n):=by
      show _=_;rw[<-u.o,b7,Tp (by simp),Tr (by exact C)]
     go_wp2;go_roundg (n.length-(k+1))
     ·exact⟨k+1,l,O,false,by omega,rfl,rfl,rfl,by go_num,by omega,f,j⟩
     omega
 ·have e:n.drop k=[]:=VJ (by omega);have f:Xr (b7 false n=O):=by
   show _=_;rw[<-u.o,e];cases b <;> simp[b7]
  go_wp2;go_ret;exact⟨l,by rw[f.o];rfl,by rw[f.o];exact E.o⟩
def ce(s:Xs):Bool:=(s.toList == [36,46])||(s.toList == [36,123])||(s.toList == [36,125])
def aR(n:Int)(s:Xs):Int :=
 if(s.toList == [36,125])=true then(if(s.toList == [36,123])=true then n+1 else n)-1 else(if(s.toList == [36,123])=true then n+1 else n)
def jZ(L:List Tk):Int:=L.foldl (fun n t=>aR n t.s) 0
def dH(L:List Tk):Bool:=match L.getLast? with
 | none=>true
 | some t=>ce t.s&&(jZ L==0)
def fk(L:List Tk):Bool:=match L.getLast? with
 | none=>false
 | some t=>!(t.X6==0)
theorem Fe(h:T<n.length):jZ (n.take (T+1))=aR (jZ (n.take T)) n[T].s:=by
 unfold jZ;rw[Up h,Vp];rfl
set_option maxRecDepth 512
theorem uX :
  Calls prog 85 #[string b] H fun e a=>e=returned (bool (ce b))/\a=H:=by
 go_enter func85,ntmps85;go_wp2
 all_goals go_ret
 all_goals (refine⟨?_,rfl⟩;simp[ce, *])
set_option maxRecDepth 100000
theorem Fd(z:n.length<=100000)(p:lQ H M T n) :
  Calls prog 168 #[slice M n.length T] H fun e x=>e=returned (int i64 (jZ n))/\x=H:=by
 have q:Xr _:=p;clear p;go_enter func168,ntmps168;go_wp2
 go_loopg [3,4] n.length (fun g v i wr=>∃(k:Nat) (m:Int),k<=n.length/\g=n.length-k/\v=int i64 m/\i=int i64 k/\(-(k:Int)<=m/\m<=(k:Int))/\Xr (m=jZ (n.take k))/\wr=H)
 ·exact⟨0,0,by omega,rfl,rfl,rfl,by omega,rfl,rfl⟩
 obtain⟨k,m,B,A,rfl,rfl,C,l,rfl⟩:=hrel;by_cases d:k<n.length
 ·obtain⟨y,rfl,s,w,-⟩:=q.o.2 k n[k] (Tn d);have c:Xr _:=Fe n k d;have u:(k:Int)<n.length:=by omega
  rw[<-l.o]at c;generalize n[k]=t at *;obtain⟨j,G,E,F,D⟩:=t;simp only at w c;cases f:(j.toList == [36,123])
  ·cases a:(j.toList == [36,125])
   ·have b:Xr (m=jZ (n.take (k+1))):=(by show _=_;rw[c.o,aR,f,a];simp);go_wp2;go_roundg (n.length-(k+1))
    ·exact⟨k+1,m,by omega,rfl,rfl,by go_num,by omega,b,rfl⟩
    omega
   ·have b:Xr (m-1=jZ (n.take (k+1))):=(by show _=_;rw[c.o,aR,f,a];simp);go_wp2;go_roundg (n.length-(k+1))
    ·exact⟨k+1,m-1,by omega,rfl,by go_num,by go_num,by omega,b,rfl⟩
    omega
  ·cases a:(j.toList == [36,125])
   ·have b:Xr (m+1=jZ (n.take (k+1))):=(by show _=_;rw[c.o,aR,f,a];simp);go_wp2;go_roundg (n.length-(k+1))
    ·exact⟨k+1,m+1,by omega,rfl,by go_num,by go_num,by omega,b,rfl⟩
    omega
   ·have r:j.toList=[36,123]:=(by simpa using f);rw[r]at a;exact absurd a (by decide)
 ·have e:k=n.length:=by omega
  subst e;rw[UO]at l;go_wp2;go_ret;exact⟨au l.o,rfl⟩
theorem A8(l:n.length<=100000)(j:lQ H M T n) :
  Calls prog 118 #[slice M n.length T] H fun e w=>e=returned (bool (dH n))/\w=H:=by
 have g:=j.1;have d:Xr _:=Fd n M T H l j;obtain⟨a,c⟩:=bn (n.length);rw[c.o]at l g d ⊢;by_cases k:a=0
 ·have f:Xr (dH n=true):=by
   show _=_;have:n=[]:=Uf (by rw[c.o,k]);rw[this];rfl
  subst k;go_enter func118,ntmps118;go_wp2;go_ret;exact⟨aF f.o.symm,rfl⟩
 ·have i:a-1<n.length:=by rw[c.o];omega
  obtain⟨C,rfl,p,u,-⟩:=j.2 (a-1) n[a-1] (Tn i);have f:Xr (dH n=(ce n[a-1].s&&(jZ n==0))):=by
   show _=_;unfold dH;rw[Vu,c.o,Tn i]
  generalize n[a-1]=t at *;obtain⟨v,I,F,G,E⟩:=t;simp only at u f;have r:IntKind.i64.wrap ((a:Int)-1)=(a:Int)-1:=by rw[UX];omega
  have q:((a:Int)-1).toNat=a-1:=by omega
  have y:(0:Int)<=(a:Int)-1:=by omega
  have z:(a:Int)-1<(a:Int):=by omega
  have A:(1:Int)<=(a:Int):=by omega
  have B:((a:Int)==0)=false:=by simpa using k
  obtain⟨D,m⟩:=bn (jZ n);rw[m.o]at f d;go_enter func118,ntmps118;go_wp2_with (first | (go_at_call 168;refine(Ts d.o ?_);rintro e x ⟨rfl,b⟩;rw[b];clear b) | (go_at_call 85;refine(uX v _).mono ?_;rintro e x ⟨rfl,b⟩;rw[b];clear b))
  all_goals go_ret
  all_goals (refine⟨aF ?_,rfl⟩;rw[f.o];simp[*])
theorem vP(j:n.length<=100000)(g:lQ H M T n) :
  Calls prog 84 #[slice M n.length T] H fun e q=>e=returned (bool (fk n))/\q=H:=by
 have c:=g.1;obtain⟨a,b⟩:=bn (n.length);rw[b.o]at j c ⊢;by_cases i:a=0
 ·have f:Xr (fk n=false):=by
   show _=_;have:n=[]:=Uf (by rw[b.o,i]);rw[this];rfl
  subst i;go_enter func84,ntmps84;go_wp2;go_ret;exact⟨aF f.o.symm,rfl⟩
 ·have d:a-1<n.length:=by rw[b.o];omega
  obtain⟨w,rfl,k,-,p,-⟩:=g.2 (a-1) n[a-1] (Tn d);have f:Xr (fk n=!(n[a-1].X6==0)):=by
   show _=_;unfold fk;rw[Vu,b.o,Tn d]
  generalize n[a-1]=t at *;obtain⟨B,A,y,z,x⟩:=t;simp only at p f;have m:IntKind.i64.wrap ((a:Int)-1)=(a:Int)-1:=by rw[UX];omega
  have l:((a:Int)-1).toNat=a-1:=by omega
  have r:(0:Int)<=(a:Int)-1:=by omega
  have s:(a:Int)-1<(a:Int):=by omega
  have u:(1:Int)<=(a:Int):=by omega
  have v:0<a:=by omega
  go_enter func84,ntmps84;go_wp2
  all_goals go_ret
  all_goals (refine⟨aF ?_,rfl⟩;rw[f.o];first | rfl | simp[*])
def oc(w:World)(ao:Xu)(cap:Nat)(fs:Fs):Prop:=fs.length<=cap/\∀k,k<fs.length->∃g,ao=some ⟨g,0,none⟩/\g<w.heap.size/\w.cell? ⟨g,k*2,none⟩=some (string (aG fs k))/\w.cell? ⟨g,k*2+1,none⟩=some (string (ak fs k))
theorem oc.XE(h:oc f y4 x y5)(k:ae [] f S):oc S y4 x y5:=by
 refine⟨h.1,fun j d=>?_⟩;obtain⟨g,e,a,b,c⟩:=h.2 j d;have q:∀o,S.cell? ⟨g,o,none⟩=f.cell? ⟨g,o,none⟩:=fun o=>TO (k.block g a (by simp));exact⟨g,e,Tw a k.size,by rw[q];exact b,by rw[q];exact c⟩
set_option maxRecDepth 512
theorem ny(s:d.length<=100000)(j:oc H M z5 d) :
  Calls prog 36 #[slice M d.length z5,string b] H fun e q=>e=returned (int i64 (bU d b))/\q=H:=by
 have m:Xr _:=j;clear j;go_enter func36,ntmps36;go_wp2
 go_loopg [5] d.length (fun g i wr=>∃k:Nat,k<=d.length/\g=d.length-k/\i=int i64 k/\Xr (bU d b=dR b (d.drop k) k)/\wr=H)
 ·exact⟨0,by omega,by omega,rfl,rfl,rfl⟩
 obtain⟨k,u,t,rfl,a,rfl⟩:=hrel;by_cases c:k<d.length
 ·obtain⟨r,rfl,n,v,w⟩:=m.o.2 k c;have p:(k:Int)<d.length:=by omega
  cases l:((aG d k).toList==b.toList)
  ·have f:Xr (bU d b=dR b (d.drop (k+1)) (k+1)):=zR d b k c a.o l;clear a;go_wp2;go_roundg (d.length-(k+1))
   ·exact⟨k+1,by omega,rfl,by go_num,f,rfl⟩
   omega
  ·have f:Xr (bU d b=k):=C4 d b k c a.o l;clear a;go_wp2;go_ret;exact⟨au f.o.symm,rfl⟩
 ·have f:Xr (bU d b=-1):=zS d b k c a.o;clear a;go_wp2;go_ret;exact⟨au f.o.symm,rfl⟩
def dK(fs:Fs)(s:Xs)(r:Int):Int :=
 if(r==0)=false then r else if(s.toList == [])=true then 7 else if ij s ⟨#[36]⟩=true then 5 else if bU fs s<0 then 6 else 0
def eC(s:Xs)(r:Int):Int :=
 if(r==0)=false then r else if(s.toList == [])=true then 7 else if(s.toList == [36,93])=false then 5 else 0
set_option maxRecDepth 100000
theorem CL :
  Calls prog 120 #[agg #[string l,int i64 g,string b,int i64 s,int i64 o]] H fun e j=>e=returned (agg #[string ⟨#[]⟩,int i64 (eC l g),string b,int i64 s,int i64 o])/\ae [] H j:=by
 cases d:(g==0)
 ·have a:Xr (eC l g=g):=by show _=_;unfold eC;rw[Tr d]
  rw[a.o];go_enter func120,ntmps120;go_wp2;exact Tz (v:=agg #[string ⟨#[]⟩,int i64 g,string b,int i64 s,int i64 o]) (by simp[results,results120,go_sem]) rfl ⟨rfl,((ae.refl _ _).alloc _).alloc _⟩
 ·have f:g=0:=by simpa using d
  subst f;clear d;cases c:(l.toList == [])
  ·cases i:(l.toList == [36,93])
   ·have a:Xr (eC l 0=5):=(by show _=_;unfold eC;rw[Tp (by simp),Tp (by rw[c];simp),Tr i]);rw[a.o];go_enter func120,ntmps120;go_wp2;exact Tz (v:=agg #[string ⟨#[]⟩,int i64 5,string b,int i64 s,int i64 o]) (by simp[results,results120,go_sem]) rfl ⟨rfl,((ae.refl _ _).alloc _).alloc _⟩
   ·have a:Xr (eC l 0=0):=(by show _=_;unfold eC;rw[Tp (by simp),Tp (by rw[c];simp),Tp (by rw[i];simp)]);rw[a.o];go_enter func120,ntmps120;go_wp2;exact Tz (v:=agg #[string ⟨#[]⟩,int i64 0,string b,int i64 s,int i64 o]) (by simp[results,results120,go_sem]) rfl ⟨rfl,((ae.refl _ _).alloc _).alloc _⟩
  ·have a:Xr (eC l 0=7):=(by show _=_;unfold eC;rw[Tp (by simp),Tr c]);rw[a.o];go_enter func120,ntmps120;go_wp2;exact Tz (v:=agg #[string ⟨#[]⟩,int i64 7,string b,int i64 s,int i64 o]) (by simp[results,results120,go_sem]) rfl ⟨rfl,((ae.refl _ _).alloc _).alloc _⟩
theorem FI(x:d.length<=100000)(y:oc H M z5 d)(z:l.size<=1073741824) :
  Calls prog 119 #[slice M d.length z5,agg #[string l,int i64 g,string b,int i64 s,int i64 o]] H fun e t=>e=returned (agg #[string ⟨#[]⟩,int i64 (dK d l g),string b,int i64 s,int i64 o])/\ae [] H t:=by
 have c:Xr (∀m,ae [] H m->Calls prog 36 #[slice M d.length z5,string l] m fun e t=>e=returned (int i64 (bU d l))/\t=m):=fun m k=>ny d M z5 l m x (y.XE k);obtain⟨w,j⟩:=bn (bU d l);rw[j.o]at c;cases q:(g==0)
 ·have f:Xr (dK d l g=g):=by show _=_;unfold dK;rw[Tr q]
  rw[f.o];go_enter func119,ntmps119;go_wp2_with (first | (go_at_call 121;refine(go l _ _ (by omega) (by show 1<=_;omega)).mono ?_;rintro e i ⟨rfl,a⟩;rw[a];clear a) | (go_at_call 36;refine(c.o _ (by exact((ae.refl [] H).alloc _).alloc _)).mono ?_;rintro e i ⟨rfl,a⟩;rw[a];clear a));exact Tz (v:=agg #[string ⟨#[]⟩,int i64 g,string b,int i64 s,int i64 o]) (by simp[results,results119,go_sem]) rfl ⟨rfl,((ae.refl _ _).alloc _).alloc _⟩
 ·have r:g=0:=by simpa using q
  subst r;clear q;cases n:(l.toList == [])
  ·cases p:ij l ⟨#[36]⟩
   ·by_cases u:w<0
    ·have f:Xr (dK d l 0=6):=(by show _=_;unfold dK;rw[Tp (by simp),Tp (by rw[n];simp),Tp (by rw[p];simp),j.o,Tr u]);rw[f.o];go_enter func119,ntmps119;go_wp2_with (first | (go_at_call 121;refine(go l _ _ (by omega) (by show 1<=_;omega)).mono ?_;rintro e i ⟨rfl,a⟩;rw[a];clear a) | (go_at_call 36;refine(c.o _ (by exact((ae.refl [] H).alloc _).alloc _)).mono ?_;rintro e i ⟨rfl,a⟩;rw[a];clear a));exact Tz (v:=agg #[string ⟨#[]⟩,int i64 6,string b,int i64 s,int i64 o]) (by simp[results,results119,go_sem]) rfl ⟨rfl,((ae.refl _ _).alloc _).alloc _⟩
    ·have f:Xr (dK d l 0=0):=(by show _=_;unfold dK;rw[Tp (by simp),Tp (by rw[n];simp),Tp (by rw[p];simp),j.o,Tp u]);rw[f.o];go_enter func119,ntmps119;go_wp2_with (first | (go_at_call 121;refine(go l _ _ (by omega) (by show 1<=_;omega)).mono ?_;rintro e i ⟨rfl,a⟩;rw[a];clear a) | (go_at_call 36;refine(c.o _ (by exact((ae.refl [] H).alloc _).alloc _)).mono ?_;rintro e i ⟨rfl,a⟩;rw[a];clear a));exact Tz (v:=agg #[string ⟨#[]⟩,int i64 0,string b,int i64 s,int i64 o]) (by simp[results,results119,go_sem]) rfl ⟨rfl,((ae.refl _ _).alloc _).alloc _⟩
   ·have f:Xr (dK d l 0=5):=(by show _=_;unfold dK;rw[Tp (by simp),Tp (by rw[n];simp),Tr p]);rw[f.o];go_enter func119,ntmps119;go_wp2_with (first | (go_at_call 121;refine(go l _ _ (by omega) (by show 1<=_;omega)).mono ?_;rintro e i ⟨rfl,a⟩;rw[a];clear a) | (go_at_call 36;refine(c.o _ (by exact((ae.refl [] H).alloc _).alloc _)).mono ?_;rintro e i ⟨rfl,a⟩;rw[a];clear a));exact Tz (v:=agg #[string ⟨#[]⟩,int i64 5,string b,int i64 s,int i64 o]) (by simp[results,results119,go_sem]) rfl ⟨rfl,((ae.refl _ _).alloc _).alloc _⟩
  ·have f:Xr (dK d l 0=7):=(by show _=_;unfold dK;rw[Tp (by simp),Tr n]);rw[f.o];go_enter func119,ntmps119;go_wp2_with (first | (go_at_call 121;refine(go l _ _ (by omega) (by show 1<=_;omega)).mono ?_;rintro e i ⟨rfl,a⟩;rw[a];clear a) | (go_at_call 36;refine(c.o _ (by exact((ae.refl [] H).alloc _).alloc _)).mono ?_;rintro e i ⟨rfl,a⟩;rw[a];clear a));exact Tz (v:=agg #[string ⟨#[]⟩,int i64 7,string b,int i64 s,int i64 o]) (by simp[results,results119,go_sem]) rfl ⟨rfl,((ae.refl _ _).alloc _).alloc _⟩
def wj(L:List Tk):Prop:=∃t,L.getLast?=some t/\(t.s.toList == [])=true
theorem wj.next(h:wj i)(b:Nat)(t:Tk)(c:i[b]?=some t)(d:(t.s.toList == [])=false):b+1<i.length:=by
 obtain⟨u,a,f⟩:=h;obtain⟨g,-⟩:=TA.1 c;rw[Vu]at a;by_cases e:b=i.length-1
 ·rw[<-e,c]at a;cases a
  rw[f]at d;cases d
 ·omega
theorem uW{t:Tk}(h:wj i):wj (t :: i):=by
 obtain⟨u,b,c⟩:=h;cases i with
 | nil=>cases b
 | cons a r=>exact⟨u,by rw[Xk];exact b,c⟩
theorem pL:((⟨#[]⟩:Xs).toList == [])=true:=by decide +kernel
theorem CX:wj [⟨⟨#[]⟩,g,b,s,o⟩]:=⟨_,rfl,pL⟩
theorem LM:wj (iY l b):=by
 unfold iY;split
 ·exact⟨_,VD,pL⟩
 ·exact⟨_,VD,pL⟩
theorem Jo(b:Bool)(L:List Tk)(h:wj L):wj (b7 b L):=by
 induction L generalizing b with
 | nil=>obtain⟨u,c,-⟩:=h;cases c
 | cons t r g =>
  cases r with
  | nil =>
   obtain⟨u,c,d⟩:=h;have e:u=t:=(by simpa using c.symm);subst e;have i:u.s.toList=[]:=by simpa using d
   cases b
   ·rw[b7,Tp (by unfold EL;rw[i];decide)];exact⟨u,rfl,d⟩
   ·rw[b7];split
    ·exact⟨u,rfl,d⟩
    ·rw[Tp (by unfold EL;rw[i];decide),Tr (by unfold EL;exact d)];exact CX _ _ _ _
  | cons a r =>
   have f:wj (a :: r):=by
    obtain⟨u,c,d⟩:=h;exact⟨u,by rw[Xk]at c;exact c,d⟩
   cases b
   ·rw[b7];split
    ·exact g true f
    ·exact uW (g false f)
   ·rw[b7];split
    ·exact uW (g true f)
    ·split
     ·exact g false f
     ·split
      ·exact uW (g true f)
      ·split
       ·exact CX _ _ _ _
       ·exact g true f
def su(fs:Fs)(k:Nat):List Tk:=b7 false (iY (aG fs k) (ak fs k))
theorem Ot:wj (su d T):=Jo _ _ (LM _ _)
theorem Eu:(su d T).length<=(ak d T).size+2:=TF (Mp _ _) (AJ _ _)
def rZ(t:Tk)(r:Int):Tk:=⟨⟨#[]⟩,r,t.XZ,t.X0,t.X3⟩
def da(rec:Nat->List Bool->List Tk->List Tk×List Bool)(fs:Fs):List Tk->List Bool->List Tk->List Tk×List Bool
 | [],sn,out=>(out,sn)
 | t :: r,sn,out =>
  if((t.X6==0)&&(t.s.toList == []))=true then((if dH out=true then out else out++[rZ t 7]),sn)
  else if(t.s.toList == [36,91])=false then da rec fs r sn (out++[t])
  else if dH out=false then(out++[rZ t 4],sn)
  else match r with
   | a :: b :: r' =>
    if(dK fs a.s a.X6==0)=false then(out++[rZ a (dK fs a.s a.X6)],sn)
    else if(eC b.s b.X6==0)=false then(out++[rZ b (eC b.s b.X6)],sn)
    else if sn.getD (bU fs a.s).toNat true=true then da rec fs r' sn out
    else if fk (rec (bU fs a.s).toNat sn out).1=true then rec (bU fs a.s).toNat sn out
    else da rec fs r' (rec (bU fs a.s).toNat sn out).2 (rec (bU fs a.s).toNat sn out).1
   | [a]=>(out++[rZ a (dK fs a.s a.X6)],sn)
   | []=>(out,sn)
def eU(fs:Fs):Nat->Nat->List Bool->List Tk->List Tk×List Bool
 | 0,_,sn,out=>(out,sn)
 | n+1,k,sn,out=>da (eU fs n) fs (su fs k) (sn.set k true) out
def aV(sn:List Bool):Nat:=sn.countP (fun b=>!b)
theorem l8(a:List Bool)(k:Nat)(h:a[k]?=some false):aV (a.set k true)+1=aV a:=by
 unfold aV
 induction a generalizing k with
 | nil=>cases h
 | cons b r c =>
  cases k with
  | zero =>
   simp at h;subst h;simp
  | succ k =>
   have:=c k (by simpa using h);rw[Vi,List.countP_cons,List.countP_cons];omega
def gW(w:World)(g:Nat)(sn:List Bool):Prop:=w.heap[g]?=some (.cells (sn.map bool).toArray 4)
theorem gW.cell(h:gW f x z4)(k:Nat)(b:Bool)(a:z4[k]?=some b):f.cell? ⟨x,k,none⟩=some (bool b):=by
 rw[ah h];simp[a]
theorem gW.XR(h:gW f x z4)(k:ae y6 f S)(a:x∉y6):gW S x z4:=k.get h a
theorem gW.set(h:gW f x z4)(k:Nat):gW (f.setCell ⟨x,k,none⟩ (bool true)) x (z4.set k true):=by
 unfold gW;rw[ab h];simp[List.map_set]
theorem GH(a:List Bool)(k:Nat)(h:a[k]?=some false):0<aV a:=by
 have:=l8 a k h;omega
structure zb(w w':World)(gs:Nat)(h h':Hd):Prop where
 XR:ae (gs :: h.XS.toList) w w'
 XS:h'.XS=h.XS∨∃g,h'.XS=some g/\w.heap.size<=g
theorem zb.of(g:bq f S y t):zb f S x y t:=⟨g.XR.mono (fun _ a _=>Ud _ a),g.XS⟩
theorem zb.trans{w1:World}(a:zb f w1 x y t)(b:zb w1 S x t zt):zb f S x y zt:=by
 refine⟨⟨b.XR.os.trans a.XR.os,b.XR.tape.trans a.XR.tape,b.XR.output.trans a.XR.output,TF a.XR.size b.XR.size,fun k l i=>?_⟩,?_⟩
 ·rw[b.XR.block k (Tw l a.XR.size) (fun j=>?_),a.XR.block k l i];rcases Ub.1 j with e | j
  ·exact i (by rw[e];simp)
  ·have e:=aQ j;rcases a.XS with c | ⟨g,c,d⟩
   ·exact i (Ud _ (by rw[<-c,e];simp))
   ·rw[c]at e;cases e;omega
 ·rcases b.XS with e | ⟨g,e,d⟩
  ·rcases a.XS with c | ⟨g,c,d⟩
   ·exact TH (e.trans c)
   ·exact TE ⟨g,e.trans c,d⟩
  ·exact TE ⟨g,e,TF a.XR.size d⟩
structure wl(w:World)(gf cap:Nat)(fs:Fs)(gs:Nat)(sn:List Bool)(h:Hd)(O:List Tk):Prop where
 X9:aB w h (ji O)
 seen:gW w gs sn
 src:oc w (some ⟨gf,0,none⟩) cap fs
 a1:h.XS≠some gs
 a2:h.XS≠some gf
 a3:gf≠gs
 lt:gf<w.heap.size
theorem oc.XR{a:Nat}(h:oc f (some ⟨x,0,none⟩) a y5)(k:ae y6 f S)(l:x∉y6):oc S (some ⟨x,0,none⟩) a y5:=by
 refine⟨h.1,fun j m=>?_⟩;obtain⟨g,e,b,c,d⟩:=h.2 j m;have i:g=x:=by cases e;rfl
 subst i;have q:∀o,S.cell? ⟨g,o,none⟩=f.cell? ⟨g,o,none⟩:=fun o=>TO (k.block g b l);exact⟨g,rfl,Tw b k.size,by rw[q];exact c,by rw[q];exact d⟩
section
variable {w w':World} {gf cap:Nat} {fs:Fs} {gs:Nat} {sn sn':List Bool} {h h':Hd} {O O':List Tk}
theorem wl.XE(a:wl w gf cap fs gs sn h O)(k:ae [] w w'):wl w' gf cap fs gs sn h O :=
 ⟨a.X9.XE k,a.seen.XR k (by simp),a.src.XR k (by simp),a.a1,a.a2,a.a3,Tw a.lt k.size⟩
theorem wl.far(a:wl w gf cap fs gs sn h O)(r:zb w w' gs h h'):h'.XS≠some gs/\h'.XS≠some gf:=by
 have c:=aj a.seen;have d:=a.lt;rcases r.XS with e | ⟨g,e,b⟩
 ·rw[e];exact⟨a.a1,a.a2⟩
 ·rw[e];exact⟨fun q=>by cases q;omega,fun q=>by cases q;omega⟩
theorem wl.turn(a:wl w gf cap fs gs sn h O)(r:zb w w' gs h h')(o:aB w' h' (ji O'))(s:gW w' gs sn'):wl w' gf cap fs gs sn' h' O':=by
 obtain⟨c,d⟩:=a.far r;refine⟨o,s,a.src.XR r.XR (fun b=>?_),c,d,a.a3,Tw a.lt r.XR.size⟩;rcases Ub.1 b with e | b
 ·exact a.a3 e
 ·exact a.a2 (aQ b)
end
theorem LJ:(b.extract k T).size<=b.size:=by rw[VY];omega
theorem yY(h:∀t∈m,t.s.size<=b.size):∀t∈jO l b k T m,t.s.size<=b.size:=by
 intro t a;unfold jO at a;split at a
 ·exact h t a
 ·rcases Ug.1 a with a | a
  ·exact h t a
  ·rw[TI.1 a];exact LJ b k T
theorem AC(i:Nat):∀t∈jN l b i,t.s.size<=b.size:=by
 induction i with
 | zero=>intro t c;cases c
 | succ i a =>
  rw[jN];split
  ·exact yY l b _ _ _ a
  ·exact a
theorem za:∀t∈iY l b,t.s.size<=b.size:=by
 intro t a;unfold iY at a;split at a
 ·rcases Ug.1 a with a | a
  ·exact AC l b _ t a
  ·rw[TI.1 a];exact Uc _
 ·rcases Ug.1 a with a | a
  ·exact yY l b _ _ _ (AC l b _) t a
  ·rw[TI.1 a];exact Uc _
theorem Jq(b:Bool)(L:List Tk)(h:∀t∈L,t.s.size<=T):∀t∈b7 b L,t.s.size<=T:=by
 induction L generalizing b with
 | nil=>intro t c;cases b <;> simp[b7]at c
 | cons a r g =>
  have d:=fun b=>g b (fun t c=>h t (Ud _ c));have f:=h a (by simp);intro t c;cases b
  ·rw[b7]at c;split at c
   ·exact d _ t c
   ·rcases Ub.1 c with e | c
    ·rw[e];exact f
    ·exact d _ t c
  ·rw[b7]at c;split at c
   ·rcases Ub.1 c with e | c
    ·rw[e];exact f
    ·exact d _ t c
   ·split at c
    ·exact d _ t c
    ·split at c
     ·rcases Ub.1 c with e | c
      ·rw[e];exact Uc _
      ·exact d _ t c
     ·split at c
      ·rw[TI.1 c];exact Uc _
      ·exact d _ t c
theorem Ly:∀t∈su d T,t.s.size<=(ak d T).size:=Jq _ _ _ (za _ _)
end Go.Proofs.YtnbhnocdhbcbcaaGreat
