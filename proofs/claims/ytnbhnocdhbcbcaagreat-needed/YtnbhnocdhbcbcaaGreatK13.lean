import Derived.Deep.RegionHeld3
import Derived.Laws.OwnMore
import Derived.Test.YtnbhnocdhbcbcaaGreatK03
namespace Go.Proofs.YtnbhnocdhbcbcaaGreat
open Go.RowKit Tryz
open Value IntKind Ending
set_option maxHeartbeats 0
variable{f S z1:World}{D N:Xs}{x:Nat}{y t zt:Hd}{z7:eQ}{z2:Array Oper}{y0:List Oper}{L:Oper}{I:Act}{z3:Exit->Act->World->Prop}{z0:Program}{y2:Act->World->Prop}{i y3:List Tk}{y4:Xu}{y5:Fs}{z4:List Bool}{y6:Xv}(d:Fs)(n:List Tk)(M:Xu)(z5:Nat)(l b:Xs)(g s o:Int)(k T:Nat)(m:List Tk)(H:World)(z6:Tk)
theorem sG :
  Calls prog 165 #[int u8 o] H fun e a=>e=returned (bool (dm o))/\a=H:=by
 go_enter func165,ntmps165;go_wp2
 all_goals go_ret
 all_goals (refine⟨?_,rfl⟩;first | (simp[dm, *];done) | (simp[dm, *,Bool.or_assoc];rw[Bool.or_comm (o==13)]))
theorem lY :
  Calls prog 79 #[int u8 o] H fun e a=>e=returned (bool (fU o))/\a=H:=by
 go_enter func79,ntmps79;go_wp2
 all_goals go_ret
 all_goals (refine⟨?_,rfl⟩;first | (simp[fU, *];done) | (simp[fU];omega) | (rename_i h;simp only[fU];rw[show decide (33<=o)=true by simp;omega];simp;omega))
theorem gn(u:l.size<=4294967296)(v:b.size<=4294967296) :
  Calls prog 121 #[string l,string b] H fun e r=>e=returned (bool (ii l b))/\r=H:=by
 go_enter func121,ntmps121;go_wp2
 go_loopg [5] (l.size+1) (fun g i wr=>∃k:Nat,k<=l.size+1/\g=l.size+1-k/\i=int i64 k/\Xr (∀i,i<k->i+b.size<=l.size->tn l b i=false)/\wr=H)
 ·exact⟨0,by omega,by omega,rfl,fun i h=>by omega,rfl⟩
 obtain⟨k,t,s,rfl,a,rfl⟩:=hrel;by_cases f:k+b.size<=l.size
 ·have n:(k:Int)<=(k:Int)+(b.size:Int):=by omega
  have p:(k:Int)+(b.size:Int)<=(l.size:Int):=by omega
  have q:((k:Int)+(b.size:Int)).toNat=k+b.size:=by omega
  cases j:((l.extract k (k+b.size)).toList==b.toList)
  ·go_wp2;go_roundg (l.size+1-(k+1))
   ·refine⟨k+1,by omega,rfl,by go_num,?_,rfl⟩;intro i m c;by_cases e:i=k
    ·subst e;exact j
    ·exact a.o i (by omega) c
   omega
  ·have d:Xr (ii l b=true):=na k (by omega) (by simp[f,tn,j]);go_wp2;go_ret;exact⟨aF d.o.symm,rfl⟩
 ·have d:Xr (ii l b=false):=uP (fun i m=>by
   by_cases c:i+b.size<=l.size
   ·simp[a.o i (by omega) c]
   ·simp[c])
  go_wp2;go_ret;exact⟨aF d.o.symm,rfl⟩
structure wj(w wr:World)(nm d:Xs)(j:Nat):Prop where
 f:wr.heap[w.heap.size]?=some (.cells #[string nm,string d] 68)
 r:wr.heap[w.heap.size+1]?=some (.cells #[string ⟨#[]⟩,int i64 0,int i64 0] 36)
 p:wr.heap[w.heap.size+2]?=some (.cells #[string nm,int i64 (aU d j),int i64 (bJ d j)] 36)
 XQ:ae [] w wr
theorem wj.start(a d:Xs):wj H (((H.alloc (.cells #[string a,string d] 68)).alloc (.cells #[string ⟨#[]⟩,int i64 0,int i64 0] 36)).alloc (.cells #[string a,int i64 1,int i64 1] 36)) a d 0:=by
 have i:=(ae.refl [] H).alloc (.cells #[string a,string d] 68);have c:=(ae.refl [] (H.alloc (.cells #[string a,string d] 68))).alloc (.cells #[string ⟨#[]⟩,int i64 0,int i64 0] 36);have b:=(ae.refl [] ((H.alloc (.cells #[string a,string d] 68)).alloc (.cells #[string ⟨#[]⟩,int i64 0,int i64 0] 36))).alloc (.cells #[string a,int i64 1,int i64 1] 36);have e:(H.alloc (.cells #[string a,string d] 68)).heap[H.heap.size]?=some (.cells #[string a,string d] 68):=Ts _ _;have f:=Ts (H.alloc (.cells #[string a,string d] 68)) (.cells #[string ⟨#[]⟩,int i64 0,int i64 0] 36);have g:=Ts ((H.alloc (.cells #[string a,string d] 68)).alloc (.cells #[string ⟨#[]⟩,int i64 0,int i64 0] 36)) (.cells #[string a,int i64 1,int i64 1] 36);refine⟨b.get (c.get e (by simp)) (by simp),b.get (by simpa using f) (by simp),by simpa [aU,bJ] using g,(i.trans c).trans b⟩
theorem wj.other(h:wj f S D N x)(a:(aI N x==10)=false):wj f (S.setCell ⟨f.heap.size+1+1,2,none⟩ (int i64 (bJ N x+1))) D N (x+1):=by
 have k:ae [f.heap.size+1+1] S (S.setCell ⟨f.heap.size+1+1,2,none⟩ (int i64 (bJ N x+1))):=(ae.refl _ _).sl1 _;refine⟨k.get h.f (by simp;omega),k.get h.r (by simp),?_,h.XQ.setCell (TA (by show _<=f.heap.size+1+1;omega)) _⟩;rw[ab h.p];simp[aU,bJ,a]
theorem wj.lf(h:wj f S D N x)(a:(aI N x==10)=true):wj f (((S.setCell ⟨f.heap.size+1+1,2,none⟩ (int i64 (bJ N x+1))).setCell ⟨f.heap.size+1+1,1,none⟩ (int i64 (aU N x+1))).setCell ⟨f.heap.size+1+1,2,none⟩ (int i64 1)) D N (x+1):=by
 have k:ae [f.heap.size+1+1] S (((S.setCell ⟨f.heap.size+1+1,2,none⟩ (int i64 (bJ N x+1))).setCell ⟨f.heap.size+1+1,1,none⟩ (int i64 (aU N x+1))).setCell ⟨f.heap.size+1+1,2,none⟩ (int i64 1)):=(((ae.refl _ _).sl1 _).sl1 _).sl1 _;refine⟨k.get h.f (by simp;omega),k.get h.r (by simp),?_,((h.XQ.setCell (TA (by show _<=f.heap.size+1+1;omega)) _).setCell (TA (by show _<=f.heap.size+1+1;omega)) _).setCell (TA (by show _<=f.heap.size+1+1;omega)) _⟩;rw[ab (ab (ab h.p 2 _) 1 _) 2 _];simp[aU,bJ,a]
theorem sY(R:T<=b.size)(O:b.size<=1073741824) :
  Calls prog 166 #[agg #[string l,string b],int i64 T] H fun e y=>e=returned (agg #[string l,int i64 (aU b T),int i64 (bJ b T)])/\ae [] H y:=by
 go_enter func166,ntmps166;go_wp2
 go_loopg [6] T (fun g i wr=>∃j:Nat,j<=T/\g=T-j/\i=int i64 j/\Xr (wj H wr l b j))
 ·exact⟨0,by omega,rfl,rfl,wj.start H l b⟩
 obtain⟨j,Q,P,rfl,c⟩:=hrel;have t:=c.o.f;have a:=c.o.r;have d:=c.o.p;have E:wr.cell? ⟨H.heap.size,1,none⟩=some (string b):=by rw[ah t];rfl
 have F:wr.cell? ⟨H.heap.size+2,0,none⟩=some (string l):=by rw[ah d];rfl
 have G:wr.cell? ⟨H.heap.size+2,1,none⟩=some (int i64 (aU b j)):=by rw[ah d];rfl
 have I:wr.cell? ⟨H.heap.size+2,2,none⟩=some (int i64 (bJ b j)):=by rw[ah d];rfl
 have J:=am d 1;have K:=am d 2;have L:=am a 0;have M:=am a 1;have N:=am a 2;have S:wr.cell? ⟨H.heap.size+1,0,none⟩=some (string ⟨#[]⟩):=by rw[ah a];rfl
 have U:wr.cell? ⟨H.heap.size+1,1,none⟩=some (int i64 0):=by rw[ah a];rfl
 have V:wr.cell? ⟨H.heap.size+1,2,none⟩=some (int i64 0):=by rw[ah a];rfl
 have D:=Bw b j;have C:=Bd b j;by_cases x:j<T
 ·have k:j<b.size:=by omega
  cases s:((b[j].toNat:Int)==10)
  ·have m:Xr (wj H _ l b (j+1)):=c.o.other (by rw[bY b j k];exact s);go_wp2;go_roundg (T-(j+1))
   ·exact⟨j+1,by omega,rfl,by go_num,m.o⟩
   omega
  ·have m:Xr (wj H _ l b (j+1)):=c.o.lf (by rw[bY b j k];exact s);go_wp2;go_roundg (T-(j+1))
   ·exact⟨j+1,by omega,rfl,by go_num,m.o⟩
   omega
 ·have e:j=T:=by omega
  subst e;have u:Xr _:=c.o.XQ;go_wp2;have n:=ab a 0 (string l);have q:=ab n 1 (int i64 (aU b j));have w:=ab q 2 (int i64 (bJ b j));have z:(wr.setCell ⟨H.heap.size+1,0,none⟩ (string l)).cell? ⟨H.heap.size+1,0,none⟩=some (string l):=by rw[ah n];rfl
  have A:((wr.setCell ⟨H.heap.size+1,0,none⟩ (string l)).setCell ⟨H.heap.size+1,1,none⟩ (int i64 (aU b j))).cell? ⟨H.heap.size+1,1,none⟩=some (int i64 (aU b j)):=by rw[ah q];rfl
  have B:(((wr.setCell ⟨H.heap.size+1,0,none⟩ (string l)).setCell ⟨H.heap.size+1,1,none⟩ (int i64 (aU b j))).setCell ⟨H.heap.size+1,2,none⟩ (int i64 (bJ b j))).cell? ⟨H.heap.size+1,2,none⟩=some (int i64 (bJ b j)):=by rw[ah w];rfl
  exact Ty (v:=agg #[string l,int i64 (aU b j),int i64 (bJ b j)]) (by simp[results,results166,go_sem,z,A,B]) rfl ⟨rfl,((u.o.sr1 (by simp) _).sr1 (by simp) _).sr1 (by simp) _⟩
structure bq(w w':World)(h h':Hd):Prop where
 XQ:ae h.XR.toList w w'
 XR:h'.XR=h.XR∨∃g,h'.XR=some g/\w.heap.size<=g
theorem aQ(a:x∈y.XR.toList):y.XR=some x:=by
 cases e:y.XR with
 | none=>rw[e]at a;simp at a
 | some b=>rw[e]at a;simp at a;rw[a]
theorem bq.XD(k:ae [] f S):bq f S y y:=⟨k.mono (by simp),TG rfl⟩
theorem bq.trans{w1:World}(a:bq f w1 y t)(b:bq w1 S t zt):bq f S y zt:=by
 refine⟨⟨b.XQ.os.trans a.XQ.os,b.XQ.tape.trans a.XQ.tape,b.XQ.output.trans a.XQ.output,TE a.XQ.size b.XQ.size,fun k i j=>?_⟩,?_⟩
 ·rw[b.XQ.block k (Tv i a.XQ.size) (fun l=>?_),a.XQ.block k i j];have e:=aQ l;rcases a.XR with c | ⟨g,c,d⟩
  ·exact j (by rw[<-c,e];simp)
  ·rw[c]at e;cases e;omega
 ·rcases b.XR with e | ⟨g,e,d⟩
  ·rcases a.XR with c | ⟨g,c,d⟩
   ·exact TG (e.trans c)
   ·exact TA ⟨g,e.trans c,d⟩
  ·exact TA ⟨g,e,TE a.XQ.size d⟩
theorem bq.made{c:Nat}(a:f.grownBy S y.XR)(b:y.XR=some x∨f.heap.size<=x):bq f S y ⟨some ⟨x,0,none⟩,c⟩ :=
 ⟨⟨a.os,a.tape,a.output,a.size,fun k d g=>a.block k d (fun e=>g (by rw[<-e];simp))⟩,by
  rcases b with e | e
  ·exact TG e.symm
  ·exact TA ⟨x,rfl,e⟩⟩
theorem aB.XD(o:aB f y z7)(k:ae [] f S):aB S y z7:=o.XI (fun q a=>k.block q (o.lt a) (by simp))
theorem Fp:(prog.info? 138).map (fun i=>(i.zero,i.size,i.bytes))=some (some (agg #[string ⟨#[]⟩,int i64 0,string ⟨#[]⟩,int i64 0,int i64 0]),5,56):=by kernel_rfl
theorem Om:∀j u,(Cs z6)[j]?=some u->(H.alloc (.cells (Cs z6).toArray 138)).cell? ((⟨H.heap.size,0,none⟩:Addr).add j)=some u:=by
 intro j u a;rw[bX];have b:(H.alloc (.cells (Cs z6).toArray 138)).heap[H.heap.size]?=some (.cells (Cs z6).toArray 138):=Ts _ _;rw[ah b];simpa using a
theorem On:∀u∈Cs z6,u.oneCell'=true:=by
 intro u a;simp only[Cs,List.mem_cons,List.not_mem_nil,or_false]at a;rcases a with rfl | rfl | rfl | rfl | rfl <;> rfl
set_option maxRecDepth 100000
theorem AD(h:Hd)(w:World)(L:k<=T)(hz:T<=b.size)(O:b.size<=1073741824)(hL:m.length<=100000)(t:aB w h (jh m)) :
  Calls prog 167 #[agg #[string l,string b],int i64 k,int i64 T,slice h.ao m.length h.cap] w fun e F=>∃q,e=returned (slice q.ao (jN l b k T m).length q.cap)/\aB F q (jh (jN l b k T m))/\bq w F h q:=by
 have r:ae [] w (w.alloc (.cells #[string l,string b] 68)):=kr0.alloc _;have B:(w.alloc (.cells #[string l,string b] 68)).heap[w.heap.size]?=some (.cells #[string l,string b] 68):=Ts _ _;by_cases e:k=T
 ·subst e;have p:Xr (jN l b k k m=m):=cg (by unfold jN;rw[Tq rfl]);have s:Xr _:=t.XD r;rw[p.o];go_enter func167,ntmps167;go_wp2;go_ret;exact⟨h,rfl,s.o,bq.XD r⟩
 ·have p:Xr (jN l b k T m=m++[m9 l b (b.extract k T) 0 k]):=by show _=_;unfold jN;rw[To e]
  have P:¬((k:Int)=(T:Int)):=by omega
  obtain⟨R,Q,v,x,y⟩:=TY Fp;have M:(k:Int)<=(T:Int):=by omega
  have N:(T:Int)<=(b.size:Int):=by omega
  go_enter func167,ntmps167;go_upto_region 4 with (go_at_call 166;refine(sY l b k _ (by omega) O).mono ?_;rintro e Y ⟨rfl,z⟩)
  obtain⟨W,a⟩:=bn (Y.alloc (.cells #[string l,int i64 (aU b k),int i64 (bJ b k)] 36));have A:=fH a.o;have D:=f8 a.o;have K:=(r.trans z).trans A;have C:=A.get (z.get B (by simp)) (by simp);have Z:W.cell? ⟨w.heap.size,1,none⟩=some (string b):=by rw[ah C];rfl
  obtain⟨p0,p1,p2⟩:=wm D;rw[a.o];have I:Xr _:=K;have J:Xr (aB (W.alloc (.cells #[string (b.extract k T),int i64 0,string l,int i64 (aU b k),int i64 (bJ b k)] 138)).drew h (jh m)):=(t.XD K).XD ((ae.refl [] W).alloc _).drew;have S:Xr (∀j u,([string (b.extract k T),int i64 0,string l,int i64 (aU b k),int i64 (bJ b k)]:List Value)[j]?=some u->(W.alloc (.cells #[string (b.extract k T),int i64 0,string l,int i64 (aU b k),int i64 (bJ b k)] 138)).drew.cell? ((⟨W.heap.size,0,none⟩:Addr).add j)=some u):=Om W (m9 l b (b.extract k T) 0 k);have U:Xr (∀u∈([string (b.extract k T),int i64 0,string l,int i64 (aU b k),int i64 (bJ b k)]:List Value),u.oneCell'=true):=On (m9 l b (b.extract k T) 0 k);have V:Xr ((jh m).n+1<=maxLen):=by show _<=_;simp only[jh];unfold maxLen;omega
  have X:Xr (((jh m).n+1)*56<=140737488355328):=by show _<=_;simp only[jh];omega
  clear A D K C B r z a t;go_region_law (refine da rfl (.tmp 17) (.tmp 25) 101 rfl R (agg #[string ⟨#[]⟩,int i64 0,string ⟨#[]⟩,int i64 0,int i64 0]) 56 h (jh m) underlying101 Q v x y rfl (show 0<5 by omega) (by simp[Act.eval] <;> rfl) J.o ⟨W.heap.size,0,none⟩ 1 1 [string (b.extract k T),int i64 0,string l,int i64 (aU b k),int i64 (bJ b k)] (by simp[Act.eval]) rfl S.o U.o TQ V.o X.o ?_;intro E c G g d f)
  all_goals
   have i:aB G ⟨some ⟨E,0,none⟩,c⟩ (jh (m++[m9 l b (b.extract k T) 0 k])):=(by rw[<-Aj];exact g);have H:Xr (bq w G h ⟨some ⟨E,0,none⟩,c⟩):=(bq.XD (I.o.trans ((ae.refl [] W).alloc _).drew)).trans (bq.made d (by simpa using f));have s:Xr _:=i;clear g d f i;go_wp2;go_ret;exact⟨_,by rw[p.o];simp[jh],by rw[p.o];exact s.o,H.o⟩
theorem cn(q:L.guard=none)(s x:Operand)(i:L.op=Op.call { callee:=Callee.builtin Builtin.append,args:=#[s,x],argTypes:=#[101,101] })(h:Hd)(a:List Tk)(t:Tk)(u:I.eval s=slice h.ao a.length h.cap)(d:aB H h (jh a))(z:a.length<=1000000)(v:I.eval x=slice (some ⟨H.heap.size,0,none⟩) 1 1)(p:∀f m,aB m f (jh (a++[t]))->bq H m h f->wpList prog z2 z3 y0 (I.put L.dst (slice f.ao (a.length+1) f.cap)) m) :
  wpList prog z2 z3 (L :: y0) I (H.alloc (.cells (Cs t).toArray 138)):=by
 obtain⟨w,r,j,k,l⟩:=TY Fp;have n:ae [] H (H.alloc (.cells (Cs t).toArray 138)):=kr0.alloc _;refine aL _ q s x 101 i w (agg #[string ⟨#[]⟩,int i64 0,string ⟨#[]⟩,int i64 0,int i64 0]) 56 h (jh a) underlying101 r j k l rfl (show 0<5 by omega) u (d.XD n) ⟨H.heap.size,0,none⟩ 1 1 (Cs t) v rfl (Om H t) (On t) TQ (by simp only[jh];unfold maxLen;omega) (by simp only[jh];omega) ?_;intro o b y e c g;rw[Aj]at e;exact p ⟨some ⟨o,0,none⟩,b⟩ y e ((bq.XD n).trans (bq.made c g))
theorem qu{P:Program}(t E:TypeId)(i:TypeInfo)(z:Value)(d:Nat)(h:Hd)(r:eQ)(A:P.underlying t=some (.slice r.e))(B:P.info? r.e=some i)(N:i.zero=some z)(I:i.size=r.size)(O:i.bytes=d)(Q:z.cells.size=r.size)(R:0<r.size)(b:aB H h r)(y:Xu)(m c:Nat)(a:List Value)(D:a.length=m*r.size)(l:y=none->m=0/\c=0)(C:∀p,y=some p->∀j u,a[j]?=some u->H.cell? (p.add j)=some u)(v:∀u∈a,u.oneCell'=true)(J:r.n+m<=maxLen)(K:(r.n+m)*d<=140737488355328) :
  ∃f o,(Builtin.append_ #[t,t] E #[slice h.ao r.n h.cap,slice y m c]).run P H=.ok (slice f.ao (r.n+m) f.cap) o /\
   aB o f ⟨r.e,r.size,r.n+m,r.xs++a⟩/\bq H o h f:=by
 cases y with
 | none =>
  obtain⟨rfl,rfl⟩:=l rfl;have k:a=[]:=Ue (by simpa using D);subst k;have T:=run_append_owned_none (P:=P) H 0 t E r.e i r.size A B (slice h.ao r.n h.cap) r.n r.xs b;exact⟨h,H,T,by rw[TV];exact b,bq.XD (ae.refl _ _)⟩
 | some p =>
  have C:=C p rfl;by_cases S:0<m
  ·obtain⟨g,q,o,V,W,X,Y⟩:=qU H t E i z d h r A B N I O Q R b p m c a D C v S J K;exact⟨⟨some ⟨g,0,none⟩,q⟩,o,V,W,bq.made X Y⟩
  ·have e:m=0:=(by omega);subst e;have k:a=[]:=Ue (by simpa using D);subst k;rcases b.XO with ⟨s,G,M⟩ | ⟨g,L,s,G,M,Z,e5,e6⟩
   ·refine⟨h,H,?_,?_,bq.XD (ae.refl _ _)⟩
    ·rw[s,G];simp[Builtin.append_,run_underlying A,sizeOf,typeInfo,B,Builtin.lenOf,Builtin.firstCells,loadCells,loadCellsFrom]
    ·rw[TV,Vd];exact b
   ·obtain⟨o,x,U,F⟩:=run_append_fits (P:=P) H 0 t E r.e i r.size A B I g r.n h.cap r.xs (by have:=b;unfold aB at this;rw[s]at this;exact this) p 0 c [] D C v (by omega);have w:h.XR=some g:=(by unfold Hd.XR;rw[s];rfl);exact⟨⟨some ⟨g,0,none⟩,h.cap⟩,o,by rw[s,x],U,bq.made (by rw[w];exact F) (TG w)⟩
theorem fg(P:L.guard=none)(s x:Operand)(t:TypeId)(w:L.op=Op.call { callee:=Callee.builtin Builtin.append,args:=#[s,x],argTypes:=#[t,t] })(i:TypeInfo)(z:Value)(b:Nat)(h:Hd)(r:eQ)(B:z0.underlying t=some (.slice r.e))(C:z0.info? r.e=some i)(D:i.zero=some z)(E:i.size=r.size)(F:i.bytes=b)(G:z.cells.size=r.size)(J:0<r.size)(R:I.eval s=slice h.ao r.n h.cap)(f:aB H h r)(l:Xu)(m c:Nat)(a:List Value)(S:I.eval x=slice l m c)(Q:a.length=m*r.size)(d:l=none->m=0/\c=0)(O:∀y,l=some y->∀j u,a[j]?=some u->H.cell? (y.add j)=some u)(p:∀u∈a,u.oneCell'=true)(A:r.n+m<=1000000000)(N:b<=1000)(M:∀o k,aB k o ⟨r.e,r.size,r.n+m,r.xs++a⟩->bq H k h o->wpList z0 z2 z3 y0 (I.put L.dst (slice o.ao (r.n+m) o.cap)) k) :
  wpList z0 z2 z3 (L :: y0) I H:=by
 obtain⟨v,k,g,T,U⟩:=qu (P:=z0) H t L.type i z b h r B C D E F G J f l m c a Q d O p (by unfold maxLen;omega) (TE (VK A N) (by omega));refine wpList_plain P fun K q=>?_;unfold Oper.wp;simp[execOp,w,resolve,invoke,builtin,R,S,g,Result.andThen];exact q _ _ (M v k T U)
theorem yI{E:Prop}(P:L.guard=none)(s x:Operand)(t:TypeId)(y:L.op=Op.call { callee:=Callee.builtin Builtin.append,args:=#[s,x],argTypes:=#[t,t] })(i:TypeInfo)(z:Value)(b:Nat)(h:Hd)(r:eQ)(C:z0.underlying t=some (.slice r.e))(D:z0.info? r.e=some i)(F:i.zero=some z)(G:i.size=r.size)(H:i.bytes=b)(J:z.cells.size=r.size)(K:0<r.size)(R:I.eval s=slice h.ao r.n h.cap)(o:aB f h r)(v:Xu)(m c:Nat)(a:List Value)(T:I.eval x=slice v m c)(Q:a.length=m*r.size)(k:v=none->m=0/\c=0)(O:∀A,v=some A->∀j u,a[j]?=some u->f.cell? (A.add j)=some u)(w:∀u∈a,u.oneCell'=true)(B:r.n+m<=1000000000)(N:b<=1000)(M:∀g d q,aB q ⟨g,d⟩ ⟨r.e,r.size,r.n+m,r.xs++a⟩->bq f q h ⟨g,d⟩->y2 (I.put L.dst (slice g (r.n+m) d)) q) :
  if Region.wanted L (yielded z2 I.tmps)=true then Oper.wp z0 L I f y2 z3 else E:=by
 have S:Region.wanted L (yielded z2 I.tmps)=true:=by simp[Region.wanted,P]
 rw[Tq S];obtain⟨l,q,p,U,V⟩:=qu (P:=z0) f t L.type i z b h r C D F G H J K o v m c a Q k O w (by unfold maxLen;omega) (TE (VK B N) (by omega));unfold Oper.wp;simp[execOp,y,resolve,invoke,builtin,R,T,p,Result.andThen];exact M l.ao l.cap q U V
theorem bW{E:Prop}(F:L.guard=none)(s x:Operand)(t:TypeId)(l:L.op=Op.call { callee:=Callee.builtin Builtin.append,args:=#[s,x],argTypes:=#[t,t] })(i:TypeInfo)(z:Value)(c:Nat)(h:Hd)(r:eQ)(a:List Value)(p:z0.underlying t=some (.slice r.e))(q:z0.info? r.e=some i)(v:i.zero=some z)(w:i.size=r.size)(y:i.bytes=c)(A:z.cells.size=r.size)(B:0<r.size)(K:I.eval s=slice h.ao r.n h.cap)(f:aB H h r)(P:r.n<=900000000)(D:c<=1000)(M:I.eval x=slice (some ⟨H.heap.size,0,none⟩) 1 1)(Q:a.length=r.size)(k:∀u∈a,u.oneCell'=true)(C:∀d b g,aB g ⟨d,b⟩ ⟨r.e,r.size,r.n+1,r.xs++a⟩->bq H g h ⟨d,b⟩->y2 (I.put L.dst (slice d (r.n+1) b)) g) :
  if Region.wanted L (yielded z2 I.tmps)=true then Oper.wp z0 L I (H.alloc (.cells a.toArray r.e)).drew y2 z3 else E:=by
 have m:ae [] H (H.alloc (.cells a.toArray r.e)).drew:=(kr0.alloc _).drew;have J:(H.alloc (.cells a.toArray r.e)).drew.heap[H.heap.size]?=some (.cells a.toArray r.e):=Ts _ _;refine yI F s x t l i z c h r p q v w y A B K (f.XD m) (some ⟨H.heap.size,0,none⟩) 1 1 a M (by omega) (fun e=>by cases e) ?_ k (by omega) D ?_
 ·intro O e j u G;cases e
  rw[bX,ah J];simpa using G
 ·intro d b g N o;exact C d b g N ((bq.XD m).trans o)
structure zh(w wr:World)(nm d:Xs)(h:Hd)(L:List Tk):Prop where
 f:wr.heap[w.heap.size]?=some (.cells #[string nm,string d] 68)
 X6:aB wr h (jh L)
 far:∀k,h.XR=some k->w.heap.size<k
 XQ:ae [] w wr
theorem zh.XD(a:zh f S D N y i)(k:ae [] S z1):zh f z1 D N y i :=
 ⟨k.get a.f (by simp),a.X6.XD k,a.far,a.XQ.trans k⟩
theorem zh.XN(a:zh f S D N y i)(g:bq S z1 y t)(o:aB z1 t (jh y3)):zh f z1 D N t y3:=by
 have d:=aj a.f;refine⟨g.XQ.get a.f (fun c=>by have:=a.far _ (aQ c);omega),o,fun k b=>?_,⟨g.XQ.os.trans a.XQ.os,g.XQ.tape.trans a.XQ.tape,g.XQ.output.trans a.XQ.output,TE a.XQ.size g.XQ.size,fun k b _=>?_⟩⟩
 ·rcases g.XR with e | ⟨q,e,c⟩
  ·exact a.far k (by rw[<-e];exact b)
  ·rw[e]at b;cases b;omega
 ·rw[g.XQ.block k (Tv b a.XQ.size) (fun c=>by have:=a.far _ (aQ c);omega),a.XQ.block k b (by simp)]
theorem yc{l c:Int}(h:Xr (f.alloc (.cells #[string D,int i64 l,int i64 c] 36)=S)):ae [] f S/\f.heap.size<S.heap.size/\S.cell? ⟨f.heap.size,0,none⟩=some (string D)/\S.cell? ⟨f.heap.size,1,none⟩=some (int i64 l)/\S.cell? ⟨f.heap.size,2,none⟩=some (int i64 c):=by
 have a:S.heap[f.heap.size]?=some (.cells #[string D,int i64 l,int i64 c] 36):=by rw[<-h.o];exact Ts _ _
 exact⟨by rw[<-h.o];exact kr0.alloc _,aj a,by rw[ah a];rfl,by rw[ah a];rfl,by rw[ah a];rfl⟩
theorem QT(c:x<D.size)(h:rQ (aI D x)=true)(a:∀j,j<x->rQ (aI D j)=false):kc D=some x:=by
 unfold kc;rw[US];exact⟨h,TF.2 c,fun j b=>by rw[a j b];rfl⟩
theorem Ml(a:∀j,j<D.size->rQ (aI D j)=false):kc D=none:=by
 unfold kc;rw[UD];intro j b;rw[a j (TF.1 b)];simp
theorem GU(hd:b.size<=10000) :
  Calls prog 116 #[agg #[string l,string b]] H fun e w=>∃m,e=returned (slice m.ao (iW l b).length m.cap)/\aB w m (jh (iW l b))/\ae [] H w/\∀k,m.XR=some k->H.heap.size<k:=by
 have Y:Xr (zh H (H.alloc (.cells #[string l,string b] 68)) l b ⟨none,0⟩ []):=⟨Ts _ _,Tw _ _ _ _,(by intro k V;cases V),kr0.alloc _⟩;obtain⟨i0,hi,ad,af,ag⟩:=TY Fp;go_enter func116,ntmps116;go_wp2
 go_loopg [3,4,5] b.size (fun g o f i wr=>∃(k:Nat) (h:Hd),k<=b.size/\g=b.size-k/\o=slice h.ao (jM l b k).length h.cap/\f=int i64 (dI b k)/\i=int i64 k/\Xr (∀j,j<k->rQ (aI b j)=false)/\Xr (zh H wr l b h (jM l b k)))
 ·exact⟨0,⟨none,0⟩,by omega,rfl,rfl,rfl,rfl,(fun j U=>by omega),Y⟩
 obtain⟨k,h,V,hg,rfl,rfl,rfl,J,v⟩:=hrel;have K:wr.cell? ⟨H.heap.size,0,none⟩=some (string l):=by rw[ah v.o.f];rfl
 have L:wr.cell? ⟨H.heap.size,1,none⟩=some (string b):=by rw[ah v.o.f];rfl
 have ac:=yV l b k;have D:=po b k;rcases kn k b.size with ⟨y,Z⟩ | ⟨y,-⟩
 ·have c:Xr _:=bY b k y;cases A:dm (b[k].toNat:Int)
  ·cases R:fU (b[k].toNat:Int)
   ·have M:Xr (kc b=some k):=QT y (by rw[c.o];unfold rQ;rw[A,R];rfl) J.o;(go_upto_region 10 with (first | (go_at_call 79;refine(lY _ _).mono ?_;rintro e u ⟨rfl,a⟩;rw[a];clear a) | (go_at_call 165;refine(sG _ _).mono ?_;rintro e u ⟨rfl,a⟩;rw[a];clear a) | (go_at_call 166;refine(sY l b k _ (by omega) (by omega)).mono ?_;rintro e u ⟨rfl,F⟩)));obtain⟨W,d⟩:=bn (u.alloc (.cells #[string l,int i64 (aU b k),int i64 (bJ b k)] 36));obtain⟨G,y1,p0,p1,p2⟩:=yc d;rw[d.o];have B:Xr _:=v.o.XD (F.trans G);have Q:=B.o.X6;have z:Xr (iW l b=jM l b k++[m9 l b ⟨#[]⟩ 1 k]):=cg (by unfold iW;rw[M.o]);clear G F K L d;go_wp2_with (at_builtin;refine cn W rfl (.tmp 36) (.tmp 39) rfl h (jM l b k) (m9 l b ⟨#[]⟩ 1 k) rfl Q (by omega) rfl ?_;intro P w5 r q;have n:Xr _:=B.o.XN q r;clear r q);go_ret;exact⟨P,by rw[z.o];simp,by rw[z.o];exact n.o.X6,n.o.XQ,n.o.far⟩
   ·have n:Xr (∀j,j<k+1->rQ (aI b j)=false):=fun j U=>by
     by_cases e:j=k
     ·subst e;rw[c.o];unfold rQ;rw[R];rfl
     ·exact J.o j (by omega)
    have x:Xr (jM l b (k+1)=jM l b k/\dI b (k+1)=dI b k):=by
     constructor
     ·rw[jM,To (by rw[c.o,A];simp)]
     ·rw[dI,To (by rw[c.o,A];simp)]
    go_wp2_with (first | (go_at_call 79;refine(lY _ _).mono ?_;rintro e u ⟨rfl,a⟩;rw[a];clear a) | (go_at_call 165;refine(sG _ _).mono ?_;rintro e u ⟨rfl,a⟩;rw[a];clear a));go_roundg (b.size-(k+1))
    ·exact⟨k+1,h,by omega,rfl,by rw[x.o.1],by rw[x.o.2],by go_num,n,by rw[x.o.1];exact v⟩
    omega
  ·have n:Xr (∀j,j<k+1->rQ (aI b j)=false):=fun j U=>by
    by_cases e:j=k
    ·subst e;rw[c.o];unfold rQ;rw[A];simp
    ·exact J.o j (by omega)
   have x:Xr (jM l b (k+1)=jN l b (dI b k) k (jM l b k)/\dI b (k+1)=k+1):=by
    constructor
    ·rw[jM,Tq (by rw[c.o,A])]
    ·rw[dI,Tq (by rw[c.o,A])]
   have t:Xr (∀s,zh H s l b h (jM l b k)->Calls prog 167 #[agg #[string l,string b],int i64 (dI b k),int i64 k,slice h.ao (jM l b k).length h.cap] s fun e w=>∃m,e=returned (slice m.ao (jN l b (dI b k) k (jM l b k)).length m.cap)/\aB w m (jh (jN l b (dI b k) k (jM l b k)))/\bq s w h m):=fun s S=>AD l b _ k _ h s D (by omega) (by omega) (by omega) S.X6;cases R:fU (b[k].toNat:Int)
   all_goals
    go_wp2_with (first | (go_at_call 79;refine(lY _ _).mono ?_;rintro e u ⟨rfl,a⟩;rw[a];clear a) | (go_at_call 165;refine(sG _ _).mono ?_;rintro e u ⟨rfl,a⟩;rw[a];clear a) | (go_at_call 167;refine(t.o _ v.o).mono ?_;rintro e T ⟨O,rfl,I,C⟩;have p:Xr _:=v.o.XN C I;clear C I));go_roundg (b.size-(k+1))
    ·exact⟨k+1,O,by omega,rfl,by rw[x.o.1],by rw[x.o.2];go_num,by go_num,n,by rw[x.o.1];exact p⟩
    omega
 ·have e:k=b.size:=by omega
  subst e;have M:Xr (kc b=none):=Ml J.o;have z:Xr (iW l b=jN l b (dI b b.size) b.size (jM l b b.size)++[m9 l b ⟨#[]⟩ 0 b.size]):=cg (by unfold iW;rw[M.o]);have E:=vG l b (dI b b.size) b.size (jM l b b.size);obtain⟨X,N⟩:=bn (jN l b (dI b b.size) b.size (jM l b b.size));have t:Xr (∀s,zh H s l b h (jM l b b.size)->Calls prog 167 #[agg #[string l,string b],int i64 (dI b b.size),int i64 b.size,slice h.ao (jM l b b.size).length h.cap] s fun e w=>∃m,e=returned (slice m.ao (jN l b (dI b b.size) b.size (jM l b b.size)).length m.cap)/\aB w m (jh (jN l b (dI b b.size) b.size (jM l b b.size)))/\bq s w h m):=fun s S=>AD l b _ b.size _ h s D (by omega) (by omega) (by omega) S.X6;rw[N.o]at t E z;go_upto_region 15 with (go_at_call 167;refine(t.o _ v.o).mono ?_;rintro e T ⟨O,rfl,I,C⟩;have p:Xr _:=v.o.XN C I;clear C I)
  clear K L;have K:T.cell? ⟨H.heap.size,0,none⟩=some (string l):=by rw[ah p.o.f];rfl
  have L:T.cell? ⟨H.heap.size,1,none⟩=some (string b):=by rw[ah p.o.f];rfl
  go_upto_region 16 with (go_at_call 166;refine(sY l b b.size _ (by omega) (by omega)).mono ?_;rintro e u ⟨rfl,F⟩)
  obtain⟨W,d⟩:=bn (u.alloc (.cells #[string l,int i64 (aU b b.size),int i64 (bJ b b.size)] 36));obtain⟨G,y1,p0,p1,p2⟩:=yc d;rw[d.o];have B:Xr _:=p.o.XD (F.trans G);have Q:=B.o.X6;clear G F K L d;go_wp2_with (at_builtin;refine cn W rfl (.tmp 61) (.tmp 64) rfl O X (m9 l b ⟨#[]⟩ 0 b.size) rfl Q (by omega) rfl ?_;intro P w5 r q;have n:Xr _:=B.o.XN q r;clear r q);go_ret;exact⟨P,by rw[z.o];simp,by rw[z.o];exact n.o.X6,n.o.XQ,n.o.far⟩
theorem qZ(o:aB f y (jh i))(b:y.ao=some ⟨x,0,none⟩)(k:Nat)(t:Tk)(d:i[k]?=some t) :
  f.cell? ⟨x,k*5,none⟩=some (string t.s)/\f.cell? ⟨x,k*5+1,none⟩=some (int i64 t.X3)/\f.cell? ⟨x,k*5+2,none⟩=some (string t.XY)/\f.cell? ⟨x,k*5+3,none⟩=some (int i64 t.XZ)/\f.cell? ⟨x,k*5+4,none⟩=some (int i64 t.X0):=by
 have e:∀c,c<5->∀u,(Cs t)[c]?=some u->f.cell? ⟨x,k*5+c,none⟩=some u:=fun c a u g=>o.cell b (k*5+c) u (by show(RN i)[k*5+c]?=some u;rw[RG i k t d c a];exact g);exact⟨e 0 (by omega) _ rfl,e 1 (by omega) _ rfl,e 2 (by omega) _ rfl,e 3 (by omega) _ rfl,e 4 (by omega) _ rfl⟩
theorem rC(o:aB f y z7)(i:0<z7.n):∃g,y.ao=some ⟨g,0,none⟩/\g<f.heap.size/\z7.n<=y.cap:=by
 rcases o.XO with ⟨_,e,_⟩ | ⟨g,a,b,c,d,-⟩
 ·omega
 ·exact⟨g,b,aj c,d⟩
structure OF(w wr:World)(h:Hd)(O:List Tk):Prop where
 X6:aB wr h (jh O)
 far:∀k,h.XR=some k->w.heap.size<=k
 XQ:ae [] w wr
theorem OF.XD(a:OF f S y i)(k:ae [] S z1):OF f z1 y i:=⟨a.X6.XD k,a.far,a.XQ.trans k⟩
theorem OF.XN(a:OF f S y i)(g:bq S z1 y t)(o:aB z1 t (jh y3)):OF f z1 t y3:=by
 refine⟨o,fun k b=>?_,⟨g.XQ.os.trans a.XQ.os,g.XQ.tape.trans a.XQ.tape,g.XQ.output.trans a.XQ.output,TE a.XQ.size g.XQ.size,fun k b _=>?_⟩⟩
 ·rcases g.XR with e | ⟨q,e,c⟩
  ·exact a.far k (by rw[<-e];exact b)
  ·rw[e]at b;cases b;exact TE a.XQ.size c
 ·rw[g.XQ.block k (Tv b a.XQ.size) (fun c=>by have:=a.far _ (aQ c);omega),a.XQ.block k b (by simp)]
def lP(w:World)(ao:Xu)(cap:Nat)(L:List Tk):Prop:=L.length<=cap/\∀k t,L[k]?=some t->∃g,ao=some ⟨g,0,none⟩/\g<w.heap.size /\
  w.cell? ⟨g,k*5,none⟩=some (string t.s)/\w.cell? ⟨g,k*5+1,none⟩=some (int i64 t.X3)/\w.cell? ⟨g,k*5+2,none⟩=some (string t.XY)/\w.cell? ⟨g,k*5+3,none⟩=some (int i64 t.XZ)/\w.cell? ⟨g,k*5+4,none⟩=some (int i64 t.X0)
theorem aB.src(o:aB f y (jh i)):lP f y.ao y.cap i:=by
 refine⟨?_,fun k t c=>?_⟩
 ·rcases o.XO with ⟨e,b,_⟩ | ⟨g,d,m,n,j,-⟩
  ·have b:i.length=0:=b;omega
  ·exact j
 ·have p:=(Tz.1 c).1;obtain⟨g,a,l,-⟩:=rC o (show 0<i.length by omega);exact⟨g,a,l,qZ o a k t c⟩
theorem lP.XD(h:lP f y4 x i)(k:ae [] f S):lP S y4 x i:=by
 refine⟨h.1,fun j t p=>?_⟩;obtain⟨g,e,a,c⟩:=h.2 j t p;obtain⟨b,d,l,m,n⟩:=c;have q:∀o,S.cell? ⟨g,o,none⟩=f.cell? ⟨g,o,none⟩:=fun o=>TN (k.block g a (by simp));exact⟨g,e,Tv a k.size,by rw[q];exact b,by rw[q];exact d,by rw[q];exact l,by rw[q];exact m,by rw[q];exact n⟩
theorem Jm(hL:n.length<=100000)(P:lP H M T n)(hs:∀t∈n,t.s.size<=1073741824) :
  Calls prog 117 #[slice M n.length T] H fun e w'=>∃l,e=returned (slice l.ao (bZ false n).length l.cap)/\OF H w' l (bZ false n):=by
 have S0:Xr (OF H H ⟨none,0⟩ []):=⟨Tw _ _ _ _,(by intro k Q;cases Q),ae.refl _ _⟩;have HO:Xr _:=P;clear P;go_enter func117,ntmps117;go_wp2
 go_loopg [3,4,5] n.length (fun g o L i wr=>∃(k:Nat) (l:Hd) (O:List Tk) (b:Bool),k<=n.length/\g=n.length-k/\o=slice l.ao O.length l.cap/\L=bool b/\i=int i64 k/\O.length<=k/\Xr (O++bZ b (n.drop k)=bZ false n)/\Xr (OF H wr l O))
 ·exact⟨0,⟨none,0⟩,[],false,by omega,rfl,rfl,rfl,rfl,Tp _,rfl,S0⟩
 obtain⟨k,l,O,b,Q,hg,rfl,rfl,rfl,ac,u,E⟩:=hrel;by_cases A:k<n.length
 ·obtain⟨gs,rfl,ad,S,U,V,X,Y⟩:=(lP.XD HO.o E.o.XQ).2 k n[k] (Tm A);have Z:Xr _:=TU A;have K:=hs n[k] (TO A);have af:(k:Int)<n.length:=by omega
  rw[Z.o]at u;generalize n[k]=t at *;obtain⟨d,z,p,q,m⟩:=t;simp only at S U V X Y K;obtain⟨W,w⟩:=bn (wr.alloc (.cells #[string d,int i64 z,string p,int i64 q,int i64 m] 138));have N:=f8 w.o;obtain⟨p0,p1,p2,p3,p4⟩:=oc N;have j:Xr (OF H W l O):=E.o.XD (by rw[<-w.o];exact kr0.alloc _);have r:=j.o.X6;go_upto_region 7 with fail
  rw[w.o];clear S U V X Y w N;go_upto_region 9 with (go_at_call 121;refine(gn d _ _ (by omega) (by show 2<=_;omega)).mono ?_;rintro e w1 ⟨rfl,B⟩;rw[B];clear B)
  cases b
  ·cases R:(d.toList == [36,40])
   ·have f:Xr ((O++[⟨d,z,p,q,m⟩])++bZ false (n.drop (k+1))=bZ false n):=by
     show _=_;rw[<-u.o,bZ,To (by show ¬(d.toList == [36,40])=true;rw[R];simp)];simp
    go_wp2_with (at_builtin;refine cn W rfl (.tmp 41) (.tmp 43) rfl l O ⟨d,z,p,q,m⟩ rfl r (by omega) rfl ?_;intro y D c a;have v:Xr _:=j.o.XN a c;clear c a);go_roundg (n.length-(k+1))
    ·exact⟨k+1,y,O++[⟨d,z,p,q,m⟩],false,by omega,rfl,by simp,rfl,by go_num,by simp;omega,f,v⟩
    omega
   ·have f:Xr (O++bZ true (n.drop (k+1))=bZ false n):=by
     show _=_;rw[<-u.o,bZ,Tq (by show(d.toList == [36,40])=true;exact R)]
    go_wp2;go_roundg (n.length-(k+1))
    ·exact⟨k+1,l,O,true,by omega,rfl,rfl,rfl,by go_num,by omega,f,j⟩
    omega
  ·cases I:(z==0)
   ·have f:Xr ((O++[⟨d,z,p,q,m⟩])++bZ true (n.drop (k+1))=bZ false n):=by
     show _=_;rw[<-u.o,bZ,Tq (by exact I)];simp
    go_wp2_with (at_builtin;refine cn W rfl (.tmp 41) (.tmp 43) rfl l O ⟨d,z,p,q,m⟩ rfl r (by omega) rfl ?_;intro y D c a;have v:Xr _:=j.o.XN a c;clear c a);go_roundg (n.length-(k+1))
    ·exact⟨k+1,y,O++[⟨d,z,p,q,m⟩],true,by omega,rfl,by simp,rfl,by go_num,by simp;omega,f,v⟩
    omega
   ·have J:z=0:=(by simpa using I);subst J;clear I;cases C:(d.toList == [36,41])
    ·cases F:(d.toList == [])
     ·cases x:(ii d ⟨#[36,40]⟩||ii d ⟨#[36,41]⟩)
      ·have f:Xr (O++bZ true (n.drop (k+1))=bZ false n):=by
        show _=_;rw[<-u.o,bZ,To (by simp),To (by show ¬(d.toList == [36,41])=true;rw[C];simp),To (by show ¬(d.toList == [])=true;rw[F];simp),To (by rw[x];simp)]
       simp only[Bool.or_eq_false_iff]at x;obtain⟨x,G⟩:=x;rw[x,G];go_wp2;go_roundg (n.length-(k+1))
       ·exact⟨k+1,l,O,true,by omega,rfl,rfl,rfl,by go_num,by omega,f,j⟩
       omega
      ·have f:Xr (bZ false n=O++[⟨⟨#[]⟩,2,p,q,m⟩]):=by
        show _=_;rw[<-u.o,bZ,To (by simp),To (by show ¬(d.toList == [36,41])=true;rw[C];simp),To (by show ¬(d.toList == [])=true;rw[F];simp),Tq (by rw[x])]
       cases G:ii d ⟨#[36,40]⟩
       ·rw[G,UM]at x;rw[x];go_wp2_with (at_builtin;refine cn W rfl (.tmp 64) (.tmp 68) rfl l O ⟨⟨#[]⟩,2,p,q,m⟩ rfl r (by omega) rfl ?_;intro y D c a;have v:Xr _:=j.o.XN a c;clear c a);go_ret;exact⟨y,by rw[f.o];simp,by rw[f.o];exact v.o⟩
       ·clear x;go_wp2_with (at_builtin;refine cn W rfl (.tmp 64) (.tmp 68) rfl l O ⟨⟨#[]⟩,2,p,q,m⟩ rfl r (by omega) rfl ?_;intro y D c a;have v:Xr _:=j.o.XN a c;clear c a);go_ret;exact⟨y,by rw[f.o];simp,by rw[f.o];exact v.o⟩
     ·have f:Xr ((O++[⟨⟨#[]⟩,3,p,q,m⟩])++bZ true (n.drop (k+1))=bZ false n):=by
       show _=_;rw[<-u.o,bZ,To (by simp),To (by show ¬(d.toList == [36,41])=true;rw[C];simp),Tq (by exact F)];simp
      go_wp2_with (at_builtin;refine cn W rfl (.tmp 53) (.tmp 57) rfl l O ⟨⟨#[]⟩,3,p,q,m⟩ rfl r (by omega) rfl ?_;intro y D c a;have v:Xr _:=j.o.XN a c;clear c a);go_roundg (n.length-(k+1))
      ·exact⟨k+1,y,O++[⟨⟨#[]⟩,3,p,q,m⟩],true,by omega,rfl,by simp,rfl,by go_num,by simp;omega,f,v⟩
      omega
    ·have f:Xr (O++bZ false (n.drop (k+1))=bZ false n):=by
      show _=_;rw[<-u.o,bZ,To (by simp),Tq (by exact C)]
     go_wp2;go_roundg (n.length-(k+1))
     ·exact⟨k+1,l,O,false,by omega,rfl,rfl,rfl,by go_num,by omega,f,j⟩
     omega
 ·have e:n.drop k=[]:=VI (by omega);have f:Xr (bZ false n=O):=by
   show _=_;rw[<-u.o,e];cases b <;> simp[bZ]
  go_wp2;go_ret;exact⟨l,by rw[f.o];rfl,by rw[f.o];exact E.o⟩
def cd(s:Xs):Bool:=(s.toList == [36,46])||(s.toList == [36,123])||(s.toList == [36,125])
def aR(n:Int)(s:Xs):Int :=
 if(s.toList == [36,125])=true then(if(s.toList == [36,123])=true then n+1 else n)-1 else(if(s.toList == [36,123])=true then n+1 else n)
def jY(L:List Tk):Int:=L.foldl (fun n t=>aR n t.s) 0
def dG(L:List Tk):Bool:=match L.getLast? with
 | none=>true
 | some t=>cd t.s&&(jY L==0)
def fj(L:List Tk):Bool:=match L.getLast? with
 | none=>false
 | some t=>!(t.X3==0)
theorem Fd(h:T<n.length):jY (n.take (T+1))=aR (jY (n.take T)) n[T].s:=by
 unfold jY;rw[Uo h,Vo];rfl
set_option maxRecDepth 512
theorem uW :
  Calls prog 85 #[string b] H fun e a=>e=returned (bool (cd b))/\a=H:=by
 go_enter func85,ntmps85;go_wp2
 all_goals go_ret
 all_goals (refine⟨?_,rfl⟩;simp[cd, *])
set_option maxRecDepth 100000
theorem Fc(z:n.length<=100000)(p:lP H M T n) :
  Calls prog 168 #[slice M n.length T] H fun e x=>e=returned (int i64 (jY n))/\x=H:=by
 have q:Xr _:=p;clear p;go_enter func168,ntmps168;go_wp2
 go_loopg [3,4] n.length (fun g v i wr=>∃(k:Nat) (m:Int),k<=n.length/\g=n.length-k/\v=int i64 m/\i=int i64 k/\(-(k:Int)<=m/\m<=(k:Int))/\Xr (m=jY (n.take k))/\wr=H)
 ·exact⟨0,0,by omega,rfl,rfl,rfl,by omega,rfl,rfl⟩
 obtain⟨k,m,B,A,rfl,rfl,C,l,rfl⟩:=hrel;by_cases d:k<n.length
 ·obtain⟨y,rfl,s,w,-⟩:=q.o.2 k n[k] (Tm d);have c:Xr _:=Fd n k d;have u:(k:Int)<n.length:=by omega
  rw[<-l.o]at c;generalize n[k]=t at *;obtain⟨j,G,E,F,D⟩:=t;simp only at w c;cases f:(j.toList == [36,123])
  ·cases a:(j.toList == [36,125])
   ·have b:Xr (m=jY (n.take (k+1))):=(by show _=_;rw[c.o,aR,f,a];simp);go_wp2;go_roundg (n.length-(k+1))
    ·exact⟨k+1,m,by omega,rfl,rfl,by go_num,by omega,b,rfl⟩
    omega
   ·have b:Xr (m-1=jY (n.take (k+1))):=(by show _=_;rw[c.o,aR,f,a];simp);go_wp2;go_roundg (n.length-(k+1))
    ·exact⟨k+1,m-1,by omega,rfl,by go_num,by go_num,by omega,b,rfl⟩
    omega
  ·cases a:(j.toList == [36,125])
   ·have b:Xr (m+1=jY (n.take (k+1))):=(by show _=_;rw[c.o,aR,f,a];simp);go_wp2;go_roundg (n.length-(k+1))
    ·exact⟨k+1,m+1,by omega,rfl,by go_num,by go_num,by omega,b,rfl⟩
    omega
   ·have r:j.toList=[36,123]:=(by simpa using f);rw[r]at a;exact absurd a (by decide)
 ·have e:k=n.length:=by omega
  subst e;rw[UN]at l;go_wp2;go_ret;exact⟨au l.o,rfl⟩
theorem A7(l:n.length<=100000)(j:lP H M T n) :
  Calls prog 118 #[slice M n.length T] H fun e w=>e=returned (bool (dG n))/\w=H:=by
 have g:=j.1;have d:Xr _:=Fc n M T H l j;obtain⟨a,c⟩:=bn (n.length);rw[c.o]at l g d ⊢;by_cases k:a=0
 ·have f:Xr (dG n=true):=by
   show _=_;have:n=[]:=Ue (by rw[c.o,k]);rw[this];rfl
  subst k;go_enter func118,ntmps118;go_wp2;go_ret;exact⟨aF f.o.symm,rfl⟩
 ·have i:a-1<n.length:=by rw[c.o];omega
  obtain⟨C,rfl,p,u,-⟩:=j.2 (a-1) n[a-1] (Tm i);have f:Xr (dG n=(cd n[a-1].s&&(jY n==0))):=by
   show _=_;unfold dG;rw[Vt,c.o,Tm i]
  generalize n[a-1]=t at *;obtain⟨v,I,F,G,E⟩:=t;simp only at u f;have r:IntKind.i64.wrap ((a:Int)-1)=(a:Int)-1:=by rw[UW];omega
  have q:((a:Int)-1).toNat=a-1:=by omega
  have y:(0:Int)<=(a:Int)-1:=by omega
  have z:(a:Int)-1<(a:Int):=by omega
  have A:(1:Int)<=(a:Int):=by omega
  have B:((a:Int)==0)=false:=by simpa using k
  obtain⟨D,m⟩:=bn (jY n);rw[m.o]at f d;go_enter func118,ntmps118;go_wp2_with (first | (go_at_call 168;refine(Tr d.o ?_);rintro e x ⟨rfl,b⟩;rw[b];clear b) | (go_at_call 85;refine(uW v _).mono ?_;rintro e x ⟨rfl,b⟩;rw[b];clear b))
  all_goals go_ret
  all_goals (refine⟨aF ?_,rfl⟩;rw[f.o];simp[*])
theorem vO(j:n.length<=100000)(g:lP H M T n) :
  Calls prog 84 #[slice M n.length T] H fun e q=>e=returned (bool (fj n))/\q=H:=by
 have c:=g.1;obtain⟨a,b⟩:=bn (n.length);rw[b.o]at j c ⊢;by_cases i:a=0
 ·have f:Xr (fj n=false):=by
   show _=_;have:n=[]:=Ue (by rw[b.o,i]);rw[this];rfl
  subst i;go_enter func84,ntmps84;go_wp2;go_ret;exact⟨aF f.o.symm,rfl⟩
 ·have d:a-1<n.length:=by rw[b.o];omega
  obtain⟨w,rfl,k,-,p,-⟩:=g.2 (a-1) n[a-1] (Tm d);have f:Xr (fj n=!(n[a-1].X3==0)):=by
   show _=_;unfold fj;rw[Vt,b.o,Tm d]
  generalize n[a-1]=t at *;obtain⟨B,A,y,z,x⟩:=t;simp only at p f;have m:IntKind.i64.wrap ((a:Int)-1)=(a:Int)-1:=by rw[UW];omega
  have l:((a:Int)-1).toNat=a-1:=by omega
  have r:(0:Int)<=(a:Int)-1:=by omega
  have s:(a:Int)-1<(a:Int):=by omega
  have u:(1:Int)<=(a:Int):=by omega
  have v:0<a:=by omega
  go_enter func84,ntmps84;go_wp2
  all_goals go_ret
  all_goals (refine⟨aF ?_,rfl⟩;rw[f.o];first | rfl | simp[*])
def ob(w:World)(ao:Xu)(cap:Nat)(fs:Fs):Prop:=fs.length<=cap/\∀k,k<fs.length->∃g,ao=some ⟨g,0,none⟩/\g<w.heap.size/\w.cell? ⟨g,k*2,none⟩=some (string (aG fs k))/\w.cell? ⟨g,k*2+1,none⟩=some (string (ak fs k))
theorem ob.XD(h:ob f y4 x y5)(k:ae [] f S):ob S y4 x y5:=by
 refine⟨h.1,fun j d=>?_⟩;obtain⟨g,e,a,b,c⟩:=h.2 j d;have q:∀o,S.cell? ⟨g,o,none⟩=f.cell? ⟨g,o,none⟩:=fun o=>TN (k.block g a (by simp));exact⟨g,e,Tv a k.size,by rw[q];exact b,by rw[q];exact c⟩
set_option maxRecDepth 512
theorem nu(s:d.length<=100000)(j:ob H M z5 d) :
  Calls prog 36 #[slice M d.length z5,string b] H fun e q=>e=returned (int i64 (bS d b))/\q=H:=by
 have m:Xr _:=j;clear j;go_enter func36,ntmps36;go_wp2
 go_loopg [5] d.length (fun g i wr=>∃k:Nat,k<=d.length/\g=d.length-k/\i=int i64 k/\Xr (bS d b=dQ b (d.drop k) k)/\wr=H)
 ·exact⟨0,by omega,by omega,rfl,rfl,rfl⟩
 obtain⟨k,u,t,rfl,a,rfl⟩:=hrel;by_cases c:k<d.length
 ·obtain⟨r,rfl,n,v,w⟩:=m.o.2 k c;have p:(k:Int)<d.length:=by omega
  cases l:((aG d k).toList==b.toList)
  ·have f:Xr (bS d b=dQ b (d.drop (k+1)) (k+1)):=zQ d b k c a.o l;clear a;go_wp2;go_roundg (d.length-(k+1))
   ·exact⟨k+1,by omega,rfl,by go_num,f,rfl⟩
   omega
  ·have f:Xr (bS d b=k):=C3 d b k c a.o l;clear a;go_wp2;go_ret;exact⟨au f.o.symm,rfl⟩
 ·have f:Xr (bS d b=-1):=zR d b k c a.o;clear a;go_wp2;go_ret;exact⟨au f.o.symm,rfl⟩
def dJ(fs:Fs)(s:Xs)(r:Int):Int :=
 if(r==0)=false then r else if(s.toList == [])=true then 7 else if ii s ⟨#[36]⟩=true then 5 else if bS fs s<0 then 6 else 0
def eB(s:Xs)(r:Int):Int :=
 if(r==0)=false then r else if(s.toList == [])=true then 7 else if(s.toList == [36,93])=false then 5 else 0
set_option maxRecDepth 100000
theorem CK :
  Calls prog 120 #[agg #[string l,int i64 g,string b,int i64 s,int i64 o]] H fun e j=>e=returned (agg #[string ⟨#[]⟩,int i64 (eB l g),string b,int i64 s,int i64 o])/\ae [] H j:=by
 cases d:(g==0)
 ·have a:Xr (eB l g=g):=by show _=_;unfold eB;rw[Tq d]
  rw[a.o];go_enter func120,ntmps120;go_wp2;exact Ty (v:=agg #[string ⟨#[]⟩,int i64 g,string b,int i64 s,int i64 o]) (by simp[results,results120,go_sem]) rfl ⟨rfl,((ae.refl _ _).alloc _).alloc _⟩
 ·have f:g=0:=by simpa using d
  subst f;clear d;cases c:(l.toList == [])
  ·cases i:(l.toList == [36,93])
   ·have a:Xr (eB l 0=5):=(by show _=_;unfold eB;rw[To (by simp),To (by rw[c];simp),Tq i]);rw[a.o];go_enter func120,ntmps120;go_wp2;exact Ty (v:=agg #[string ⟨#[]⟩,int i64 5,string b,int i64 s,int i64 o]) (by simp[results,results120,go_sem]) rfl ⟨rfl,((ae.refl _ _).alloc _).alloc _⟩
   ·have a:Xr (eB l 0=0):=(by show _=_;unfold eB;rw[To (by simp),To (by rw[c];simp),To (by rw[i];simp)]);rw[a.o];go_enter func120,ntmps120;go_wp2;exact Ty (v:=agg #[string ⟨#[]⟩,int i64 0,string b,int i64 s,int i64 o]) (by simp[results,results120,go_sem]) rfl ⟨rfl,((ae.refl _ _).alloc _).alloc _⟩
  ·have a:Xr (eB l 0=7):=(by show _=_;unfold eB;rw[To (by simp),Tq c]);rw[a.o];go_enter func120,ntmps120;go_wp2;exact Ty (v:=agg #[string ⟨#[]⟩,int i64 7,string b,int i64 s,int i64 o]) (by simp[results,results120,go_sem]) rfl ⟨rfl,((ae.refl _ _).alloc _).alloc _⟩
theorem FH(x:d.length<=100000)(y:ob H M z5 d)(z:l.size<=1073741824) :
  Calls prog 119 #[slice M d.length z5,agg #[string l,int i64 g,string b,int i64 s,int i64 o]] H fun e t=>e=returned (agg #[string ⟨#[]⟩,int i64 (dJ d l g),string b,int i64 s,int i64 o])/\ae [] H t:=by
 have c:Xr (∀m,ae [] H m->Calls prog 36 #[slice M d.length z5,string l] m fun e t=>e=returned (int i64 (bS d l))/\t=m):=fun m k=>nu d M z5 l m x (y.XD k);obtain⟨w,j⟩:=bn (bS d l);rw[j.o]at c;cases q:(g==0)
 ·have f:Xr (dJ d l g=g):=by show _=_;unfold dJ;rw[Tq q]
  rw[f.o];go_enter func119,ntmps119;go_wp2_with (first | (go_at_call 121;refine(gn l _ _ (by omega) (by show 1<=_;omega)).mono ?_;rintro e i ⟨rfl,a⟩;rw[a];clear a) | (go_at_call 36;refine(c.o _ (by exact((ae.refl [] H).alloc _).alloc _)).mono ?_;rintro e i ⟨rfl,a⟩;rw[a];clear a));exact Ty (v:=agg #[string ⟨#[]⟩,int i64 g,string b,int i64 s,int i64 o]) (by simp[results,results119,go_sem]) rfl ⟨rfl,((ae.refl _ _).alloc _).alloc _⟩
 ·have r:g=0:=by simpa using q
  subst r;clear q;cases n:(l.toList == [])
  ·cases p:ii l ⟨#[36]⟩
   ·by_cases u:w<0
    ·have f:Xr (dJ d l 0=6):=(by show _=_;unfold dJ;rw[To (by simp),To (by rw[n];simp),To (by rw[p];simp),j.o,Tq u]);rw[f.o];go_enter func119,ntmps119;go_wp2_with (first | (go_at_call 121;refine(gn l _ _ (by omega) (by show 1<=_;omega)).mono ?_;rintro e i ⟨rfl,a⟩;rw[a];clear a) | (go_at_call 36;refine(c.o _ (by exact((ae.refl [] H).alloc _).alloc _)).mono ?_;rintro e i ⟨rfl,a⟩;rw[a];clear a));exact Ty (v:=agg #[string ⟨#[]⟩,int i64 6,string b,int i64 s,int i64 o]) (by simp[results,results119,go_sem]) rfl ⟨rfl,((ae.refl _ _).alloc _).alloc _⟩
    ·have f:Xr (dJ d l 0=0):=(by show _=_;unfold dJ;rw[To (by simp),To (by rw[n];simp),To (by rw[p];simp),j.o,To u]);rw[f.o];go_enter func119,ntmps119;go_wp2_with (first | (go_at_call 121;refine(gn l _ _ (by omega) (by show 1<=_;omega)).mono ?_;rintro e i ⟨rfl,a⟩;rw[a];clear a) | (go_at_call 36;refine(c.o _ (by exact((ae.refl [] H).alloc _).alloc _)).mono ?_;rintro e i ⟨rfl,a⟩;rw[a];clear a));exact Ty (v:=agg #[string ⟨#[]⟩,int i64 0,string b,int i64 s,int i64 o]) (by simp[results,results119,go_sem]) rfl ⟨rfl,((ae.refl _ _).alloc _).alloc _⟩
   ·have f:Xr (dJ d l 0=5):=(by show _=_;unfold dJ;rw[To (by simp),To (by rw[n];simp),Tq p]);rw[f.o];go_enter func119,ntmps119;go_wp2_with (first | (go_at_call 121;refine(gn l _ _ (by omega) (by show 1<=_;omega)).mono ?_;rintro e i ⟨rfl,a⟩;rw[a];clear a) | (go_at_call 36;refine(c.o _ (by exact((ae.refl [] H).alloc _).alloc _)).mono ?_;rintro e i ⟨rfl,a⟩;rw[a];clear a));exact Ty (v:=agg #[string ⟨#[]⟩,int i64 5,string b,int i64 s,int i64 o]) (by simp[results,results119,go_sem]) rfl ⟨rfl,((ae.refl _ _).alloc _).alloc _⟩
  ·have f:Xr (dJ d l 0=7):=(by show _=_;unfold dJ;rw[To (by simp),Tq n]);rw[f.o];go_enter func119,ntmps119;go_wp2_with (first | (go_at_call 121;refine(gn l _ _ (by omega) (by show 1<=_;omega)).mono ?_;rintro e i ⟨rfl,a⟩;rw[a];clear a) | (go_at_call 36;refine(c.o _ (by exact((ae.refl [] H).alloc _).alloc _)).mono ?_;rintro e i ⟨rfl,a⟩;rw[a];clear a));exact Ty (v:=agg #[string ⟨#[]⟩,int i64 7,string b,int i64 s,int i64 o]) (by simp[results,results119,go_sem]) rfl ⟨rfl,((ae.refl _ _).alloc _).alloc _⟩
def wi(L:List Tk):Prop:=∃t,L.getLast?=some t/\(t.s.toList == [])=true
theorem wi.next(h:wi i)(b:Nat)(t:Tk)(c:i[b]?=some t)(d:(t.s.toList == [])=false):b+1<i.length:=by
 obtain⟨u,a,f⟩:=h;obtain⟨g,-⟩:=Tz.1 c;rw[Vt]at a;by_cases e:b=i.length-1
 ·rw[<-e,c]at a;cases a
  rw[f]at d;cases d
 ·omega
theorem uV{t:Tk}(h:wi i):wi (t :: i):=by
 obtain⟨u,b,c⟩:=h;cases i with
 | nil=>cases b
 | cons a r=>exact⟨u,by rw[Xj];exact b,c⟩
theorem pK:((⟨#[]⟩:Xs).toList == [])=true:=by decide +kernel
theorem CW:wi [⟨⟨#[]⟩,g,b,s,o⟩]:=⟨_,rfl,pK⟩
theorem LL:wi (iW l b):=by
 unfold iW;split
 ·exact⟨_,VC,pK⟩
 ·exact⟨_,VC,pK⟩
theorem Jn(b:Bool)(L:List Tk)(h:wi L):wi (bZ b L):=by
 induction L generalizing b with
 | nil=>obtain⟨u,c,-⟩:=h;cases c
 | cons t r g =>
  cases r with
  | nil =>
   obtain⟨u,c,d⟩:=h;have e:u=t:=(by simpa using c.symm);subst e;have i:u.s.toList=[]:=by simpa using d
   cases b
   ·rw[bZ,To (by unfold EK;rw[i];decide)];exact⟨u,rfl,d⟩
   ·rw[bZ];split
    ·exact⟨u,rfl,d⟩
    ·rw[To (by unfold EK;rw[i];decide),Tq (by unfold EK;exact d)];exact CW _ _ _ _
  | cons a r =>
   have f:wi (a :: r):=by
    obtain⟨u,c,d⟩:=h;exact⟨u,by rw[Xj]at c;exact c,d⟩
   cases b
   ·rw[bZ];split
    ·exact g true f
    ·exact uV (g false f)
   ·rw[bZ];split
    ·exact uV (g true f)
    ·split
     ·exact g false f
     ·split
      ·exact uV (g true f)
      ·split
       ·exact CW _ _ _ _
       ·exact g true f
def ss(fs:Fs)(k:Nat):List Tk:=bZ false (iW (aG fs k) (ak fs k))
theorem Oq:wi (ss d T):=Jn _ _ (LL _ _)
theorem Et:(ss d T).length<=(ak d T).size+2:=TE (Mo _ _) (AI _ _)
def rY(t:Tk)(r:Int):Tk:=⟨⟨#[]⟩,r,t.XY,t.XZ,t.X0⟩
def cZ(rec:Nat->List Bool->List Tk->List Tk×List Bool)(fs:Fs):List Tk->List Bool->List Tk->List Tk×List Bool
 | [],sn,out=>(out,sn)
 | t :: r,sn,out =>
  if((t.X3==0)&&(t.s.toList == []))=true then((if dG out=true then out else out++[rY t 7]),sn)
  else if(t.s.toList == [36,91])=false then cZ rec fs r sn (out++[t])
  else if dG out=false then(out++[rY t 4],sn)
  else match r with
   | a :: b :: r' =>
    if(dJ fs a.s a.X3==0)=false then(out++[rY a (dJ fs a.s a.X3)],sn)
    else if(eB b.s b.X3==0)=false then(out++[rY b (eB b.s b.X3)],sn)
    else if sn.getD (bS fs a.s).toNat true=true then cZ rec fs r' sn out
    else if fj (rec (bS fs a.s).toNat sn out).1=true then rec (bS fs a.s).toNat sn out
    else cZ rec fs r' (rec (bS fs a.s).toNat sn out).2 (rec (bS fs a.s).toNat sn out).1
   | [a]=>(out++[rY a (dJ fs a.s a.X3)],sn)
   | []=>(out,sn)
def eS(fs:Fs):Nat->Nat->List Bool->List Tk->List Tk×List Bool
 | 0,_,sn,out=>(out,sn)
 | n+1,k,sn,out=>cZ (eS fs n) fs (ss fs k) (sn.set k true) out
def aV(sn:List Bool):Nat:=sn.countP (fun b=>!b)
theorem l6(a:List Bool)(k:Nat)(h:a[k]?=some false):aV (a.set k true)+1=aV a:=by
 unfold aV
 induction a generalizing k with
 | nil=>cases h
 | cons b r c =>
  cases k with
  | zero =>
   simp at h;subst h;simp
  | succ k =>
   have:=c k (by simpa using h);rw[Vh,List.countP_cons,List.countP_cons];omega
def gU(w:World)(g:Nat)(sn:List Bool):Prop:=w.heap[g]?=some (.cells (sn.map bool).toArray 4)
theorem gU.cell(h:gU f x z4)(k:Nat)(b:Bool)(a:z4[k]?=some b):f.cell? ⟨x,k,none⟩=some (bool b):=by
 rw[ah h];simp[a]
theorem gU.XQ(h:gU f x z4)(k:ae y6 f S)(a:x∉y6):gU S x z4:=k.get h a
theorem gU.set(h:gU f x z4)(k:Nat):gU (f.setCell ⟨x,k,none⟩ (bool true)) x (z4.set k true):=by
 unfold gU;rw[ab h];simp[List.map_set]
theorem GG(a:List Bool)(k:Nat)(h:a[k]?=some false):0<aV a:=by
 have:=l6 a k h;omega
structure za(w w':World)(gs:Nat)(h h':Hd):Prop where
 XQ:ae (gs :: h.XR.toList) w w'
 XR:h'.XR=h.XR∨∃g,h'.XR=some g/\w.heap.size<=g
theorem za.of(g:bq f S y t):za f S x y t:=⟨g.XQ.mono (fun _ a _=>Uc _ a),g.XR⟩
theorem za.trans{w1:World}(a:za f w1 x y t)(b:za w1 S x t zt):za f S x y zt:=by
 refine⟨⟨b.XQ.os.trans a.XQ.os,b.XQ.tape.trans a.XQ.tape,b.XQ.output.trans a.XQ.output,TE a.XQ.size b.XQ.size,fun k l i=>?_⟩,?_⟩
 ·rw[b.XQ.block k (Tv l a.XQ.size) (fun j=>?_),a.XQ.block k l i];rcases Ua.1 j with e | j
  ·exact i (by rw[e];simp)
  ·have e:=aQ j;rcases a.XR with c | ⟨g,c,d⟩
   ·exact i (Uc _ (by rw[<-c,e];simp))
   ·rw[c]at e;cases e;omega
 ·rcases b.XR with e | ⟨g,e,d⟩
  ·rcases a.XR with c | ⟨g,c,d⟩
   ·exact TG (e.trans c)
   ·exact TA ⟨g,e.trans c,d⟩
  ·exact TA ⟨g,e,TE a.XQ.size d⟩
structure wk(w:World)(gf cap:Nat)(fs:Fs)(gs:Nat)(sn:List Bool)(h:Hd)(O:List Tk):Prop where
 X6:aB w h (jh O)
 seen:gU w gs sn
 src:ob w (some ⟨gf,0,none⟩) cap fs
 a1:h.XR≠some gs
 a2:h.XR≠some gf
 a3:gf≠gs
 lt:gf<w.heap.size
theorem ob.XQ{a:Nat}(h:ob f (some ⟨x,0,none⟩) a y5)(k:ae y6 f S)(l:x∉y6):ob S (some ⟨x,0,none⟩) a y5:=by
 refine⟨h.1,fun j m=>?_⟩;obtain⟨g,e,b,c,d⟩:=h.2 j m;have i:g=x:=by cases e;rfl
 subst i;have q:∀o,S.cell? ⟨g,o,none⟩=f.cell? ⟨g,o,none⟩:=fun o=>TN (k.block g b l);exact⟨g,rfl,Tv b k.size,by rw[q];exact c,by rw[q];exact d⟩
section
variable {w w':World} {gf cap:Nat} {fs:Fs} {gs:Nat} {sn sn':List Bool} {h h':Hd} {O O':List Tk}
theorem wk.XD(a:wk w gf cap fs gs sn h O)(k:ae [] w w'):wk w' gf cap fs gs sn h O :=
 ⟨a.X6.XD k,a.seen.XQ k (by simp),a.src.XQ k (by simp),a.a1,a.a2,a.a3,Tv a.lt k.size⟩
theorem wk.far(a:wk w gf cap fs gs sn h O)(r:za w w' gs h h'):h'.XR≠some gs/\h'.XR≠some gf:=by
 have c:=aj a.seen;have d:=a.lt;rcases r.XR with e | ⟨g,e,b⟩
 ·rw[e];exact⟨a.a1,a.a2⟩
 ·rw[e];exact⟨fun q=>by cases q;omega,fun q=>by cases q;omega⟩
theorem wk.turn(a:wk w gf cap fs gs sn h O)(r:za w w' gs h h')(o:aB w' h' (jh O'))(s:gU w' gs sn'):wk w' gf cap fs gs sn' h' O':=by
 obtain⟨c,d⟩:=a.far r;refine⟨o,s,a.src.XQ r.XQ (fun b=>?_),c,d,a.a3,Tv a.lt r.XQ.size⟩;rcases Ua.1 b with e | b
 ·exact a.a3 e
 ·exact a.a2 (aQ b)
end
theorem LI:(b.extract k T).size<=b.size:=by rw[VX];omega
theorem yX(h:∀t∈m,t.s.size<=b.size):∀t∈jN l b k T m,t.s.size<=b.size:=by
 intro t a;unfold jN at a;split at a
 ·exact h t a
 ·rcases Uf.1 a with a | a
  ·exact h t a
  ·rw[TH.1 a];exact LI b k T
theorem AB(i:Nat):∀t∈jM l b i,t.s.size<=b.size:=by
 induction i with
 | zero=>intro t c;cases c
 | succ i a =>
  rw[jM];split
  ·exact yX l b _ _ _ a
  ·exact a
theorem y8:∀t∈iW l b,t.s.size<=b.size:=by
 intro t a;unfold iW at a;split at a
 ·rcases Uf.1 a with a | a
  ·exact AB l b _ t a
  ·rw[TH.1 a];exact Ub _
 ·rcases Uf.1 a with a | a
  ·exact yX l b _ _ _ (AB l b _) t a
  ·rw[TH.1 a];exact Ub _
theorem Jp(b:Bool)(L:List Tk)(h:∀t∈L,t.s.size<=T):∀t∈bZ b L,t.s.size<=T:=by
 induction L generalizing b with
 | nil=>intro t c;cases b <;> simp[bZ]at c
 | cons a r g =>
  have d:=fun b=>g b (fun t c=>h t (Uc _ c));have f:=h a (by simp);intro t c;cases b
  ·rw[bZ]at c;split at c
   ·exact d _ t c
   ·rcases Ua.1 c with e | c
    ·rw[e];exact f
    ·exact d _ t c
  ·rw[bZ]at c;split at c
   ·rcases Ua.1 c with e | c
    ·rw[e];exact f
    ·exact d _ t c
   ·split at c
    ·exact d _ t c
    ·split at c
     ·rcases Ua.1 c with e | c
      ·rw[e];exact Ub _
      ·exact d _ t c
     ·split at c
      ·rw[TH.1 c];exact Ub _
      ·exact d _ t c
theorem Lx:∀t∈ss d T,t.s.size<=(ak d T).size:=Jp _ _ _ (y8 _ _)
end Go.Proofs.YtnbhnocdhbcbcaaGreat
