import Derived.Deep.RegionHeld3
import Derived.Laws.OwnMore
import Derived.Test.YtpdholcaobgofaaGreatP12
namespace Go.Proofs.YtpdholcaobgofaaGreat
open Go.RowKit Tryz
open Value IntKind Ending
set_option maxHeartbeats 0
variable{s:Program}{z4:Array Oper}{z8:List Oper}{o:Oper}{L:Act}{z5:Exit->Act->World->Prop}{n S z0:World}{zf:Act->World->Prop}{D M:Xr}{x:Nat}{k z1:Hd}{d zt:List Tk}{y0:Xt}{y2:Fs}(y:Fs)(f:List Tk)(I:Xt)(z6:Nat)(z2:World)(l b:Xr)(N m i:Int)(v T:Nat)(g:List Tk)(z3:Hd)(H:World)(z7:Tk)
theorem sI{P:Program}(t E:TypeId)(i:TypeInfo)(z:Value)(d:Nat)(h:Hd)(r:eD)(A:P.underlying t=some (.slice r.e))(B:P.info? r.e=some i)(N:i.zero=some z)(I:i.size=r.size)(O:i.bytes=d)(Q:z.cells.size=r.size)(R:0<r.size)(b:aD H h r)(y:Xt)(m c:Nat)(a:List Value)(D:a.length=m*r.size)(l:y=none->m=0/\c=0)(C:∀p,y=some p->∀j u,a[j]?=some u->H.cell? (p.add j)=some u)(v:∀u∈a,u.oneCell'=true)(J:r.n+m<=maxLen)(K:(r.n+m)*d<=140737488355328) :
  ∃f o,(Builtin.append_ #[t,t] E #[slice h.ao r.n h.cap,slice y m c]).run P H=.ok (slice f.ao (r.n+m) f.cap) o /\
   aD o f ⟨r.e,r.size,r.n+m,r.xs++a⟩/\bL H o h f:=by
 cases y with
 | none =>
  obtain⟨rfl,rfl⟩:=l rfl;have k:a=[]:=XY (by simpa using D);subst k;have T:=run_append_owned_none (P:=P) H 0 t E r.e i r.size A B (slice h.ao r.n h.cap) r.n r.xs b;exact⟨h,H,T,by rw[Ya];exact b,bL.Zbj (aa.refl _ _)⟩
 | some p =>
  have C:=C p rfl;by_cases S:0<m
  ·obtain⟨g,q,o,V,W,X,Y⟩:=tH H t E i z d h r A B N I O Q R b p m c a D C v S J K;exact⟨⟨some ⟨g,0,none⟩,q⟩,o,V,W,bL.made X Y⟩
  ·have e:m=0:=(by omega);subst e;have k:a=[]:=XY (by simpa using D);subst k;rcases b.Zbu with ⟨s,G,M⟩ | ⟨g,L,s,G,M,Z,e5,e6⟩
   ·refine⟨h,H,?_,?_,bL.Zbj (aa.refl _ _)⟩
    ·rw[s,G];simp[Builtin.append_,run_underlying A,sizeOf,typeInfo,B,Builtin.lenOf,Builtin.firstCells,loadCells,loadCellsFrom]
    ·rw[Ya,YM];exact b
   ·obtain⟨o,x,U,F⟩:=run_append_fits (P:=P) H 0 t E r.e i r.size A B I g r.n h.cap r.xs (by have:=b;unfold aD at this;rw[s]at this;exact this) p 0 c [] D C v (by omega);have w:h.Zbx=some g:=(by unfold Hd.Zbx;rw[s];rfl);exact⟨⟨some ⟨g,0,none⟩,h.cap⟩,o,by rw[s,x],U,bL.made (by rw[w];exact F) (XQ w)⟩
theorem dK(Q:o.guard=none)(B x:Operand)(t:TypeId)(y:o.op=Op.call { callee:=Callee.builtin Builtin.append,args:=#[B,x],argTypes:=#[t,t] })(i:TypeInfo)(z:Value)(b:Nat)(h:Hd)(r:eD)(D:s.underlying t=some (.slice r.e))(E:s.info? r.e=some i)(F:i.zero=some z)(G:i.size=r.size)(I:i.bytes=b)(J:z.cells.size=r.size)(M:0<r.size)(S:L.eval B=slice h.ao r.n h.cap)(f:aD H h r)(l:Xt)(m c:Nat)(a:List Value)(T:L.eval x=slice l m c)(R:a.length=m*r.size)(d:l=none->m=0/\c=0)(P:∀A,l=some A->∀j u,a[j]?=some u->H.cell? (A.add j)=some u)(q:∀u∈a,u.oneCell'=true)(C:r.n+m<=1000000000)(O:b<=1000)(N:∀p k,aD k p ⟨r.e,r.size,r.n+m,r.xs++a⟩->bL H k h p->wpList s z4 z5 z8 (L.put o.dst (slice p.ao (r.n+m) p.cap)) k) :
  wpList s z4 z5 (o :: z8) L H:=by
 obtain⟨w,k,g,U,V⟩:=sI (P:=s) H t o.type i z b h r D E F G I J M f l m c a R d P q (by unfold maxLen;omega) (XF (YF C O) (by omega));refine wpList_plain Q fun K v=>?_;unfold Oper.wp;simp[execOp,y,resolve,invoke,builtin,S,T,g,Result.andThen];exact v _ _ (N w k U V)
theorem Bo{E:Prop}(P:o.guard=none)(B x:Operand)(t:TypeId)(y:o.op=Op.call { callee:=Callee.builtin Builtin.append,args:=#[B,x],argTypes:=#[t,t] })(i:TypeInfo)(z:Value)(b:Nat)(h:Hd)(r:eD)(D:s.underlying t=some (.slice r.e))(F:s.info? r.e=some i)(G:i.zero=some z)(H:i.size=r.size)(I:i.bytes=b)(J:z.cells.size=r.size)(K:0<r.size)(R:L.eval B=slice h.ao r.n h.cap)(l:aD n h r)(v:Xt)(m c:Nat)(a:List Value)(T:L.eval x=slice v m c)(Q:a.length=m*r.size)(g:v=none->m=0/\c=0)(O:∀A,v=some A->∀j u,a[j]?=some u->n.cell? (A.add j)=some u)(w:∀u∈a,u.oneCell'=true)(C:r.n+m<=1000000000)(N:b<=1000)(M:∀f d q,aD q ⟨f,d⟩ ⟨r.e,r.size,r.n+m,r.xs++a⟩->bL n q h ⟨f,d⟩->zf (L.put o.dst (slice f (r.n+m) d)) q) :
  if Region.wanted o (yielded z4 L.tmps)=true then Oper.wp s o L n zf z5 else E:=by
 have S:Region.wanted o (yielded z4 L.tmps)=true:=by simp[Region.wanted,P]
 rw[XA S];obtain⟨k,q,p,U,V⟩:=sI (P:=s) n t o.type i z b h r D F G H I J K l v m c a Q g O w (by unfold maxLen;omega) (XF (YF C N) (by omega));unfold Oper.wp;simp[execOp,y,resolve,invoke,builtin,R,T,p,Result.andThen];exact M k.ao k.cap q U V
theorem ci{E:Prop}(I:o.guard=none)(m x:Operand)(t:TypeId)(l:o.op=Op.call { callee:=Callee.builtin Builtin.append,args:=#[m,x],argTypes:=#[t,t] })(i:TypeInfo)(z:Value)(c:Nat)(h:Hd)(r:eD)(a:List Value)(v:s.underlying t=some (.slice r.e))(w:s.info? r.e=some i)(y:i.zero=some z)(A:i.size=r.size)(B:i.bytes=c)(C:z.cells.size=r.size)(D:0<r.size)(M:L.eval m=slice h.ao r.n h.cap)(f:aD H h r)(Q:r.n<=900000000)(G:c<=1000)(N:L.eval x=slice (some ⟨H.heap.size,0,none⟩) 1 1)(R:a.length=r.size)(k:∀u∈a,u.oneCell'=true)(F:∀d b g,aD g ⟨d,b⟩ ⟨r.e,r.size,r.n+1,r.xs++a⟩->bL H g h ⟨d,b⟩->zf (L.put o.dst (slice d (r.n+1) b)) g) :
  if Region.wanted o (yielded z4 L.tmps)=true then Oper.wp s o L (H.alloc (.cells a.toArray r.e)).drew zf z5 else E:=by
 have p:aa [] H (H.alloc (.cells a.toArray r.e)).drew:=(bH.alloc _).drew;have K:(H.alloc (.cells a.toArray r.e)).drew.heap[H.heap.size]?=some (.cells a.toArray r.e):=XD _ _;refine Bo I m x t l i z c h r v w y A B C D M (f.Zbj p) (some ⟨H.heap.size,0,none⟩) 1 1 a N (by omega) (fun e=>by cases e) ?_ k (by omega) G ?_
 ·intro P e j u J;cases e
  rw[bE,ab K];simpa using J
 ·intro d b g O q;exact F d b g O ((bL.Zbj p).trans q)
theorem uW :
  Calls prog 163 #[int u8 i] H fun e a=>e=returned (bool (dD i))/\a=H:=by
 go_enter func163,ntmps163;go_wp2
 all_goals go_ret
 all_goals (refine⟨?_,rfl⟩;first | (simp[dD, *];done) | (simp[dD, *,Bool.or_assoc];rw[Bool.or_comm (i==13)]))
theorem m8 :
  Calls prog 77 #[int u8 i] H fun e a=>e=returned (bool (gG i))/\a=H:=by
 go_enter func77,ntmps77;go_wp2
 all_goals go_ret
 all_goals (refine⟨?_,rfl⟩;first | (simp[gG, *];done) | (simp[gG];omega) | (rename_i h;simp only[gG];rw[show decide (33<=i)=true by simp;omega];simp;omega))
theorem gQ(u:l.size<=4294967296)(v:b.size<=4294967296) :
  Calls prog 119 #[string l,string b] H fun e r=>e=returned (bool (jC l b))/\r=H:=by
 go_enter func119,ntmps119;go_wp2
 go_loopg [5] (l.size+1) (fun g i wr=>∃k:Nat,k<=l.size+1/\g=l.size+1-k/\i=int i64 k/\Xq (∀i,i<k->i+b.size<=l.size->vH l b i=false)/\wr=H)
 ·exact⟨0,by omega,by omega,rfl,fun i h=>by omega,rfl⟩
 obtain⟨k,t,s,rfl,a,rfl⟩:=hrel;by_cases f:k+b.size<=l.size
 ·have n:(k:Int)<=(k:Int)+(b.size:Int):=by omega
  have p:(k:Int)+(b.size:Int)<=(l.size:Int):=by omega
  have q:((k:Int)+(b.size:Int)).toNat=k+b.size:=by omega
  cases j:((l.extract k (k+b.size)).toList==b.toList)
  ·go_wp2;go_roundg (l.size+1-(k+1))
   ·refine⟨k+1,by omega,rfl,by go_num,?_,rfl⟩;intro i m c;by_cases e:i=k
    ·subst e;exact j
    ·exact a.o i (by omega) c
   omega
  ·have d:Xq (jC l b=true):=pK k (by omega) (by simp[f,vH,j]);go_wp2;go_ret;exact⟨aH d.o.symm,rfl⟩
 ·have d:Xq (jC l b=false):=zL (fun i m=>by
   by_cases c:i+b.size<=l.size
   ·simp[a.o i (by omega) c]
   ·simp[c])
  go_wp2;go_ret;exact⟨aH d.o.symm,rfl⟩
structure yU(w wr:World)(nm d:Xr)(j:Nat):Prop where
 f:wr.heap[w.heap.size]?=some (.cells #[string nm,string d] 68)
 r:wr.heap[w.heap.size+1]?=some (.cells #[string ⟨#[]⟩,int i64 0,int i64 0] 36)
 p:wr.heap[w.heap.size+2]?=some (.cells #[string nm,int i64 (bb d j),int i64 (bN d j)] 36)
 Zbw:aa [] w wr
theorem yU.start:yU z2 (((z2.alloc (.cells #[string l,string b] 68)).alloc (.cells #[string ⟨#[]⟩,int i64 0,int i64 0] 36)).alloc (.cells #[string l,int i64 1,int i64 1] 36)) l b 0:=by
 have g:=(aa.refl [] z2).alloc (.cells #[string l,string b] 68);have c:=(aa.refl [] (z2.alloc (.cells #[string l,string b] 68))).alloc (.cells #[string ⟨#[]⟩,int i64 0,int i64 0] 36);have a:=(aa.refl [] ((z2.alloc (.cells #[string l,string b] 68)).alloc (.cells #[string ⟨#[]⟩,int i64 0,int i64 0] 36))).alloc (.cells #[string l,int i64 1,int i64 1] 36);have d:(z2.alloc (.cells #[string l,string b] 68)).heap[z2.heap.size]?=some (.cells #[string l,string b] 68):=XD _ _;have e:=XD (z2.alloc (.cells #[string l,string b] 68)) (.cells #[string ⟨#[]⟩,int i64 0,int i64 0] 36);have f:=XD ((z2.alloc (.cells #[string l,string b] 68)).alloc (.cells #[string ⟨#[]⟩,int i64 0,int i64 0] 36)) (.cells #[string l,int i64 1,int i64 1] 36);refine⟨a.get (c.get d (by simp)) (by simp),a.get (by simpa using e) (by simp),by simpa [bb,bN] using f,(g.trans c).trans a⟩
theorem yU.other(h:yU n S D M x)(a:(aL M x==10)=false):yU n (S.setCell ⟨n.heap.size+1+1,2,none⟩ (int i64 (bN M x+1))) D M (x+1):=by
 have k:aa [n.heap.size+1+1] S (S.setCell ⟨n.heap.size+1+1,2,none⟩ (int i64 (bN M x+1))):=(aa.refl _ _).sl1 _;refine⟨k.get h.f (by simp;omega),k.get h.r (by simp),?_,h.Zbw.setCell (XK (by show _<=n.heap.size+1+1;omega)) _⟩;rw[ae h.p];simp[bb,bN,a]
theorem yU.lf(h:yU n S D M x)(a:(aL M x==10)=true):yU n (((S.setCell ⟨n.heap.size+1+1,2,none⟩ (int i64 (bN M x+1))).setCell ⟨n.heap.size+1+1,1,none⟩ (int i64 (bb M x+1))).setCell ⟨n.heap.size+1+1,2,none⟩ (int i64 1)) D M (x+1):=by
 have k:aa [n.heap.size+1+1] S (((S.setCell ⟨n.heap.size+1+1,2,none⟩ (int i64 (bN M x+1))).setCell ⟨n.heap.size+1+1,1,none⟩ (int i64 (bb M x+1))).setCell ⟨n.heap.size+1+1,2,none⟩ (int i64 1)):=(((aa.refl _ _).sl1 _).sl1 _).sl1 _;refine⟨k.get h.f (by simp;omega),k.get h.r (by simp),?_,((h.Zbw.setCell (XK (by show _<=n.heap.size+1+1;omega)) _).setCell (XK (by show _<=n.heap.size+1+1;omega)) _).setCell (XK (by show _<=n.heap.size+1+1;omega)) _⟩;rw[ae (ae (ae h.p 2 _) 1 _) 2 _];simp[bb,bN,a]
theorem vx(R:T<=b.size)(O:b.size<=1073741824) :
  Calls prog 164 #[agg #[string l,string b],int i64 T] H fun e y=>e=returned (agg #[string l,int i64 (bb b T),int i64 (bN b T)])/\aa [] H y:=by
 go_enter func164,ntmps164;go_wp2
 go_loopg [6] T (fun g i wr=>∃j:Nat,j<=T/\g=T-j/\i=int i64 j/\Xq (yU H wr l b j))
 ·exact⟨0,by omega,rfl,rfl,yU.start H l b⟩
 obtain⟨j,Q,P,rfl,c⟩:=hrel;have t:=c.o.f;have a:=c.o.r;have d:=c.o.p;have E:wr.cell? ⟨H.heap.size,1,none⟩=some (string b):=by rw[ab t];rfl
 have F:wr.cell? ⟨H.heap.size+2,0,none⟩=some (string l):=by rw[ab d];rfl
 have G:wr.cell? ⟨H.heap.size+2,1,none⟩=some (int i64 (bb b j)):=by rw[ab d];rfl
 have I:wr.cell? ⟨H.heap.size+2,2,none⟩=some (int i64 (bN b j)):=by rw[ab d];rfl
 have J:=zcW d 1;have K:=zcW d 2;have L:=zcW a 0;have M:=zcW a 1;have N:=zcW a 2;have S:wr.cell? ⟨H.heap.size+1,0,none⟩=some (string ⟨#[]⟩):=by rw[ab a];rfl
 have U:wr.cell? ⟨H.heap.size+1,1,none⟩=some (int i64 0):=by rw[ab a];rfl
 have V:wr.cell? ⟨H.heap.size+1,2,none⟩=some (int i64 0):=by rw[ab a];rfl
 have D:=EH b j;have C:=Ef b j;by_cases x:j<T
 ·have k:j<b.size:=by omega
  cases s:((b[j].toNat:Int)==10)
  ·have m:Xq (yU H _ l b (j+1)):=c.o.other (by rw[cw b j k];exact s);go_wp2;go_roundg (T-(j+1))
   ·exact⟨j+1,by omega,rfl,by go_num,m.o⟩
   omega
  ·have m:Xq (yU H _ l b (j+1)):=c.o.lf (by rw[cw b j k];exact s);go_wp2;go_roundg (T-(j+1))
   ·exact⟨j+1,by omega,rfl,by go_num,m.o⟩
   omega
 ·have e:j=T:=by omega
  subst e;have u:Xq _:=c.o.Zbw;go_wp2;have n:=ae a 0 (string l);have q:=ae n 1 (int i64 (bb b j));have w:=ae q 2 (int i64 (bN b j));have z:(wr.setCell ⟨H.heap.size+1,0,none⟩ (string l)).cell? ⟨H.heap.size+1,0,none⟩=some (string l):=by rw[ab n];rfl
  have A:((wr.setCell ⟨H.heap.size+1,0,none⟩ (string l)).setCell ⟨H.heap.size+1,1,none⟩ (int i64 (bb b j))).cell? ⟨H.heap.size+1,1,none⟩=some (int i64 (bb b j)):=by rw[ab q];rfl
  have B:(((wr.setCell ⟨H.heap.size+1,0,none⟩ (string l)).setCell ⟨H.heap.size+1,1,none⟩ (int i64 (bb b j))).setCell ⟨H.heap.size+1,2,none⟩ (int i64 (bN b j))).cell? ⟨H.heap.size+1,2,none⟩=some (int i64 (bN b j)):=by rw[ab w];rfl
  exact XG (v:=agg #[string l,int i64 (bb b j),int i64 (bN b j)]) (by simp[results,results164,go_sem,z,A,B]) rfl ⟨rfl,((u.o.sr1 (by simp) _).sr1 (by simp) _).sr1 (by simp) _⟩
theorem J8:(prog.info? 138).map (fun i=>(i.zero,i.size,i.bytes))=some (some (agg #[string ⟨#[]⟩,int i64 0,string ⟨#[]⟩,int i64 0,int i64 0]),5,56):=by kernel_rfl
theorem Ub:∀j u,(Fx z7)[j]?=some u->(H.alloc (.cells (Fx z7).toArray 138)).cell? ((⟨H.heap.size,0,none⟩:Addr).add j)=some u:=by
 intro j u a;rw[bE];have b:(H.alloc (.cells (Fx z7).toArray 138)).heap[H.heap.size]?=some (.cells (Fx z7).toArray 138):=XD _ _;rw[ab b];simpa using a
theorem Uc:∀u∈Fx z7,u.oneCell'=true:=by
 intro u a;simp only[Fx,List.mem_cons,List.not_mem_nil,or_false]at a;rcases a with rfl | rfl | rfl | rfl | rfl <;> rfl
set_option maxRecDepth 100000
theorem DK(L:v<=T)(hz:T<=b.size)(O:b.size<=1073741824)(hL:g.length<=100000)(s:aD H z3 (jL g)) :
  Calls prog 165 #[agg #[string l,string b],int i64 v,int i64 T,slice z3.ao g.length z3.cap] H fun e E=>∃p,e=returned (slice p.ao (kG l b v T g).length p.cap)/\aD E p (jL (kG l b v T g))/\bL H E z3 p:=by
 have q:aa [] H (H.alloc (.cells #[string l,string b] 68)):=bH.alloc _;have A:(H.alloc (.cells #[string l,string b] 68)).heap[H.heap.size]?=some (.cells #[string l,string b] 68):=XD _ _;by_cases e:v=T
 ·subst e;have m:Xq (kG l b v v g=g):=cm (by unfold kG;rw[XA rfl]);have r:Xq _:=s.Zbj q;rw[m.o];go_enter func165,ntmps165;go_wp2;go_ret;exact⟨z3,rfl,r.o,bL.Zbj q⟩
 ·have m:Xq (kG l b v T g=g++[ou l b (b.extract v T) 0 v]):=by show _=_;unfold kG;rw[Xz e]
  have P:¬((v:Int)=(T:Int)):=by omega
  obtain⟨R,Q,t,w,x⟩:=XV J8;have M:(v:Int)<=(T:Int):=by omega
  have N:(T:Int)<=(b.size:Int):=by omega
  go_enter func165,ntmps165;go_upto_region 4 with (go_at_call 164;refine(vx l b v _ (by omega) O).mono ?_;rintro e Y ⟨rfl,y⟩)
  obtain⟨W,a⟩:=aP (Y.alloc (.cells #[string l,int i64 (bb b v),int i64 (bN b v)] 36));have z:=dx a.o;have C:=dC a.o;have K:=(q.trans y).trans z;have B:=z.get (y.get A (by simp)) (by simp);have Z:W.cell? ⟨H.heap.size,1,none⟩=some (string b):=by rw[ab B];rfl
  obtain⟨p0,p1,p2⟩:=zT C;rw[a.o];have I:Xq _:=K;have J:Xq (aD (W.alloc (.cells #[string (b.extract v T),int i64 0,string l,int i64 (bb b v),int i64 (bN b v)] 138)).drew z3 (jL g)):=(s.Zbj K).Zbj ((aa.refl [] W).alloc _).drew;have S:Xq (∀j u,([string (b.extract v T),int i64 0,string l,int i64 (bb b v),int i64 (bN b v)]:List Value)[j]?=some u->(W.alloc (.cells #[string (b.extract v T),int i64 0,string l,int i64 (bb b v),int i64 (bN b v)] 138)).drew.cell? ((⟨W.heap.size,0,none⟩:Addr).add j)=some u):=Ub W (ou l b (b.extract v T) 0 v);have U:Xq (∀u∈([string (b.extract v T),int i64 0,string l,int i64 (bb b v),int i64 (bN b v)]:List Value),u.oneCell'=true):=Uc (ou l b (b.extract v T) 0 v);have V:Xq ((jL g).n+1<=maxLen):=by show _<=_;simp only[jL];unfold maxLen;omega
  have X:Xq (((jL g).n+1)*56<=140737488355328):=by show _<=_;simp only[jL];omega
  clear z C K B A q y a s;go_region_law (refine bB rfl (.tmp 17) (.tmp 25) 101 rfl R (agg #[string ⟨#[]⟩,int i64 0,string ⟨#[]⟩,int i64 0,int i64 0]) 56 z3 (jL g) underlying101 Q t w x rfl (show 0<5 by omega) (by simp[Act.eval] <;> rfl) J.o ⟨W.heap.size,0,none⟩ 1 1 [string (b.extract v T),int i64 0,string l,int i64 (bb b v),int i64 (bN b v)] (by simp[Act.eval]) rfl S.o U.o XR V.o X.o ?_;intro D c F i d f)
  all_goals
   have k:aD F ⟨some ⟨D,0,none⟩,c⟩ (jL (g++[ou l b (b.extract v T) 0 v])):=(by rw[<-Do];exact i);have G:Xq (bL H F z3 ⟨some ⟨D,0,none⟩,c⟩):=(bL.Zbj (I.o.trans ((aa.refl [] W).alloc _).drew)).trans (bL.made d (by simpa using f));have r:Xq _:=k;clear i d f k;go_wp2;go_ret;exact⟨_,by rw[m.o];simp[jL],by rw[m.o];exact r.o,G.o⟩
theorem cO(r:o.guard=none)(s x:Operand)(i:o.op=Op.call { callee:=Callee.builtin Builtin.append,args:=#[s,x],argTypes:=#[101,101] })(h:Hd)(a:List Tk)(t:Tk)(v:L.eval s=slice h.ao a.length h.cap)(d:aD H h (jL a))(A:a.length<=1000000)(w:L.eval x=slice (some ⟨H.heap.size,0,none⟩) 1 1)(q:∀f m,aD m f (jL (a++[t]))->bL H m h f->wpList prog z4 z5 z8 (L.put o.dst (slice f.ao (a.length+1) f.cap)) m) :
  wpList prog z4 z5 (o :: z8) L (H.alloc (.cells (Fx t).toArray 138)):=by
 obtain⟨y,u,j,k,l⟩:=XV J8;have n:aa [] H (H.alloc (.cells (Fx t).toArray 138)):=bH.alloc _;refine aR _ r s x 101 i y (agg #[string ⟨#[]⟩,int i64 0,string ⟨#[]⟩,int i64 0,int i64 0]) 56 h (jL a) underlying101 u j k l rfl (show 0<5 by omega) v (d.Zbj n) ⟨H.heap.size,0,none⟩ 1 1 (Fx t) w rfl (Ub H t) (Uc t) XR (by simp only[jL];unfold maxLen;omega) (by simp only[jL];omega) ?_;intro p b z e c g;rw[Do]at e;exact q ⟨some ⟨p,0,none⟩,b⟩ z e ((bL.Zbj n).trans (bL.made c g))
structure Cf(w wr:World)(nm d:Xr)(h:Hd)(L:List Tk):Prop where
 f:wr.heap[w.heap.size]?=some (.cells #[string nm,string d] 68)
 ZbH:aD wr h (jL L)
 far:∀k,h.Zbx=some k->w.heap.size<k
 Zbw:aa [] w wr
theorem Cf.Zbj(a:Cf n S D M k d)(b:aa [] S z0):Cf n z0 D M k d :=
 ⟨b.get a.f (by simp),a.ZbH.Zbj b,a.far,a.Zbw.trans b⟩
theorem Cf.Zbt(a:Cf n S D M k d)(g:bL S z0 k z1)(o:aD z0 z1 (jL zt)):Cf n z0 D M z1 zt:=by
 have j:=ah a.f;refine⟨g.Zbw.get a.f (fun c=>by have:=a.far _ (aX c);omega),o,fun i b=>?_,⟨g.Zbw.os.trans a.Zbw.os,g.Zbw.tape.trans a.Zbw.tape,g.Zbw.output.trans a.Zbw.output,XF a.Zbw.size g.Zbw.size,fun i b _=>?_⟩⟩
 ·rcases g.Zbx with e | ⟨q,e,c⟩
  ·exact a.far i (by rw[<-e];exact b)
  ·rw[e]at b;cases b;omega
 ·rw[g.Zbw.block i (XB b a.Zbw.size) (fun c=>by have:=a.far _ (aX c);omega),a.Zbw.block i b (by simp)]
theorem AN{l c:Int}(h:Xq (n.alloc (.cells #[string D,int i64 l,int i64 c] 36)=S)):aa [] n S/\n.heap.size<S.heap.size/\S.cell? ⟨n.heap.size,0,none⟩=some (string D)/\S.cell? ⟨n.heap.size,1,none⟩=some (int i64 l)/\S.cell? ⟨n.heap.size,2,none⟩=some (int i64 c):=by
 have a:S.heap[n.heap.size]?=some (.cells #[string D,int i64 l,int i64 c] 36):=by rw[<-h.o];exact XD _ _
 exact⟨by rw[<-h.o];exact bH.alloc _,ah a,by rw[ab a];rfl,by rw[ab a];rfl,by rw[ab a];rfl⟩
theorem zak(c:x<D.size)(h:uw (aL D x)=true)(a:∀j,j<x->uw (aL D j)=false):ln D=some x:=by
 unfold ln;rw[Y3];exact⟨h,XI.2 c,fun j b=>by rw[a j b];rfl⟩
theorem QO(a:∀j,j<D.size->uw (aL D j)=false):ln D=none:=by
 unfold ln;rw[YD];intro j b;rw[a j (XI.1 b)];simp
theorem LN(hd:b.size<=10000) :
  Calls prog 114 #[agg #[string l,string b]] H fun e w=>∃m,e=returned (slice m.ao (jE l b).length m.cap)/\aD w m (jL (jE l b))/\aa [] H w/\∀k,m.Zbx=some k->H.heap.size<k:=by
 have Y:Xq (Cf H (H.alloc (.cells #[string l,string b] 68)) l b ⟨none,0⟩ []):=⟨XD _ _,XE _ _ _ _,(by intro k V;cases V),bH.alloc _⟩;obtain⟨i0,hi,ad,af,ag⟩:=XV J8;go_enter func114,ntmps114;go_wp2
 go_loopg [3,4,5] b.size (fun g o f i wr=>∃(k:Nat) (h:Hd),k<=b.size/\g=b.size-k/\o=slice h.ao (kF l b k).length h.cap/\f=int i64 (dU b k)/\i=int i64 k/\Xq (∀j,j<k->uw (aL b j)=false)/\Xq (Cf H wr l b h (kF l b k)))
 ·exact⟨0,⟨none,0⟩,by omega,rfl,rfl,rfl,rfl,(fun j U=>by omega),Y⟩
 obtain⟨k,h,V,hg,rfl,rfl,rfl,J,v⟩:=hrel;have K:wr.cell? ⟨H.heap.size,0,none⟩=some (string l):=by rw[ab v.o.f];rfl
 have L:wr.cell? ⟨H.heap.size,1,none⟩=some (string b):=by rw[ab v.o.f];rfl
 have ac:=BC l b k;have D:=qV b k;rcases kn k b.size with ⟨y,Z⟩ | ⟨y,-⟩
 ·have c:Xq _:=cw b k y;cases A:dD (b[k].toNat:Int)
  ·cases R:gG (b[k].toNat:Int)
   ·have M:Xq (ln b=some k):=zak y (by rw[c.o];unfold uw;rw[A,R];rfl) J.o;(go_upto_region 10 with (first | (go_at_call 77;refine(m8 _ _).mono ?_;rintro e u ⟨rfl,a⟩;rw[a];clear a) | (go_at_call 163;refine(uW _ _).mono ?_;rintro e u ⟨rfl,a⟩;rw[a];clear a) | (go_at_call 164;refine(vx l b k _ (by omega) (by omega)).mono ?_;rintro e u ⟨rfl,F⟩)));obtain⟨W,d⟩:=aP (u.alloc (.cells #[string l,int i64 (bb b k),int i64 (bN b k)] 36));obtain⟨G,y1,p0,p1,p2⟩:=AN d;rw[d.o];have B:Xq _:=v.o.Zbj (F.trans G);have Q:=B.o.ZbH;have z:Xq (jE l b=kF l b k++[ou l b ⟨#[]⟩ 1 k]):=cm (by unfold jE;rw[M.o]);clear G F K L d;go_wp2_with (at_builtin;refine cO W rfl (.tmp 36) (.tmp 39) rfl h (kF l b k) (ou l b ⟨#[]⟩ 1 k) rfl Q (by omega) rfl ?_;intro P w5 r q;have n:Xq _:=B.o.Zbt q r;clear r q);go_ret;exact⟨P,by rw[z.o];simp,by rw[z.o];exact n.o.ZbH,n.o.Zbw,n.o.far⟩
   ·have n:Xq (∀j,j<k+1->uw (aL b j)=false):=fun j U=>by
     by_cases e:j=k
     ·subst e;rw[c.o];unfold uw;rw[R];rfl
     ·exact J.o j (by omega)
    have x:Xq (kF l b (k+1)=kF l b k/\dU b (k+1)=dU b k):=by
     constructor
     ·rw[kF,Xz (by rw[c.o,A];simp)]
     ·rw[dU,Xz (by rw[c.o,A];simp)]
    go_wp2_with (first | (go_at_call 77;refine(m8 _ _).mono ?_;rintro e u ⟨rfl,a⟩;rw[a];clear a) | (go_at_call 163;refine(uW _ _).mono ?_;rintro e u ⟨rfl,a⟩;rw[a];clear a));go_roundg (b.size-(k+1))
    ·exact⟨k+1,h,by omega,rfl,by rw[x.o.1],by rw[x.o.2],by go_num,n,by rw[x.o.1];exact v⟩
    omega
  ·have n:Xq (∀j,j<k+1->uw (aL b j)=false):=fun j U=>by
    by_cases e:j=k
    ·subst e;rw[c.o];unfold uw;rw[A];simp
    ·exact J.o j (by omega)
   have x:Xq (kF l b (k+1)=kG l b (dU b k) k (kF l b k)/\dU b (k+1)=k+1):=by
    constructor
    ·rw[kF,XA (by rw[c.o,A])]
    ·rw[dU,XA (by rw[c.o,A])]
   have t:Xq (∀s,Cf H s l b h (kF l b k)->Calls prog 165 #[agg #[string l,string b],int i64 (dU b k),int i64 k,slice h.ao (kF l b k).length h.cap] s fun e w=>∃m,e=returned (slice m.ao (kG l b (dU b k) k (kF l b k)).length m.cap)/\aD w m (jL (kG l b (dU b k) k (kF l b k)))/\bL s w h m):=fun s S=>DK l b _ k _ h s D (by omega) (by omega) (by omega) S.ZbH;cases R:gG (b[k].toNat:Int)
   all_goals
    go_wp2_with (first | (go_at_call 77;refine(m8 _ _).mono ?_;rintro e u ⟨rfl,a⟩;rw[a];clear a) | (go_at_call 163;refine(uW _ _).mono ?_;rintro e u ⟨rfl,a⟩;rw[a];clear a) | (go_at_call 165;refine(t.o _ v.o).mono ?_;rintro e T ⟨O,rfl,I,C⟩;have p:Xq _:=v.o.Zbt C I;clear C I));go_roundg (b.size-(k+1))
    ·exact⟨k+1,O,by omega,rfl,by rw[x.o.1],by rw[x.o.2];go_num,by go_num,n,by rw[x.o.1];exact p⟩
    omega
 ·have e:k=b.size:=by omega
  subst e;have M:Xq (ln b=none):=QO J.o;have z:Xq (jE l b=kG l b (dU b b.size) b.size (kF l b b.size)++[ou l b ⟨#[]⟩ 0 b.size]):=cm (by unfold jE;rw[M.o]);have E:=yh l b (dU b b.size) b.size (kF l b b.size);obtain⟨X,N⟩:=aP (kG l b (dU b b.size) b.size (kF l b b.size));have t:Xq (∀s,Cf H s l b h (kF l b b.size)->Calls prog 165 #[agg #[string l,string b],int i64 (dU b b.size),int i64 b.size,slice h.ao (kF l b b.size).length h.cap] s fun e w=>∃m,e=returned (slice m.ao (kG l b (dU b b.size) b.size (kF l b b.size)).length m.cap)/\aD w m (jL (kG l b (dU b b.size) b.size (kF l b b.size)))/\bL s w h m):=fun s S=>DK l b _ b.size _ h s D (by omega) (by omega) (by omega) S.ZbH;rw[N.o]at t E z;go_upto_region 15 with (go_at_call 165;refine(t.o _ v.o).mono ?_;rintro e T ⟨O,rfl,I,C⟩;have p:Xq _:=v.o.Zbt C I;clear C I)
  clear K L;have K:T.cell? ⟨H.heap.size,0,none⟩=some (string l):=by rw[ab p.o.f];rfl
  have L:T.cell? ⟨H.heap.size,1,none⟩=some (string b):=by rw[ab p.o.f];rfl
  go_upto_region 16 with (go_at_call 164;refine(vx l b b.size _ (by omega) (by omega)).mono ?_;rintro e u ⟨rfl,F⟩)
  obtain⟨W,d⟩:=aP (u.alloc (.cells #[string l,int i64 (bb b b.size),int i64 (bN b b.size)] 36));obtain⟨G,y1,p0,p1,p2⟩:=AN d;rw[d.o];have B:Xq _:=p.o.Zbj (F.trans G);have Q:=B.o.ZbH;clear G F K L d;go_wp2_with (at_builtin;refine cO W rfl (.tmp 61) (.tmp 64) rfl O X (ou l b ⟨#[]⟩ 0 b.size) rfl Q (by omega) rfl ?_;intro P w5 r q;have n:Xq _:=B.o.Zbt q r;clear r q);go_ret;exact⟨P,by rw[z.o];simp,by rw[z.o];exact n.o.ZbH,n.o.Zbw,n.o.far⟩
theorem tL(o:aD n k (jL d))(f:k.ao=some ⟨x,0,none⟩)(a:Nat)(t:Tk)(g:d[a]?=some t) :
  n.cell? ⟨x,a*5,none⟩=some (string t.s)/\n.cell? ⟨x,a*5+1,none⟩=some (int i64 t.ZbG)/\n.cell? ⟨x,a*5+2,none⟩=some (string t.ZbD)/\n.cell? ⟨x,a*5+3,none⟩=some (int i64 t.ZbE)/\n.cell? ⟨x,a*5+4,none⟩=some (int i64 t.ZbF):=by
 have e:∀c,c<5->∀u,(Fx t)[c]?=some u->n.cell? ⟨x,a*5+c,none⟩=some u:=fun c b u i=>o.cell f (a*5+c) u (by show(tkC d)[a*5+c]?=some u;rw[zbo d a t g c b];exact i);exact⟨e 0 (by omega) _ rfl,e 1 (by omega) _ rfl,e 2 (by omega) _ rfl,e 3 (by omega) _ rfl,e 4 (by omega) _ rfl⟩
theorem t9{r:eD}(o:aD n k r)(f:0<r.n):∃g,k.ao=some ⟨g,0,none⟩/\g<n.heap.size/\r.n<=k.cap:=by
 rcases o.Zbu with ⟨_,e,_⟩ | ⟨g,a,b,c,d,-⟩
 ·omega
 ·exact⟨g,b,ah c,d⟩
structure Uv(w wr:World)(h:Hd)(O:List Tk):Prop where
 ZbH:aD wr h (jL O)
 far:∀k,h.Zbx=some k->w.heap.size<=k
 Zbw:aa [] w wr
theorem Uv.Zbj(a:Uv n S k d)(b:aa [] S z0):Uv n z0 k d:=⟨a.ZbH.Zbj b,a.far,a.Zbw.trans b⟩
theorem Uv.Zbt(a:Uv n S k d)(g:bL S z0 k z1)(o:aD z0 z1 (jL zt)):Uv n z0 z1 zt:=by
 refine⟨o,fun c b=>?_,⟨g.Zbw.os.trans a.Zbw.os,g.Zbw.tape.trans a.Zbw.tape,g.Zbw.output.trans a.Zbw.output,XF a.Zbw.size g.Zbw.size,fun c b _=>?_⟩⟩
 ·rcases g.Zbx with e | ⟨q,e,f⟩
  ·exact a.far c (by rw[<-e];exact b)
  ·rw[e]at b;cases b;exact XF a.Zbw.size f
 ·rw[g.Zbw.block c (XB b a.Zbw.size) (fun f=>by have:=a.far _ (aX f);omega),a.Zbw.block c b (by simp)]
def mQ(w:World)(ao:Xt)(cap:Nat)(L:List Tk):Prop:=L.length<=cap/\∀k t,L[k]?=some t->∃g,ao=some ⟨g,0,none⟩/\g<w.heap.size /\
  w.cell? ⟨g,k*5,none⟩=some (string t.s)/\w.cell? ⟨g,k*5+1,none⟩=some (int i64 t.ZbG)/\w.cell? ⟨g,k*5+2,none⟩=some (string t.ZbD)/\w.cell? ⟨g,k*5+3,none⟩=some (int i64 t.ZbE)/\w.cell? ⟨g,k*5+4,none⟩=some (int i64 t.ZbF)
theorem aD.src(o:aD n k (jL d)):mQ n k.ao k.cap d:=by
 refine⟨?_,fun l t c=>?_⟩
 ·rcases o.Zbu with ⟨e,b,_⟩ | ⟨g,f,m,p,i,-⟩
  ·have b:d.length=0:=b;omega
  ·exact i
 ·have q:=(XL.1 c).1;obtain⟨g,a,j,-⟩:=t9 o (show 0<d.length by omega);exact⟨g,a,j,tL o a l t c⟩
theorem mQ.Zbj(h:mQ n y0 x d)(k:aa [] n S):mQ S y0 x d:=by
 refine⟨h.1,fun j t p=>?_⟩;obtain⟨g,e,a,c⟩:=h.2 j t p;obtain⟨b,f,i,l,m⟩:=c;have q:∀o,S.cell? ⟨g,o,none⟩=n.cell? ⟨g,o,none⟩:=fun o=>XJ (k.block g a (by simp));exact⟨g,e,XB a k.size,by rw[q];exact b,by rw[q];exact f,by rw[q];exact i,by rw[q];exact l,by rw[q];exact m⟩
theorem NB(hL:f.length<=100000)(P:mQ H I T f)(hs:∀t∈f,t.s.size<=1073741824) :
  Calls prog 115 #[slice I f.length T] H fun e w'=>∃m,e=returned (slice m.ao (cC false f).length m.cap)/\Uv H w' m (cC false f):=by
 have S0:Xq (Uv H H ⟨none,0⟩ []):=⟨XE _ _ _ _,(by intro k Q;cases Q),aa.refl _ _⟩;have HO:Xq _:=P;clear P;go_enter func115,ntmps115;go_wp2
 go_loopg [3,4,5] f.length (fun g o M i wr=>∃(k:Nat) (m:Hd) (O:List Tk) (b:Bool),k<=f.length/\g=f.length-k/\o=slice m.ao O.length m.cap/\M=bool b/\i=int i64 k/\O.length<=k/\Xq (O++cC b (f.drop k)=cC false f)/\Xq (Uv H wr m O))
 ·exact⟨0,⟨none,0⟩,[],false,by omega,rfl,rfl,rfl,rfl,Xy _,rfl,S0⟩
 obtain⟨k,m,O,b,Q,hg,rfl,rfl,rfl,ac,u,E⟩:=hrel;by_cases A:k<f.length
 ·obtain⟨gs,rfl,ad,S,U,V,X,Y⟩:=(mQ.Zbj HO.o E.o.Zbw).2 k f[k] (Xv A);have Z:Xq _:=X0 A;have L:=hs f[k] (XM A);have af:(k:Int)<f.length:=by omega
  rw[Z.o]at u;generalize f[k]=t at *;obtain⟨d,z,p,q,n⟩:=t;simp only at S U V X Y L;obtain⟨W,w⟩:=aP (wr.alloc (.cells #[string d,int i64 z,string p,int i64 q,int i64 n] 138));have N:=dC w.o;obtain⟨p0,p1,p2,p3,p4⟩:=nJ N;have l:Xq (Uv H W m O):=E.o.Zbj (by rw[<-w.o];exact bH.alloc _);have r:=l.o.ZbH;go_upto_region 7 with fail
  rw[w.o];clear S U V X Y w N;go_upto_region 9 with (go_at_call 119;refine(gQ d _ _ (by omega) (by show 2<=_;omega)).mono ?_;rintro e w1 ⟨rfl,B⟩;rw[B];clear B)
  cases b
  ·cases R:(d.toList == [36,40])
   ·have j:Xq ((O++[⟨d,z,p,q,n⟩])++cC false (f.drop (k+1))=cC false f):=by
     show _=_;rw[<-u.o,cC,Xz (by show ¬(d.toList == [36,40])=true;rw[R];simp)];simp
    go_wp2_with (at_builtin;refine cO W rfl (.tmp 41) (.tmp 43) rfl m O ⟨d,z,p,q,n⟩ rfl r (by omega) rfl ?_;intro y D c a;have v:Xq _:=l.o.Zbt a c;clear c a);go_roundg (f.length-(k+1))
    ·exact⟨k+1,y,O++[⟨d,z,p,q,n⟩],false,by omega,rfl,by simp,rfl,by go_num,by simp;omega,j,v⟩
    omega
   ·have j:Xq (O++cC true (f.drop (k+1))=cC false f):=by
     show _=_;rw[<-u.o,cC,XA (by show(d.toList == [36,40])=true;exact R)]
    go_wp2;go_roundg (f.length-(k+1))
    ·exact⟨k+1,m,O,true,by omega,rfl,rfl,rfl,by go_num,by omega,j,l⟩
    omega
  ·cases J:(z==0)
   ·have j:Xq ((O++[⟨d,z,p,q,n⟩])++cC true (f.drop (k+1))=cC false f):=by
     show _=_;rw[<-u.o,cC,XA (by exact J)];simp
    go_wp2_with (at_builtin;refine cO W rfl (.tmp 41) (.tmp 43) rfl m O ⟨d,z,p,q,n⟩ rfl r (by omega) rfl ?_;intro y D c a;have v:Xq _:=l.o.Zbt a c;clear c a);go_roundg (f.length-(k+1))
    ·exact⟨k+1,y,O++[⟨d,z,p,q,n⟩],true,by omega,rfl,by simp,rfl,by go_num,by simp;omega,j,v⟩
    omega
   ·have K:z=0:=(by simpa using J);subst K;clear J;cases C:(d.toList == [36,41])
    ·cases F:(d.toList == [])
     ·cases x:(jC d ⟨#[36,40]⟩||jC d ⟨#[36,41]⟩)
      ·have j:Xq (O++cC true (f.drop (k+1))=cC false f):=by
        show _=_;rw[<-u.o,cC,Xz (by simp),Xz (by show ¬(d.toList == [36,41])=true;rw[C];simp),Xz (by show ¬(d.toList == [])=true;rw[F];simp),Xz (by rw[x];simp)]
       simp only[Bool.or_eq_false_iff]at x;obtain⟨x,G⟩:=x;rw[x,G];go_wp2;go_roundg (f.length-(k+1))
       ·exact⟨k+1,m,O,true,by omega,rfl,rfl,rfl,by go_num,by omega,j,l⟩
       omega
      ·have j:Xq (cC false f=O++[⟨⟨#[]⟩,2,p,q,n⟩]):=by
        show _=_;rw[<-u.o,cC,Xz (by simp),Xz (by show ¬(d.toList == [36,41])=true;rw[C];simp),Xz (by show ¬(d.toList == [])=true;rw[F];simp),XA (by rw[x])]
       cases G:jC d ⟨#[36,40]⟩
       ·rw[G,Y7]at x;rw[x];go_wp2_with (at_builtin;refine cO W rfl (.tmp 64) (.tmp 68) rfl m O ⟨⟨#[]⟩,2,p,q,n⟩ rfl r (by omega) rfl ?_;intro y D c a;have v:Xq _:=l.o.Zbt a c;clear c a);go_ret;exact⟨y,by rw[j.o];simp,by rw[j.o];exact v.o⟩
       ·clear x;go_wp2_with (at_builtin;refine cO W rfl (.tmp 64) (.tmp 68) rfl m O ⟨⟨#[]⟩,2,p,q,n⟩ rfl r (by omega) rfl ?_;intro y D c a;have v:Xq _:=l.o.Zbt a c;clear c a);go_ret;exact⟨y,by rw[j.o];simp,by rw[j.o];exact v.o⟩
     ·have j:Xq ((O++[⟨⟨#[]⟩,3,p,q,n⟩])++cC true (f.drop (k+1))=cC false f):=by
       show _=_;rw[<-u.o,cC,Xz (by simp),Xz (by show ¬(d.toList == [36,41])=true;rw[C];simp),XA (by exact F)];simp
      go_wp2_with (at_builtin;refine cO W rfl (.tmp 53) (.tmp 57) rfl m O ⟨⟨#[]⟩,3,p,q,n⟩ rfl r (by omega) rfl ?_;intro y D c a;have v:Xq _:=l.o.Zbt a c;clear c a);go_roundg (f.length-(k+1))
      ·exact⟨k+1,y,O++[⟨⟨#[]⟩,3,p,q,n⟩],true,by omega,rfl,by simp,rfl,by go_num,by simp;omega,j,v⟩
      omega
    ·have j:Xq (O++cC false (f.drop (k+1))=cC false f):=by
      show _=_;rw[<-u.o,cC,Xz (by simp),XA (by exact C)]
     go_wp2;go_roundg (f.length-(k+1))
     ·exact⟨k+1,m,O,false,by omega,rfl,rfl,rfl,by go_num,by omega,j,l⟩
     omega
 ·have e:f.drop k=[]:=ZY (by omega);have j:Xq (cC false f=O):=by
   show _=_;rw[<-u.o,e];cases b <;> simp[cC]
  go_wp2;go_ret;exact⟨m,by rw[j.o];rfl,by rw[j.o];exact E.o⟩
def cD(s:Xr):Bool:=(s.toList == [36,46])||(s.toList == [36,123])||(s.toList == [36,125])
def aV(n:Int)(s:Xr):Int :=
 if(s.toList == [36,125])=true then(if(s.toList == [36,123])=true then n+1 else n)-1 else(if(s.toList == [36,123])=true then n+1 else n)
def kZ(L:List Tk):Int:=L.foldl (fun n t=>aV n t.s) 0
def dR(L:List Tk):Bool:=match L.getLast? with
 | none=>true
 | some t=>cD t.s&&(kZ L==0)
def fD(L:List Tk):Bool:=match L.getLast? with
 | none=>false
 | some t=>!(t.ZbG==0)
theorem JS(h:T<f.length):kZ (f.take (T+1))=aV (kZ (f.take T)) f[T].s:=by
 unfold kZ;rw[Yc h,ZA];rfl
set_option maxRecDepth 512
theorem xt :
  Calls prog 83 #[string b] H fun e a=>e=returned (bool (cD b))/\a=H:=by
 go_enter func83,ntmps83;go_wp2
 all_goals go_ret
 all_goals (refine⟨?_,rfl⟩;simp[cD, *])
set_option maxRecDepth 100000
theorem JR(z:f.length<=100000)(q:mQ H I T f) :
  Calls prog 166 #[slice I f.length T] H fun e x=>e=returned (int i64 (kZ f))/\x=H:=by
 have r:Xq _:=q;clear q;go_enter func166,ntmps166;go_wp2
 go_loopg [3,4] f.length (fun g n i wr=>∃(k:Nat) (m:Int),k<=f.length/\g=f.length-k/\n=int i64 m/\i=int i64 k/\(-(k:Int)<=m/\m<=(k:Int))/\Xq (m=kZ (f.take k))/\wr=H)
 ·exact⟨0,0,by omega,rfl,rfl,rfl,by omega,rfl,rfl⟩
 obtain⟨k,m,B,A,rfl,rfl,C,p,rfl⟩:=hrel;by_cases d:k<f.length
 ·obtain⟨y,rfl,u,w,-⟩:=r.o.2 k f[k] (Xv d);have c:Xq _:=JS f k d;have v:(k:Int)<f.length:=by omega
  rw[<-p.o]at c;generalize f[k]=t at *;obtain⟨l,G,E,F,D⟩:=t;simp only at w c;cases j:(l.toList == [36,123])
  ·cases a:(l.toList == [36,125])
   ·have b:Xq (m=kZ (f.take (k+1))):=(by show _=_;rw[c.o,aV,j,a];simp);go_wp2;go_roundg (f.length-(k+1))
    ·exact⟨k+1,m,by omega,rfl,rfl,by go_num,by omega,b,rfl⟩
    omega
   ·have b:Xq (m-1=kZ (f.take (k+1))):=(by show _=_;rw[c.o,aV,j,a];simp);go_wp2;go_roundg (f.length-(k+1))
    ·exact⟨k+1,m-1,by omega,rfl,by go_num,by go_num,by omega,b,rfl⟩
    omega
  ·cases a:(l.toList == [36,125])
   ·have b:Xq (m+1=kZ (f.take (k+1))):=(by show _=_;rw[c.o,aV,j,a];simp);go_wp2;go_roundg (f.length-(k+1))
    ·exact⟨k+1,m+1,by omega,rfl,by go_num,by go_num,by omega,b,rfl⟩
    omega
   ·have s:l.toList=[36,123]:=(by simpa using j);rw[s]at a;exact absurd a (by decide)
 ·have e:k=f.length:=by omega
  subst e;rw[Yl]at p;go_wp2;go_ret;exact⟨au p.o,rfl⟩
theorem Ed(l:f.length<=100000)(j:mQ H I T f) :
  Calls prog 116 #[slice I f.length T] H fun e w=>e=returned (bool (dR f))/\w=H:=by
 have g:=j.1;have c:Xq _:=JR f I T H l j;obtain⟨n,b⟩:=aP (f.length);rw[b.o]at l g c ⊢;by_cases k:n=0
 ·have d:Xq (dR f=true):=by
   show _=_;have:f=[]:=XY (by rw[b.o,k]);rw[this];rfl
  subst k;go_enter func116,ntmps116;go_wp2;go_ret;exact⟨aH d.o.symm,rfl⟩
 ·have i:n-1<f.length:=by rw[b.o];omega
  obtain⟨C,rfl,p,u,-⟩:=j.2 (n-1) f[n-1] (Xv i);have d:Xq (dR f=(cD f[n-1].s&&(kZ f==0))):=by
   show _=_;unfold dR;rw[Zq,b.o,Xv i]
  generalize f[n-1]=t at *;obtain⟨v,J,F,G,E⟩:=t;simp only at u d;have r:IntKind.i64.wrap ((n:Int)-1)=(n:Int)-1:=by rw[YS];omega
  have q:((n:Int)-1).toNat=n-1:=by omega
  have y:(0:Int)<=(n:Int)-1:=by omega
  have z:(n:Int)-1<(n:Int):=by omega
  have A:(1:Int)<=(n:Int):=by omega
  have B:((n:Int)==0)=false:=by simpa using k
  obtain⟨D,m⟩:=aP (kZ f);rw[m.o]at d c;go_enter func116,ntmps116;go_wp2_with (first | (go_at_call 166;refine(Xx c.o ?_);rintro e x ⟨rfl,a⟩;rw[a];clear a) | (go_at_call 83;refine(xt v _).mono ?_;rintro e x ⟨rfl,a⟩;rw[a];clear a))
  all_goals go_ret
  all_goals (refine⟨aH ?_,rfl⟩;rw[d.o];simp[*])
theorem yo(j:f.length<=100000)(g:mQ H I T f) :
  Calls prog 82 #[slice I f.length T] H fun e q=>e=returned (bool (fD f))/\q=H:=by
 have b:=g.1;obtain⟨n,a⟩:=aP (f.length);rw[a.o]at j b ⊢;by_cases i:n=0
 ·have d:Xq (fD f=false):=by
   show _=_;have:f=[]:=XY (by rw[a.o,i]);rw[this];rfl
  subst i;go_enter func82,ntmps82;go_wp2;go_ret;exact⟨aH d.o.symm,rfl⟩
 ·have c:n-1<f.length:=by rw[a.o];omega
  obtain⟨w,rfl,k,-,p,-⟩:=g.2 (n-1) f[n-1] (Xv c);have d:Xq (fD f=!(f[n-1].ZbG==0)):=by
   show _=_;unfold fD;rw[Zq,a.o,Xv c]
  generalize f[n-1]=t at *;obtain⟨B,A,y,z,x⟩:=t;simp only at p d;have m:IntKind.i64.wrap ((n:Int)-1)=(n:Int)-1:=by rw[YS];omega
  have l:((n:Int)-1).toNat=n-1:=by omega
  have r:(0:Int)<=(n:Int)-1:=by omega
  have s:(n:Int)-1<(n:Int):=by omega
  have u:(1:Int)<=(n:Int):=by omega
  have v:0<n:=by omega
  go_enter func82,ntmps82;go_wp2
  all_goals go_ret
  all_goals (refine⟨aH ?_,rfl⟩;rw[d.o];first | rfl | simp[*])
def pD(w:World)(ao:Xt)(cap:Nat)(fs:Fs):Prop:=fs.length<=cap/\∀k,k<fs.length->∃g,ao=some ⟨g,0,none⟩/\g<w.heap.size/\w.cell? ⟨g,k*2,none⟩=some (string (aI fs k))/\w.cell? ⟨g,k*2+1,none⟩=some (string (ak fs k))
theorem pD.Zbj(h:pD n y0 x y2)(k:aa [] n S):pD S y0 x y2:=by
 refine⟨h.1,fun j d=>?_⟩;obtain⟨g,e,a,b,c⟩:=h.2 j d;have q:∀o,S.cell? ⟨g,o,none⟩=n.cell? ⟨g,o,none⟩:=fun o=>XJ (k.block g a (by simp));exact⟨g,e,XB a k.size,by rw[q];exact b,by rw[q];exact c⟩
set_option maxRecDepth 512
theorem oJ(r:y.length<=100000)(f:pD H I z6 y) :
  Calls prog 34 #[slice I y.length z6,string b] H fun e p=>e=returned (int i64 (bV y b))/\p=H:=by
 have l:Xq _:=f;clear f;go_enter func34,ntmps34;go_wp2
 go_loopg [5] y.length (fun g i wr=>∃k:Nat,k<=y.length/\g=y.length-k/\i=int i64 k/\Xq (bV y b=ee b (y.drop k) k)/\wr=H)
 ·exact⟨0,by omega,by omega,rfl,rfl,rfl⟩
 obtain⟨k,t,s,rfl,a,rfl⟩:=hrel;by_cases c:k<y.length
 ·obtain⟨q,rfl,m,u,v⟩:=l.o.2 k c;have n:(k:Int)<y.length:=by omega
  cases j:((aI y k).toList==b.toList)
  ·have d:Xq (bV y b=ee b (y.drop (k+1)) (k+1)):=CT y b k c a.o j;clear a;go_wp2;go_roundg (y.length-(k+1))
   ·exact⟨k+1,by omega,rfl,by go_num,d,rfl⟩
   omega
  ·have d:Xq (bV y b=k):=Gv y b k c a.o j;clear a;go_wp2;go_ret;exact⟨au d.o.symm,rfl⟩
 ·have d:Xq (bV y b=-1):=CU y b k c a.o;clear a;go_wp2;go_ret;exact⟨au d.o.symm,rfl⟩
def dX(fs:Fs)(s:Xr)(r:Int):Int :=
 if(r==0)=false then r else if(s.toList == [])=true then 7 else if jC s ⟨#[36]⟩=true then 5 else if bV fs s<0 then 6 else 0
def eN(s:Xr)(r:Int):Int :=
 if(r==0)=false then r else if(s.toList == [])=true then 7 else if(s.toList == [36,93])=false then 5 else 0
set_option maxRecDepth 100000
theorem FY :
  Calls prog 118 #[agg #[string l,int i64 N,string b,int i64 m,int i64 i]] H fun e j=>e=returned (agg #[string ⟨#[]⟩,int i64 (eN l N),string b,int i64 m,int i64 i])/\aa [] H j:=by
 cases d:(N==0)
 ·have a:Xq (eN l N=N):=by show _=_;unfold eN;rw[XA d]
  rw[a.o];go_enter func118,ntmps118;go_wp2;exact XG (v:=agg #[string ⟨#[]⟩,int i64 N,string b,int i64 m,int i64 i]) (by simp[results,results118,go_sem]) rfl ⟨rfl,((aa.refl _ _).alloc _).alloc _⟩
 ·have f:N=0:=by simpa using d
  subst f;clear d;cases c:(l.toList == [])
  ·cases g:(l.toList == [36,93])
   ·have a:Xq (eN l 0=5):=(by show _=_;unfold eN;rw[Xz (by simp),Xz (by rw[c];simp),XA g]);rw[a.o];go_enter func118,ntmps118;go_wp2;exact XG (v:=agg #[string ⟨#[]⟩,int i64 5,string b,int i64 m,int i64 i]) (by simp[results,results118,go_sem]) rfl ⟨rfl,((aa.refl _ _).alloc _).alloc _⟩
   ·have a:Xq (eN l 0=0):=(by show _=_;unfold eN;rw[Xz (by simp),Xz (by rw[c];simp),Xz (by rw[g];simp)]);rw[a.o];go_enter func118,ntmps118;go_wp2;exact XG (v:=agg #[string ⟨#[]⟩,int i64 0,string b,int i64 m,int i64 i]) (by simp[results,results118,go_sem]) rfl ⟨rfl,((aa.refl _ _).alloc _).alloc _⟩
  ·have a:Xq (eN l 0=7):=(by show _=_;unfold eN;rw[Xz (by simp),XA c]);rw[a.o];go_enter func118,ntmps118;go_wp2;exact XG (v:=agg #[string ⟨#[]⟩,int i64 7,string b,int i64 m,int i64 i]) (by simp[results,results118,go_sem]) rfl ⟨rfl,((aa.refl _ _).alloc _).alloc _⟩
theorem Ko(w:y.length<=100000)(x:pD H I z6 y)(z:l.size<=1073741824) :
  Calls prog 117 #[slice I y.length z6,agg #[string l,int i64 N,string b,int i64 m,int i64 i]] H fun e s=>e=returned (agg #[string ⟨#[]⟩,int i64 (dX y l N),string b,int i64 m,int i64 i])/\aa [] H s:=by
 have c:Xq (∀j,aa [] H j->Calls prog 34 #[slice I y.length z6,string l] j fun e s=>e=returned (int i64 (bV y l))/\s=j):=fun j k=>oJ y I z6 l j w (x.Zbj k);obtain⟨u,g⟩:=aP (bV y l);rw[g.o]at c;cases q:(N==0)
 ·have d:Xq (dX y l N=N):=by show _=_;unfold dX;rw[XA q]
  rw[d.o];go_enter func117,ntmps117;go_wp2_with (first | (go_at_call 119;refine(gQ l _ _ (by omega) (by show 1<=_;omega)).mono ?_;rintro e f ⟨rfl,a⟩;rw[a];clear a) | (go_at_call 34;refine(c.o _ (by exact((aa.refl [] H).alloc _).alloc _)).mono ?_;rintro e f ⟨rfl,a⟩;rw[a];clear a));exact XG (v:=agg #[string ⟨#[]⟩,int i64 N,string b,int i64 m,int i64 i]) (by simp[results,results117,go_sem]) rfl ⟨rfl,((aa.refl _ _).alloc _).alloc _⟩
 ·have r:N=0:=by simpa using q
  subst r;clear q;cases n:(l.toList == [])
  ·cases p:jC l ⟨#[36]⟩
   ·by_cases t:u<0
    ·have d:Xq (dX y l 0=6):=(by show _=_;unfold dX;rw[Xz (by simp),Xz (by rw[n];simp),Xz (by rw[p];simp),g.o,XA t]);rw[d.o];go_enter func117,ntmps117;go_wp2_with (first | (go_at_call 119;refine(gQ l _ _ (by omega) (by show 1<=_;omega)).mono ?_;rintro e f ⟨rfl,a⟩;rw[a];clear a) | (go_at_call 34;refine(c.o _ (by exact((aa.refl [] H).alloc _).alloc _)).mono ?_;rintro e f ⟨rfl,a⟩;rw[a];clear a));exact XG (v:=agg #[string ⟨#[]⟩,int i64 6,string b,int i64 m,int i64 i]) (by simp[results,results117,go_sem]) rfl ⟨rfl,((aa.refl _ _).alloc _).alloc _⟩
    ·have d:Xq (dX y l 0=0):=(by show _=_;unfold dX;rw[Xz (by simp),Xz (by rw[n];simp),Xz (by rw[p];simp),g.o,Xz t]);rw[d.o];go_enter func117,ntmps117;go_wp2_with (first | (go_at_call 119;refine(gQ l _ _ (by omega) (by show 1<=_;omega)).mono ?_;rintro e f ⟨rfl,a⟩;rw[a];clear a) | (go_at_call 34;refine(c.o _ (by exact((aa.refl [] H).alloc _).alloc _)).mono ?_;rintro e f ⟨rfl,a⟩;rw[a];clear a));exact XG (v:=agg #[string ⟨#[]⟩,int i64 0,string b,int i64 m,int i64 i]) (by simp[results,results117,go_sem]) rfl ⟨rfl,((aa.refl _ _).alloc _).alloc _⟩
   ·have d:Xq (dX y l 0=5):=(by show _=_;unfold dX;rw[Xz (by simp),Xz (by rw[n];simp),XA p]);rw[d.o];go_enter func117,ntmps117;go_wp2_with (first | (go_at_call 119;refine(gQ l _ _ (by omega) (by show 1<=_;omega)).mono ?_;rintro e f ⟨rfl,a⟩;rw[a];clear a) | (go_at_call 34;refine(c.o _ (by exact((aa.refl [] H).alloc _).alloc _)).mono ?_;rintro e f ⟨rfl,a⟩;rw[a];clear a));exact XG (v:=agg #[string ⟨#[]⟩,int i64 5,string b,int i64 m,int i64 i]) (by simp[results,results117,go_sem]) rfl ⟨rfl,((aa.refl _ _).alloc _).alloc _⟩
  ·have d:Xq (dX y l 0=7):=(by show _=_;unfold dX;rw[Xz (by simp),XA n]);rw[d.o];go_enter func117,ntmps117;go_wp2_with (first | (go_at_call 119;refine(gQ l _ _ (by omega) (by show 1<=_;omega)).mono ?_;rintro e f ⟨rfl,a⟩;rw[a];clear a) | (go_at_call 34;refine(c.o _ (by exact((aa.refl [] H).alloc _).alloc _)).mono ?_;rintro e f ⟨rfl,a⟩;rw[a];clear a));exact XG (v:=agg #[string ⟨#[]⟩,int i64 7,string b,int i64 m,int i64 i]) (by simp[results,results117,go_sem]) rfl ⟨rfl,((aa.refl _ _).alloc _).alloc _⟩
def yS(L:List Tk):Prop:=∃t,L.getLast?=some t/\(t.s.toList == [])=true
theorem yS.next(h:yS d)(i:Nat)(t:Tk)(b:d[i]?=some t)(c:(t.s.toList == [])=false):i+1<d.length:=by
 obtain⟨u,a,f⟩:=h;obtain⟨g,-⟩:=XL.1 b;rw[Zq]at a;by_cases e:i=d.length-1
 ·rw[<-e,b]at a;cases a
  rw[f]at c;cases c
 ·omega
theorem xr{t:Tk}(h:yS d):yS (t :: d):=by
 obtain⟨u,b,c⟩:=h;cases d with
 | nil=>cases b
 | cons a r=>exact⟨u,by rw[ZaX];exact b,c⟩
theorem rC:((⟨#[]⟩:Xr).toList == [])=true:=by decide +kernel
theorem Gk:yS [⟨⟨#[]⟩,N,b,m,i⟩]:=⟨_,rfl,rC⟩
theorem Qk:yS (jE l b):=by
 unfold jE;split
 ·exact⟨_,Zy,rC⟩
 ·exact⟨_,Zy,rC⟩
theorem NC(b:Bool)(L:List Tk)(h:yS L):yS (cC b L):=by
 induction L generalizing b with
 | nil=>obtain⟨u,c,-⟩:=h;cases c
 | cons t r g =>
  cases r with
  | nil =>
   obtain⟨u,c,d⟩:=h;have e:u=t:=(by simpa using c.symm);subst e;have i:u.s.toList=[]:=by simpa using d
   cases b
   ·rw[cC,Xz (by unfold Jp;rw[i];decide)];exact⟨u,rfl,d⟩
   ·rw[cC];split
    ·exact⟨u,rfl,d⟩
    ·rw[Xz (by unfold Jp;rw[i];decide),XA (by unfold Jp;exact d)];exact Gk _ _ _ _
  | cons a r =>
   have f:yS (a :: r):=by
    obtain⟨u,c,d⟩:=h;exact⟨u,by rw[ZaX]at c;exact c,d⟩
   cases b
   ·rw[cC];split
    ·exact g true f
    ·exact xr (g false f)
   ·rw[cC];split
    ·exact xr (g true f)
    ·split
     ·exact g false f
     ·split
      ·exact xr (g true f)
      ·split
       ·exact Gk _ _ _ _
       ·exact g true f
def uN(fs:Fs)(k:Nat):List Tk:=cC false (jE (aI fs k) (ak fs k))
theorem Ud:yS (uN y T):=NC _ _ (Qk _ _)
theorem IZ:(uN y T).length<=(ak y T).size+2:=XF (QR _ _) (DM _ _)
def uG(t:Tk)(r:Int):Tk:=⟨⟨#[]⟩,r,t.ZbD,t.ZbE,t.ZbF⟩
def dr(rec:Nat->List Bool->List Tk->List Tk×List Bool)(fs:Fs):List Tk->List Bool->List Tk->List Tk×List Bool
 | [],sn,out=>(out,sn)
 | t :: r,sn,out =>
  if((t.ZbG==0)&&(t.s.toList == []))=true then((if dR out=true then out else out++[uG t 7]),sn)
  else if(t.s.toList == [36,91])=false then dr rec fs r sn (out++[t])
  else if dR out=false then(out++[uG t 4],sn)
  else match r with
   | a :: b :: r' =>
    if(dX fs a.s a.ZbG==0)=false then(out++[uG a (dX fs a.s a.ZbG)],sn)
    else if(eN b.s b.ZbG==0)=false then(out++[uG b (eN b.s b.ZbG)],sn)
    else if sn.getD (bV fs a.s).toNat true=true then dr rec fs r' sn out
    else if fD (rec (bV fs a.s).toNat sn out).1=true then rec (bV fs a.s).toNat sn out
    else dr rec fs r' (rec (bV fs a.s).toNat sn out).2 (rec (bV fs a.s).toNat sn out).1
   | [a]=>(out++[uG a (dX fs a.s a.ZbG)],sn)
   | []=>(out,sn)
def fh(fs:Fs):Nat->Nat->List Bool->List Tk->List Tk×List Bool
 | 0,_,sn,out=>(out,sn)
 | n+1,k,sn,out=>dr (fh fs n) fs (uN fs k) (sn.set k true) out
def a8(sn:List Bool):Nat:=sn.countP (fun b=>!b)
theorem nu(a:List Bool)(k:Nat)(h:a[k]?=some false):a8 (a.set k true)+1=a8 a:=by
 unfold a8
 induction a generalizing k with
 | nil=>cases h
 | cons b r c =>
  cases k with
  | zero =>
   simp at h;subst h;simp
  | succ k =>
   have:=c k (by simpa using h);rw[ZG,ZaY,ZaY];omega
theorem LA(a:List Bool)(k:Nat)(h:a[k]?=some false):0<a8 a:=by
 have:=nu a k h;omega
structure yV(w w':World)(gs:Nat)(h h':Hd):Prop where
 Zbw:aa (gs :: h.Zbx.toList) w w'
 Zbx:h'.Zbx=h.Zbx∨∃g,h'.Zbx=some g/\w.heap.size<=g
theorem yV.refl:yV z2 z2 T z3 z3:=⟨aa.refl _ _,XQ rfl⟩
theorem yV.of(g:bL n S k z1):yV n S x k z1:=⟨g.Zbw.mono (fun _ a _=>Yf _ a),g.Zbx⟩
theorem yV.trans{w1:World}{j:Hd}(a:yV n w1 x k z1)(b:yV w1 S x z1 j):yV n S x k j:=by
 refine⟨⟨b.Zbw.os.trans a.Zbw.os,b.Zbw.tape.trans a.Zbw.tape,b.Zbw.output.trans a.Zbw.output,XF a.Zbw.size b.Zbw.size,fun m l f=>?_⟩,?_⟩
 ·rw[b.Zbw.block m (XB l a.Zbw.size) (fun i=>?_),a.Zbw.block m l f];rcases Yd.1 i with e | i
  ·exact f (by rw[e];simp)
  ·have e:=aX i;rcases a.Zbx with c | ⟨g,c,d⟩
   ·exact f (Yf _ (by rw[<-c,e];simp))
   ·rw[c]at e;cases e;omega
 ·rcases b.Zbx with e | ⟨g,e,d⟩
  ·rcases a.Zbx with c | ⟨g,c,d⟩
   ·exact XQ (e.trans c)
   ·exact XK ⟨g,e.trans c,d⟩
  ·exact XK ⟨g,e,XF a.Zbw.size d⟩
structure uS(w:World)(gf cap:Nat)(fs:Fs)(gs:Nat)(sn:List Bool)(h:Hd)(O:List Tk):Prop where
 ZbH:aD w h (jL O)
 seen:kV w gs sn
 src:pD w (some ⟨gf,0,none⟩) cap fs
 a1:h.Zbx≠some gs
 a2:h.Zbx≠some gf
 a3:gf≠gs
 lt:gf<w.heap.size
theorem pD.Zbw{a:Nat}{b:Xu}(h:pD n (some ⟨x,0,none⟩) a y2)(k:aa b n S)(l:x∉b):pD S (some ⟨x,0,none⟩) a y2:=by
 refine⟨h.1,fun j m=>?_⟩;obtain⟨g,e,c,d,f⟩:=h.2 j m;have i:g=x:=by cases e;rfl
 subst i;have q:∀o,S.cell? ⟨g,o,none⟩=n.cell? ⟨g,o,none⟩:=fun o=>XJ (k.block g c l);exact⟨g,rfl,XB c k.size,by rw[q];exact d,by rw[q];exact f⟩
section
variable {w w':World} {gf cap:Nat} {fs:Fs} {gs:Nat} {sn sn':List Bool} {h h':Hd} {O O':List Tk}
theorem uS.Zbj(a:uS w gf cap fs gs sn h O)(k:aa [] w w'):uS w' gf cap fs gs sn h O :=
 ⟨a.ZbH.Zbj k,a.seen.Zbw k (by simp),a.src.Zbw k (by simp),a.a1,a.a2,a.a3,XB a.lt k.size⟩
theorem uS.far(a:uS w gf cap fs gs sn h O)(r:yV w w' gs h h'):h'.Zbx≠some gs/\h'.Zbx≠some gf:=by
 have c:=ah a.seen;have d:=a.lt;rcases r.Zbx with e | ⟨g,e,b⟩
 ·rw[e];exact⟨a.a1,a.a2⟩
 ·rw[e];exact⟨fun q=>by cases q;omega,fun q=>by cases q;omega⟩
theorem uS.turn(a:uS w gf cap fs gs sn h O)(r:yV w w' gs h h')(o:aD w' h' (jL O'))(s:kV w' gs sn'):uS w' gf cap fs gs sn' h' O':=by
 obtain⟨c,d⟩:=a.far r;refine⟨o,s,a.src.Zbw r.Zbw (fun b=>?_),c,d,a.a3,XB a.lt r.Zbw.size⟩;rcases Yd.1 b with e | b
 ·exact a.a3 e
 ·exact a.a2 (aX b)
theorem uS.Zbt(a:uS w gf cap fs gs sn h O)(g:bL w w' h h')(o:aD w' h' (jL O')):uS w' gf cap fs gs sn h' O' :=
 a.turn (yV.of g) o (a.seen.Zbw g.Zbw (fun b=>a.a1 (aX b)))
end
theorem Qg:(b.extract v T).size<=b.size:=by rw[ZW];omega
theorem BD(h:∀t∈g,t.s.size<=b.size):∀t∈kG l b v T g,t.s.size<=b.size:=by
 intro t a;unfold kG at a;split at a
 ·exact h t a
 ·rcases X9.1 a with a | a
  ·exact h t a
  ·rw[XH.1 a];exact Qg b v T
theorem DI(i:Nat):∀t∈kF l b i,t.s.size<=b.size:=by
 induction i with
 | zero=>intro t c;cases c
 | succ i a =>
  rw[kF];split
  ·exact BD l b _ _ _ a
  ·exact a
theorem BI:∀t∈jE l b,t.s.size<=b.size:=by
 intro t a;unfold jE at a;split at a
 ·rcases X9.1 a with a | a
  ·exact DI l b _ t a
  ·rw[XH.1 a];exact XX _
 ·rcases X9.1 a with a | a
  ·exact BD l b _ _ _ (DI l b _) t a
  ·rw[XH.1 a];exact XX _
theorem NE(b:Bool)(L:List Tk)(h:∀t∈L,t.s.size<=T):∀t∈cC b L,t.s.size<=T:=by
 induction L generalizing b with
 | nil=>intro t c;cases b <;> simp[cC]at c
 | cons a r g =>
  have d:=fun b=>g b (fun t c=>h t (Yf _ c));have f:=h a (by simp);intro t c;cases b
  ·rw[cC]at c;split at c
   ·exact d _ t c
   ·rcases Yd.1 c with e | c
    ·rw[e];exact f
    ·exact d _ t c
  ·rw[cC]at c;split at c
   ·rcases Yd.1 c with e | c
    ·rw[e];exact f
    ·exact d _ t c
   ·split at c
    ·exact d _ t c
    ·split at c
     ·rcases Yd.1 c with e | c
      ·rw[e];exact XX _
      ·exact d _ t c
     ·split at c
      ·rw[XH.1 c];exact XX _
      ·exact d _ t c
theorem PZ:∀t∈uN y T,t.s.size<=(ak y T).size:=NE _ _ _ (BI _ _)
end Go.Proofs.YtpdholcaobgofaaGreat
