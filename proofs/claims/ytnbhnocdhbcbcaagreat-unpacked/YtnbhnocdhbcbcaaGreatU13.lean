import Derived.Deep.RegionHeld3
import Derived.Laws.OwnMore
import Derived.Test.YtnbhnocdhbcbcaaGreatU03
namespace Go.Proofs.YtnbhnocdhbcbcaaGreat
open Go.RowKit Tryz
open Value IntKind Ending
set_option maxHeartbeats 0
variable{f S z1:World}{D N:Xs}{x y7:Nat}{y t zt:Hd}{z7:ew}{z2:Array Oper}{y0:List Oper}{L:Oper}{I:Act}{z3:Exit->Act->World->Prop}{z0:Program}{y2:Act->World->Prop}{i y3:List Tk}{y4:Xu}{y5:Fs}{z4:List Bool}{y6:Xv}(d:Fs)(n:List Tk)(M:Xu)(z5:Nat)(l b:Xs)(g s o:Int)(k T:Nat)(m:List Tk)(H:World)(z6:Tk)
theorem sJ :
  Calls prog 165 #[int u8 o] H fun e a=>e=returned (bool (dr o))/\a=H:=by
 go_enter func165,ntmps165;go_wp2
 all_goals go_ret
 all_goals (refine⟨?_,rfl⟩;first | (simp[dr, *];done) | (simp[dr, *,Bool.or_assoc];rw[Bool.or_comm (o==13)]))
theorem md :
  Calls prog 79 #[int u8 o] H fun e a=>e=returned (bool (fX o))/\a=H:=by
 go_enter func79,ntmps79;go_wp2
 all_goals go_ret
 all_goals (refine⟨?_,rfl⟩;first | (simp[fX, *];done) | (simp[fX];omega) | (rename_i h;simp only[fX];rw[show decide (33<=o)=true by simp;omega];simp;omega))
theorem go(u:l.size<=4294967296)(v:b.size<=4294967296) :
  Calls prog 121 #[string l,string b] H fun e r=>e=returned (bool (io l b))/\r=H:=by
 go_enter func121,ntmps121;go_wp2
 go_loopg [5] (l.size+1) (fun g i wr=>∃k:Nat,k<=l.size+1/\g=l.size+1-k/\i=int i64 k/\Xr (∀i,i<k->i+b.size<=l.size->tp l b i=false)/\wr=H)
 ·exact⟨0,by omega,by omega,rfl,fun i h=>by omega,rfl⟩
 obtain⟨k,t,s,rfl,a,rfl⟩:=hrel;by_cases f:k+b.size<=l.size
 ·have n:(k:Int)<=(k:Int)+(b.size:Int):=by omega
  have p:(k:Int)+(b.size:Int)<=(l.size:Int):=by omega
  have q:((k:Int)+(b.size:Int)).toNat=k+b.size:=by omega
  cases j:((l.extract k (k+b.size)).toList==b.toList)
  ·go_wp2;go_roundg (l.size+1-(k+1))
   ·refine⟨k+1,by omega,rfl,by go_num,?_,rfl⟩;intro i m c;by_cases e:i=k
    ·subst e;exact j
    ·exact a.o i (by omega) c
   omega
  ·have d:Xr (io l b=true):=nh k (by omega) (by simp[f,tp,j]);go_wp2;go_ret;exact⟨aE d.o.symm,rfl⟩
 ·have d:Xr (io l b=false):=uT (fun i m=>by
   by_cases c:i+b.size<=l.size
   ·simp[a.o i (by omega) c]
   ·simp[c])
  go_wp2;go_ret;exact⟨aE d.o.symm,rfl⟩
structure wD(w wr:World)(nm d:Xs)(j:Nat):Prop where
 f:wr.heap[w.heap.size]?=some (.cells #[string nm,string d] 68)
 r:wr.heap[w.heap.size+1]?=some (.cells #[string ⟨#[]⟩,int i64 0,int i64 0] 36)
 p:wr.heap[w.heap.size+2]?=some (.cells #[string nm,int i64 (aX d j),int i64 (bK d j)] 36)
 Yu:ae [] w wr
theorem wD.start(a d:Xs):wD H (((H.alloc (.cells #[string a,string d] 68)).alloc (.cells #[string ⟨#[]⟩,int i64 0,int i64 0] 36)).alloc (.cells #[string a,int i64 1,int i64 1] 36)) a d 0:=by
 have i:=(ae.refl [] H).alloc (.cells #[string a,string d] 68);have c:=(ae.refl [] (H.alloc (.cells #[string a,string d] 68))).alloc (.cells #[string ⟨#[]⟩,int i64 0,int i64 0] 36);have b:=(ae.refl [] ((H.alloc (.cells #[string a,string d] 68)).alloc (.cells #[string ⟨#[]⟩,int i64 0,int i64 0] 36))).alloc (.cells #[string a,int i64 1,int i64 1] 36);have e:(H.alloc (.cells #[string a,string d] 68)).heap[H.heap.size]?=some (.cells #[string a,string d] 68):=Ui _ _;have f:=Ui (H.alloc (.cells #[string a,string d] 68)) (.cells #[string ⟨#[]⟩,int i64 0,int i64 0] 36);have g:=Ui ((H.alloc (.cells #[string a,string d] 68)).alloc (.cells #[string ⟨#[]⟩,int i64 0,int i64 0] 36)) (.cells #[string a,int i64 1,int i64 1] 36);refine⟨b.get (c.get e (by simp)) (by simp),b.get (by simpa using f) (by simp),by simpa [aX,bK] using g,(i.trans c).trans b⟩
theorem wD.other(h:wD f S D N x)(a:(aH N x==10)=false):wD f (S.setCell ⟨f.heap.size+1+1,2,none⟩ (int i64 (bK N x+1))) D N (x+1):=by
 have k:ae [f.heap.size+1+1] S (S.setCell ⟨f.heap.size+1+1,2,none⟩ (int i64 (bK N x+1))):=(ae.refl _ _).sl1 _;refine⟨k.get h.f (by simp;omega),k.get h.r (by simp),?_,h.Yu.setCell (Uo (by show _<=f.heap.size+1+1;omega)) _⟩;rw[ab h.p];simp[aX,bK,a]
theorem wD.lf(h:wD f S D N x)(a:(aH N x==10)=true):wD f (((S.setCell ⟨f.heap.size+1+1,2,none⟩ (int i64 (bK N x+1))).setCell ⟨f.heap.size+1+1,1,none⟩ (int i64 (aX N x+1))).setCell ⟨f.heap.size+1+1,2,none⟩ (int i64 1)) D N (x+1):=by
 have k:ae [f.heap.size+1+1] S (((S.setCell ⟨f.heap.size+1+1,2,none⟩ (int i64 (bK N x+1))).setCell ⟨f.heap.size+1+1,1,none⟩ (int i64 (aX N x+1))).setCell ⟨f.heap.size+1+1,2,none⟩ (int i64 1)):=(((ae.refl _ _).sl1 _).sl1 _).sl1 _;refine⟨k.get h.f (by simp;omega),k.get h.r (by simp),?_,((h.Yu.setCell (Uo (by show _<=f.heap.size+1+1;omega)) _).setCell (Uo (by show _<=f.heap.size+1+1;omega)) _).setCell (Uo (by show _<=f.heap.size+1+1;omega)) _⟩;rw[ab (ab (ab h.p 2 _) 1 _) 2 _];simp[aX,bK,a]
theorem s9(R:T<=b.size)(O:b.size<=1073741824) :
  Calls prog 166 #[agg #[string l,string b],int i64 T] H fun e y=>e=returned (agg #[string l,int i64 (aX b T),int i64 (bK b T)])/\ae [] H y:=by
 go_enter func166,ntmps166;go_wp2
 go_loopg [6] T (fun g i wr=>∃j:Nat,j<=T/\g=T-j/\i=int i64 j/\Xr (wD H wr l b j))
 ·exact⟨0,by omega,rfl,rfl,wD.start H l b⟩
 obtain⟨j,Q,P,rfl,c⟩:=hrel;have t:=c.o.f;have a:=c.o.r;have d:=c.o.p;have E:wr.cell? ⟨H.heap.size,1,none⟩=some (string b):=by rw[ah t];rfl
 have F:wr.cell? ⟨H.heap.size+2,0,none⟩=some (string l):=by rw[ah d];rfl
 have G:wr.cell? ⟨H.heap.size+2,1,none⟩=some (int i64 (aX b j)):=by rw[ah d];rfl
 have I:wr.cell? ⟨H.heap.size+2,2,none⟩=some (int i64 (bK b j)):=by rw[ah d];rfl
 have J:=am d 1;have K:=am d 2;have L:=am a 0;have M:=am a 1;have N:=am a 2;have S:wr.cell? ⟨H.heap.size+1,0,none⟩=some (string ⟨#[]⟩):=by rw[ah a];rfl
 have U:wr.cell? ⟨H.heap.size+1,1,none⟩=some (int i64 0):=by rw[ah a];rfl
 have V:wr.cell? ⟨H.heap.size+1,2,none⟩=some (int i64 0):=by rw[ah a];rfl
 have D:=BZ b j;have C:=Bx b j;by_cases x:j<T
 ·have k:j<b.size:=by omega
  cases s:((b[j].toNat:Int)==10)
  ·have m:Xr (wD H _ l b (j+1)):=c.o.other (by rw[bZ b j k];exact s);go_wp2;go_roundg (T-(j+1))
   ·exact⟨j+1,by omega,rfl,by go_num,m.o⟩
   omega
  ·have m:Xr (wD H _ l b (j+1)):=c.o.lf (by rw[bZ b j k];exact s);go_wp2;go_roundg (T-(j+1))
   ·exact⟨j+1,by omega,rfl,by go_num,m.o⟩
   omega
 ·have e:j=T:=by omega
  subst e;have u:Xr _:=c.o.Yu;go_wp2;have n:=ab a 0 (string l);have q:=ab n 1 (int i64 (aX b j));have w:=ab q 2 (int i64 (bK b j));have z:(wr.setCell ⟨H.heap.size+1,0,none⟩ (string l)).cell? ⟨H.heap.size+1,0,none⟩=some (string l):=by rw[ah n];rfl
  have A:((wr.setCell ⟨H.heap.size+1,0,none⟩ (string l)).setCell ⟨H.heap.size+1,1,none⟩ (int i64 (aX b j))).cell? ⟨H.heap.size+1,1,none⟩=some (int i64 (aX b j)):=by rw[ah q];rfl
  have B:(((wr.setCell ⟨H.heap.size+1,0,none⟩ (string l)).setCell ⟨H.heap.size+1,1,none⟩ (int i64 (aX b j))).setCell ⟨H.heap.size+1,2,none⟩ (int i64 (bK b j))).cell? ⟨H.heap.size+1,2,none⟩=some (int i64 (bK b j)):=by rw[ah w];rfl
  exact Um (v:=agg #[string l,int i64 (aX b j),int i64 (bK b j)]) (by simp[results,results166,go_sem,z,A,B]) rfl ⟨rfl,((u.o.sr1 (by simp) _).sr1 (by simp) _).sr1 (by simp) _⟩
structure bJ(w w':World)(h h':Hd):Prop where
 Yu:ae h.Yv.toList w w'
 Yv:h'.Yv=h.Yv∨∃g,h'.Yv=some g/\w.heap.size<=g
theorem aR(a:x∈y.Yv.toList):y.Yv=some x:=by
 cases e:y.Yv with
 | none=>rw[e]at a;simp at a
 | some b=>rw[e]at a;simp at a;rw[a]
theorem bJ.Yh(k:ae [] f S):bJ f S y y:=⟨k.mono (by simp),Us rfl⟩
theorem bJ.trans{w1:World}(a:bJ f w1 y t)(b:bJ w1 S t zt):bJ f S y zt:=by
 refine⟨⟨b.Yu.os.trans a.Yu.os,b.Yu.tape.trans a.Yu.tape,b.Yu.output.trans a.Yu.output,Un a.Yu.size b.Yu.size,fun k i j=>?_⟩,?_⟩
 ·rw[b.Yu.block k (Ul i a.Yu.size) (fun l=>?_),a.Yu.block k i j];have e:=aR l;rcases a.Yv with c | ⟨g,c,d⟩
  ·exact j (by rw[<-c,e];simp)
  ·rw[c]at e;cases e;omega
 ·rcases b.Yv with e | ⟨g,e,d⟩
  ·rcases a.Yv with c | ⟨g,c,d⟩
   ·exact Us (e.trans c)
   ·exact Uo ⟨g,e.trans c,d⟩
  ·exact Uo ⟨g,e,Un a.Yu.size d⟩
theorem bJ.made(a:f.grownBy S y.Yv)(b:y.Yv=some x∨f.heap.size<=x):bJ f S y ⟨some ⟨x,0,none⟩,y7⟩ :=
 ⟨⟨a.os,a.tape,a.output,a.size,fun k c d=>a.block k c (fun e=>d (by rw[<-e];simp))⟩,by
  rcases b with e | e
  ·exact Us e.symm
  ·exact Uo ⟨x,rfl,e⟩⟩
theorem aB.Yh(o:aB f y z7)(k:ae [] f S):aB S y z7:=o.Ym (fun q a=>k.block q (o.lt a) (by simp))
theorem FP:(prog.info? 138).map (fun i=>(i.zero,i.size,i.bytes))=some (some (agg #[string ⟨#[]⟩,int i64 0,string ⟨#[]⟩,int i64 0,int i64 0]),5,56):=by kernel_rfl
theorem OJ:∀j u,(CQ z6)[j]?=some u->(H.alloc (.cells (CQ z6).toArray 138)).cell? ((⟨H.heap.size,0,none⟩:Addr).add j)=some u:=by
 intro j u a;rw[bS];have b:(H.alloc (.cells (CQ z6).toArray 138)).heap[H.heap.size]?=some (.cells (CQ z6).toArray 138):=Ui _ _;rw[ah b];simpa using a
theorem OK:∀u∈CQ z6,u.oneCell'=true:=by
 intro u a;simp only[CQ,List.mem_cons,List.not_mem_nil,or_false]at a;rcases a with rfl | rfl | rfl | rfl | rfl <;> rfl
set_option maxRecDepth 100000
theorem A9(h:Hd)(w:World)(L:k<=T)(hz:T<=b.size)(O:b.size<=1073741824)(hL:m.length<=100000)(t:aB w h (jq m)) :
  Calls prog 167 #[agg #[string l,string b],int i64 k,int i64 T,slice h.ao m.length h.cap] w fun e F=>∃q,e=returned (slice q.ao (jV l b k T m).length q.cap)/\aB F q (jq (jV l b k T m))/\bJ w F h q:=by
 have r:ae [] w (w.alloc (.cells #[string l,string b] 68)):=bM.alloc _;have B:(w.alloc (.cells #[string l,string b] 68)).heap[w.heap.size]?=some (.cells #[string l,string b] 68):=Ui _ _;by_cases e:k=T
 ·subst e;have p:Xr (jV l b k k m=m):=cM (by unfold jV;rw[Uf rfl]);have s:Xr _:=t.Yh r;rw[p.o];go_enter func167,ntmps167;go_wp2;go_ret;exact⟨h,rfl,s.o,bJ.Yh r⟩
 ·have p:Xr (jV l b k T m=m++[ng l b (b.extract k T) 0 k]):=by show _=_;unfold jV;rw[Ud e]
  have P:¬((k:Int)=(T:Int)):=by omega
  obtain⟨R,Q,v,x,y⟩:=UC FP;have M:(k:Int)<=(T:Int):=by omega
  have N:(T:Int)<=(b.size:Int):=by omega
  go_enter func167,ntmps167;go_upto_region 4 with (go_at_call 166;refine(s9 l b k _ (by omega) O).mono ?_;rintro e Y ⟨rfl,z⟩)
  obtain⟨W,a⟩:=bm (Y.alloc (.cells #[string l,int i64 (aX b k),int i64 (bK b k)] 36));have A:=fg a.o;have D:=fE a.o;have K:=(r.trans z).trans A;have C:=A.get (z.get B (by simp)) (by simp);have Z:W.cell? ⟨w.heap.size,1,none⟩=some (string b):=by rw[ah C];rfl
  obtain⟨p0,p1,p2⟩:=xy D;rw[a.o];have I:Xr _:=K;have J:Xr (aB (W.alloc (.cells #[string (b.extract k T),int i64 0,string l,int i64 (aX b k),int i64 (bK b k)] 138)).drew h (jq m)):=(t.Yh K).Yh ((ae.refl [] W).alloc _).drew;have S:Xr (∀j u,([string (b.extract k T),int i64 0,string l,int i64 (aX b k),int i64 (bK b k)]:List Value)[j]?=some u->(W.alloc (.cells #[string (b.extract k T),int i64 0,string l,int i64 (aX b k),int i64 (bK b k)] 138)).drew.cell? ((⟨W.heap.size,0,none⟩:Addr).add j)=some u):=OJ W (ng l b (b.extract k T) 0 k);have U:Xr (∀u∈([string (b.extract k T),int i64 0,string l,int i64 (aX b k),int i64 (bK b k)]:List Value),u.oneCell'=true):=OK (ng l b (b.extract k T) 0 k);have V:Xr ((jq m).n+1<=maxLen):=by show _<=_;simp only[jq];unfold maxLen;omega
  have X:Xr (((jq m).n+1)*56<=140737488355328):=by show _<=_;simp only[jq];omega
  clear A D K C B r z a t;go_region_law (refine cv rfl (.tmp 17) (.tmp 25) 101 rfl R (agg #[string ⟨#[]⟩,int i64 0,string ⟨#[]⟩,int i64 0,int i64 0]) 56 h (jq m) underlying101 Q v x y rfl (show 0<5 by omega) (by simp[Act.eval] <;> rfl) J.o ⟨W.heap.size,0,none⟩ 1 1 [string (b.extract k T),int i64 0,string l,int i64 (aX b k),int i64 (bK b k)] (by simp[Act.eval]) rfl S.o U.o UA V.o X.o ?_;intro E c G g d f)
  all_goals
   have i:aB G ⟨some ⟨E,0,none⟩,c⟩ (jq (m++[ng l b (b.extract k T) 0 k])):=(by rw[<-AC];exact g);have H:Xr (bJ w G h ⟨some ⟨E,0,none⟩,c⟩):=(bJ.Yh (I.o.trans ((ae.refl [] W).alloc _).drew)).trans (bJ.made d (by simpa using f));have s:Xr _:=i;clear g d f i;go_wp2;go_ret;exact⟨_,by rw[p.o];simp[jq],by rw[p.o];exact s.o,H.o⟩
theorem cw(q:L.guard=none)(s x:Operand)(i:L.op=Op.call { callee:=Callee.builtin Builtin.append,args:=#[s,x],argTypes:=#[101,101] })(h:Hd)(a:List Tk)(t:Tk)(u:I.eval s=slice h.ao a.length h.cap)(d:aB H h (jq a))(z:a.length<=1000000)(v:I.eval x=slice (some ⟨H.heap.size,0,none⟩) 1 1)(p:∀f m,aB m f (jq (a++[t]))->bJ H m h f->wpList prog z2 z3 y0 (I.put L.dst (slice f.ao (a.length+1) f.cap)) m) :
  wpList prog z2 z3 (L :: y0) I (H.alloc (.cells (CQ t).toArray 138)):=by
 obtain⟨w,r,j,k,l⟩:=UC FP;have n:ae [] H (H.alloc (.cells (CQ t).toArray 138)):=bM.alloc _;refine aN _ q s x 101 i w (agg #[string ⟨#[]⟩,int i64 0,string ⟨#[]⟩,int i64 0,int i64 0]) 56 h (jq a) underlying101 r j k l rfl (show 0<5 by omega) u (d.Yh n) ⟨H.heap.size,0,none⟩ 1 1 (CQ t) v rfl (OJ H t) (OK t) UA (by simp only[jq];unfold maxLen;omega) (by simp only[jq];omega) ?_;intro o b y e c g;rw[AC]at e;exact p ⟨some ⟨o,0,none⟩,b⟩ y e ((bJ.Yh n).trans (bJ.made c g))
theorem qD{P:Program}(t E:TypeId)(i:TypeInfo)(z:Value)(d:Nat)(h:Hd)(r:ew)(A:P.underlying t=some (.slice r.e))(B:P.info? r.e=some i)(N:i.zero=some z)(I:i.size=r.size)(O:i.bytes=d)(Q:z.cells.size=r.size)(R:0<r.size)(b:aB H h r)(y:Xu)(m c:Nat)(a:List Value)(D:a.length=m*r.size)(l:y=none->m=0/\c=0)(C:∀p,y=some p->∀j u,a[j]?=some u->H.cell? (p.add j)=some u)(v:∀u∈a,u.oneCell'=true)(J:r.n+m<=maxLen)(K:(r.n+m)*d<=140737488355328) :
  ∃f o,(Builtin.append_ #[t,t] E #[slice h.ao r.n h.cap,slice y m c]).run P H=.ok (slice f.ao (r.n+m) f.cap) o /\
   aB o f ⟨r.e,r.size,r.n+m,r.xs++a⟩/\bJ H o h f:=by
 cases y with
 | none =>
  obtain⟨rfl,rfl⟩:=l rfl;have k:a=[]:=UI (by simpa using D);subst k;have T:=run_append_owned_none (P:=P) H 0 t E r.e i r.size A B (slice h.ao r.n h.cap) r.n r.xs b;exact⟨h,H,T,by rw[UE];exact b,bJ.Yh (ae.refl _ _)⟩
 | some p =>
  have C:=C p rfl;by_cases S:0<m
  ·obtain⟨g,q,o,V,W,X,Y⟩:=rh H t E i z d h r A B N I O Q R b p m c a D C v S J K;exact⟨⟨some ⟨g,0,none⟩,q⟩,o,V,W,bJ.made X Y⟩
  ·have e:m=0:=(by omega);subst e;have k:a=[]:=UI (by simpa using D);subst k;rcases b.Ys with ⟨s,G,M⟩ | ⟨g,L,s,G,M,Z,e5,e6⟩
   ·refine⟨h,H,?_,?_,bJ.Yh (ae.refl _ _)⟩
    ·rw[s,G];simp[Builtin.append_,run_underlying A,sizeOf,typeInfo,B,Builtin.lenOf,Builtin.firstCells,loadCells,loadCellsFrom]
    ·rw[UE,VD];exact b
   ·obtain⟨o,x,U,F⟩:=run_append_fits (P:=P) H 0 t E r.e i r.size A B I g r.n h.cap r.xs (by have:=b;unfold aB at this;rw[s]at this;exact this) p 0 c [] D C v (by omega);have w:h.Yv=some g:=(by unfold Hd.Yv;rw[s];rfl);exact⟨⟨some ⟨g,0,none⟩,h.cap⟩,o,by rw[s,x],U,bJ.made (by rw[w];exact F) (Us w)⟩
theorem dW(P:L.guard=none)(s x:Operand)(t:TypeId)(w:L.op=Op.call { callee:=Callee.builtin Builtin.append,args:=#[s,x],argTypes:=#[t,t] })(i:TypeInfo)(z:Value)(b:Nat)(h:Hd)(r:ew)(B:z0.underlying t=some (.slice r.e))(C:z0.info? r.e=some i)(D:i.zero=some z)(E:i.size=r.size)(F:i.bytes=b)(G:z.cells.size=r.size)(J:0<r.size)(R:I.eval s=slice h.ao r.n h.cap)(f:aB H h r)(l:Xu)(m c:Nat)(a:List Value)(S:I.eval x=slice l m c)(Q:a.length=m*r.size)(d:l=none->m=0/\c=0)(O:∀y,l=some y->∀j u,a[j]?=some u->H.cell? (y.add j)=some u)(p:∀u∈a,u.oneCell'=true)(A:r.n+m<=1000000000)(N:b<=1000)(M:∀o k,aB k o ⟨r.e,r.size,r.n+m,r.xs++a⟩->bJ H k h o->wpList z0 z2 z3 y0 (I.put L.dst (slice o.ao (r.n+m) o.cap)) k) :
  wpList z0 z2 z3 (L :: y0) I H:=by
 obtain⟨v,k,g,T,U⟩:=qD (P:=z0) H t L.type i z b h r B C D E F G J f l m c a Q d O p (by unfold maxLen;omega) (Un (Wj A N) (by omega));refine wpList_plain P fun K q=>?_;unfold Oper.wp;simp[execOp,w,resolve,invoke,builtin,R,S,g,Result.andThen];exact q _ _ (M v k T U)
theorem y8{E:Prop}(P:L.guard=none)(s x:Operand)(t:TypeId)(y:L.op=Op.call { callee:=Callee.builtin Builtin.append,args:=#[s,x],argTypes:=#[t,t] })(i:TypeInfo)(z:Value)(b:Nat)(h:Hd)(r:ew)(C:z0.underlying t=some (.slice r.e))(D:z0.info? r.e=some i)(F:i.zero=some z)(G:i.size=r.size)(H:i.bytes=b)(J:z.cells.size=r.size)(K:0<r.size)(R:I.eval s=slice h.ao r.n h.cap)(o:aB f h r)(v:Xu)(m c:Nat)(a:List Value)(T:I.eval x=slice v m c)(Q:a.length=m*r.size)(k:v=none->m=0/\c=0)(O:∀A,v=some A->∀j u,a[j]?=some u->f.cell? (A.add j)=some u)(w:∀u∈a,u.oneCell'=true)(B:r.n+m<=1000000000)(N:b<=1000)(M:∀g d q,aB q ⟨g,d⟩ ⟨r.e,r.size,r.n+m,r.xs++a⟩->bJ f q h ⟨g,d⟩->y2 (I.put L.dst (slice g (r.n+m) d)) q) :
  if Region.wanted L (yielded z2 I.tmps)=true then Oper.wp z0 L I f y2 z3 else E:=by
 have S:Region.wanted L (yielded z2 I.tmps)=true:=by simp[Region.wanted,P]
 rw[Uf S];obtain⟨l,q,p,U,V⟩:=qD (P:=z0) f t L.type i z b h r C D F G H J K o v m c a Q k O w (by unfold maxLen;omega) (Un (Wj B N) (by omega));unfold Oper.wp;simp[execOp,y,resolve,invoke,builtin,R,T,p,Result.andThen];exact M l.ao l.cap q U V
theorem bY{E:Prop}(F:L.guard=none)(s x:Operand)(t:TypeId)(l:L.op=Op.call { callee:=Callee.builtin Builtin.append,args:=#[s,x],argTypes:=#[t,t] })(i:TypeInfo)(z:Value)(c:Nat)(h:Hd)(r:ew)(a:List Value)(p:z0.underlying t=some (.slice r.e))(q:z0.info? r.e=some i)(v:i.zero=some z)(w:i.size=r.size)(y:i.bytes=c)(A:z.cells.size=r.size)(B:0<r.size)(K:I.eval s=slice h.ao r.n h.cap)(f:aB H h r)(P:r.n<=900000000)(D:c<=1000)(M:I.eval x=slice (some ⟨H.heap.size,0,none⟩) 1 1)(Q:a.length=r.size)(k:∀u∈a,u.oneCell'=true)(C:∀d b g,aB g ⟨d,b⟩ ⟨r.e,r.size,r.n+1,r.xs++a⟩->bJ H g h ⟨d,b⟩->y2 (I.put L.dst (slice d (r.n+1) b)) g) :
  if Region.wanted L (yielded z2 I.tmps)=true then Oper.wp z0 L I (H.alloc (.cells a.toArray r.e)).drew y2 z3 else E:=by
 have m:ae [] H (H.alloc (.cells a.toArray r.e)).drew:=(bM.alloc _).drew;have J:(H.alloc (.cells a.toArray r.e)).drew.heap[H.heap.size]?=some (.cells a.toArray r.e):=Ui _ _;refine y8 F s x t l i z c h r p q v w y A B K (f.Yh m) (some ⟨H.heap.size,0,none⟩) 1 1 a M (by omega) (fun e=>by cases e) ?_ k (by omega) D ?_
 ·intro O e j u G;cases e
  rw[bS,ah J];simpa using G
 ·intro d b g N o;exact C d b g N ((bJ.Yh m).trans o)
structure zC(w wr:World)(nm d:Xs)(h:Hd)(L:List Tk):Prop where
 f:wr.heap[w.heap.size]?=some (.cells #[string nm,string d] 68)
 YF:aB wr h (jq L)
 far:∀k,h.Yv=some k->w.heap.size<k
 Yu:ae [] w wr
theorem zC.Yh(a:zC f S D N y i)(k:ae [] S z1):zC f z1 D N y i :=
 ⟨k.get a.f (by simp),a.YF.Yh k,a.far,a.Yu.trans k⟩
theorem zC.Yr(a:zC f S D N y i)(g:bJ S z1 y t)(o:aB z1 t (jq y3)):zC f z1 D N t y3:=by
 have d:=aj a.f;refine⟨g.Yu.get a.f (fun c=>by have:=a.far _ (aR c);omega),o,fun k b=>?_,⟨g.Yu.os.trans a.Yu.os,g.Yu.tape.trans a.Yu.tape,g.Yu.output.trans a.Yu.output,Un a.Yu.size g.Yu.size,fun k b _=>?_⟩⟩
 ·rcases g.Yv with e | ⟨q,e,c⟩
  ·exact a.far k (by rw[<-e];exact b)
  ·rw[e]at b;cases b;omega
 ·rw[g.Yu.block k (Ul b a.Yu.size) (fun c=>by have:=a.far _ (aR c);omega),a.Yu.block k b (by simp)]
theorem yC{l c:Int}(h:Xr (f.alloc (.cells #[string D,int i64 l,int i64 c] 36)=S)):ae [] f S/\f.heap.size<S.heap.size/\S.cell? ⟨f.heap.size,0,none⟩=some (string D)/\S.cell? ⟨f.heap.size,1,none⟩=some (int i64 l)/\S.cell? ⟨f.heap.size,2,none⟩=some (int i64 c):=by
 have a:S.heap[f.heap.size]?=some (.cells #[string D,int i64 l,int i64 c] 36):=by rw[<-h.o];exact Ui _ _
 exact⟨by rw[<-h.o];exact bM.alloc _,aj a,by rw[ah a];rfl,by rw[ah a];rfl,by rw[ah a];rfl⟩
theorem Rr(c:x<D.size)(h:rW (aH D x)=true)(a:∀j,j<x->rW (aH D j)=false):kz D=some x:=by
 unfold kz;rw[Vp];exact⟨h,Up.2 c,fun j b=>by rw[a j b];rfl⟩
theorem MF(a:∀j,j<D.size->rW (aH D j)=false):kz D=none:=by
 unfold kz;rw[U8];intro j b;rw[a j (Up.1 b)];simp
theorem Ic(hd:b.size<=10000) :
  Calls prog 116 #[agg #[string l,string b]] H fun e w=>∃m,e=returned (slice m.ao (iZ l b).length m.cap)/\aB w m (jq (iZ l b))/\ae [] H w/\∀k,m.Yv=some k->H.heap.size<k:=by
 have Y:Xr (zC H (H.alloc (.cells #[string l,string b] 68)) l b ⟨none,0⟩ []):=⟨Ui _ _,Uj _ _ _ _,(by intro k V;cases V),bM.alloc _⟩;obtain⟨i0,hi,ad,af,ag⟩:=UC FP;go_enter func116,ntmps116;go_wp2
 go_loopg [3,4,5] b.size (fun g o f i wr=>∃(k:Nat) (h:Hd),k<=b.size/\g=b.size-k/\o=slice h.ao (jU l b k).length h.cap/\f=int i64 (dI b k)/\i=int i64 k/\Xr (∀j,j<k->rW (aH b j)=false)/\Xr (zC H wr l b h (jU l b k)))
 ·exact⟨0,⟨none,0⟩,by omega,rfl,rfl,rfl,rfl,(fun j U=>by omega),Y⟩
 obtain⟨k,h,V,hg,rfl,rfl,rfl,J,v⟩:=hrel;have K:wr.cell? ⟨H.heap.size,0,none⟩=some (string l):=by rw[ah v.o.f];rfl
 have L:wr.cell? ⟨H.heap.size,1,none⟩=some (string b):=by rw[ah v.o.f];rfl
 have ac:=zo l b k;have D:=pF b k;rcases kn k b.size with ⟨y,Z⟩ | ⟨y,-⟩
 ·have c:Xr _:=bZ b k y;cases A:dr (b[k].toNat:Int)
  ·cases R:fX (b[k].toNat:Int)
   ·have M:Xr (kz b=some k):=Rr y (by rw[c.o];unfold rW;rw[A,R];rfl) J.o;(go_upto_region 10 with (first | (go_at_call 79;refine(md _ _).mono ?_;rintro e u ⟨rfl,a⟩;rw[a];clear a) | (go_at_call 165;refine(sJ _ _).mono ?_;rintro e u ⟨rfl,a⟩;rw[a];clear a) | (go_at_call 166;refine(s9 l b k _ (by omega) (by omega)).mono ?_;rintro e u ⟨rfl,F⟩)));obtain⟨W,d⟩:=bm (u.alloc (.cells #[string l,int i64 (aX b k),int i64 (bK b k)] 36));obtain⟨G,y1,p0,p1,p2⟩:=yC d;rw[d.o];have B:Xr _:=v.o.Yh (F.trans G);have Q:=B.o.YF;have z:Xr (iZ l b=jU l b k++[ng l b ⟨#[]⟩ 1 k]):=cM (by unfold iZ;rw[M.o]);clear G F K L d;go_wp2_with (at_builtin;refine cw W rfl (.tmp 36) (.tmp 39) rfl h (jU l b k) (ng l b ⟨#[]⟩ 1 k) rfl Q (by omega) rfl ?_;intro P w5 r q;have n:Xr _:=B.o.Yr q r;clear r q);go_ret;exact⟨P,by rw[z.o];simp,by rw[z.o];exact n.o.YF,n.o.Yu,n.o.far⟩
   ·have n:Xr (∀j,j<k+1->rW (aH b j)=false):=fun j U=>by
     by_cases e:j=k
     ·subst e;rw[c.o];unfold rW;rw[R];rfl
     ·exact J.o j (by omega)
    have x:Xr (jU l b (k+1)=jU l b k/\dI b (k+1)=dI b k):=by
     constructor
     ·rw[jU,Ud (by rw[c.o,A];simp)]
     ·rw[dI,Ud (by rw[c.o,A];simp)]
    go_wp2_with (first | (go_at_call 79;refine(md _ _).mono ?_;rintro e u ⟨rfl,a⟩;rw[a];clear a) | (go_at_call 165;refine(sJ _ _).mono ?_;rintro e u ⟨rfl,a⟩;rw[a];clear a));go_roundg (b.size-(k+1))
    ·exact⟨k+1,h,by omega,rfl,by rw[x.o.1],by rw[x.o.2],by go_num,n,by rw[x.o.1];exact v⟩
    omega
  ·have n:Xr (∀j,j<k+1->rW (aH b j)=false):=fun j U=>by
    by_cases e:j=k
    ·subst e;rw[c.o];unfold rW;rw[A];simp
    ·exact J.o j (by omega)
   have x:Xr (jU l b (k+1)=jV l b (dI b k) k (jU l b k)/\dI b (k+1)=k+1):=by
    constructor
    ·rw[jU,Uf (by rw[c.o,A])]
    ·rw[dI,Uf (by rw[c.o,A])]
   have t:Xr (∀s,zC H s l b h (jU l b k)->Calls prog 167 #[agg #[string l,string b],int i64 (dI b k),int i64 k,slice h.ao (jU l b k).length h.cap] s fun e w=>∃m,e=returned (slice m.ao (jV l b (dI b k) k (jU l b k)).length m.cap)/\aB w m (jq (jV l b (dI b k) k (jU l b k)))/\bJ s w h m):=fun s S=>A9 l b _ k _ h s D (by omega) (by omega) (by omega) S.YF;cases R:fX (b[k].toNat:Int)
   all_goals
    go_wp2_with (first | (go_at_call 79;refine(md _ _).mono ?_;rintro e u ⟨rfl,a⟩;rw[a];clear a) | (go_at_call 165;refine(sJ _ _).mono ?_;rintro e u ⟨rfl,a⟩;rw[a];clear a) | (go_at_call 167;refine(t.o _ v.o).mono ?_;rintro e T ⟨O,rfl,I,C⟩;have p:Xr _:=v.o.Yr C I;clear C I));go_roundg (b.size-(k+1))
    ·exact⟨k+1,O,by omega,rfl,by rw[x.o.1],by rw[x.o.2];go_num,by go_num,n,by rw[x.o.1];exact p⟩
    omega
 ·have e:k=b.size:=by omega
  subst e;have M:Xr (kz b=none):=MF J.o;have z:Xr (iZ l b=jV l b (dI b b.size) b.size (jU l b b.size)++[ng l b ⟨#[]⟩ 0 b.size]):=cM (by unfold iZ;rw[M.o]);have E:=vN l b (dI b b.size) b.size (jU l b b.size);obtain⟨X,N⟩:=bm (jV l b (dI b b.size) b.size (jU l b b.size));have t:Xr (∀s,zC H s l b h (jU l b b.size)->Calls prog 167 #[agg #[string l,string b],int i64 (dI b b.size),int i64 b.size,slice h.ao (jU l b b.size).length h.cap] s fun e w=>∃m,e=returned (slice m.ao (jV l b (dI b b.size) b.size (jU l b b.size)).length m.cap)/\aB w m (jq (jV l b (dI b b.size) b.size (jU l b b.size)))/\bJ s w h m):=fun s S=>A9 l b _ b.size _ h s D (by omega) (by omega) (by omega) S.YF;rw[N.o]at t E z;go_upto_region 15 with (go_at_call 167;refine(t.o _ v.o).mono ?_;rintro e T ⟨O,rfl,I,C⟩;have p:Xr _:=v.o.Yr C I;clear C I)
  clear K L;have K:T.cell? ⟨H.heap.size,0,none⟩=some (string l):=by rw[ah p.o.f];rfl
  have L:T.cell? ⟨H.heap.size,1,none⟩=some (string b):=by rw[ah p.o.f];rfl
  go_upto_region 16 with (go_at_call 166;refine(s9 l b b.size _ (by omega) (by omega)).mono ?_;rintro e u ⟨rfl,F⟩)
  obtain⟨W,d⟩:=bm (u.alloc (.cells #[string l,int i64 (aX b b.size),int i64 (bK b b.size)] 36));obtain⟨G,y1,p0,p1,p2⟩:=yC d;rw[d.o];have B:Xr _:=p.o.Yh (F.trans G);have Q:=B.o.YF;clear G F K L d;go_wp2_with (at_builtin;refine cw W rfl (.tmp 61) (.tmp 64) rfl O X (ng l b ⟨#[]⟩ 0 b.size) rfl Q (by omega) rfl ?_;intro P w5 r q;have n:Xr _:=B.o.Yr q r;clear r q);go_ret;exact⟨P,by rw[z.o];simp,by rw[z.o];exact n.o.YF,n.o.Yu,n.o.far⟩
theorem rr(o:aB f y (jq i))(b:y.ao=some ⟨x,0,none⟩)(k:Nat)(t:Tk)(d:i[k]?=some t) :
  f.cell? ⟨x,k*5,none⟩=some (string t.s)/\f.cell? ⟨x,k*5+1,none⟩=some (int i64 t.YE)/\f.cell? ⟨x,k*5+2,none⟩=some (string t.YB)/\f.cell? ⟨x,k*5+3,none⟩=some (int i64 t.YC)/\f.cell? ⟨x,k*5+4,none⟩=some (int i64 t.YD):=by
 have e:∀c,c<5->∀u,(CQ t)[c]?=some u->f.cell? ⟨x,k*5+c,none⟩=some u:=fun c a u g=>o.cell b (k*5+c) u (by show(SA i)[k*5+c]?=some u;rw[Sr i k t d c a];exact g);exact⟨e 0 (by omega) _ rfl,e 1 (by omega) _ rfl,e 2 (by omega) _ rfl,e 3 (by omega) _ rfl,e 4 (by omega) _ rfl⟩
theorem rJ(o:aB f y z7)(i:0<z7.n):∃g,y.ao=some ⟨g,0,none⟩/\g<f.heap.size/\z7.n<=y.cap:=by
 rcases o.Ys with ⟨_,e,_⟩ | ⟨g,a,b,c,d,-⟩
 ·omega
 ·exact⟨g,b,aj c,d⟩
structure O6(w wr:World)(h:Hd)(O:List Tk):Prop where
 YF:aB wr h (jq O)
 far:∀k,h.Yv=some k->w.heap.size<=k
 Yu:ae [] w wr
theorem O6.Yh(a:O6 f S y i)(k:ae [] S z1):O6 f z1 y i:=⟨a.YF.Yh k,a.far,a.Yu.trans k⟩
theorem O6.Yr(a:O6 f S y i)(g:bJ S z1 y t)(o:aB z1 t (jq y3)):O6 f z1 t y3:=by
 refine⟨o,fun k b=>?_,⟨g.Yu.os.trans a.Yu.os,g.Yu.tape.trans a.Yu.tape,g.Yu.output.trans a.Yu.output,Un a.Yu.size g.Yu.size,fun k b _=>?_⟩⟩
 ·rcases g.Yv with e | ⟨q,e,c⟩
  ·exact a.far k (by rw[<-e];exact b)
  ·rw[e]at b;cases b;exact Un a.Yu.size c
 ·rw[g.Yu.block k (Ul b a.Yu.size) (fun c=>by have:=a.far _ (aR c);omega),a.Yu.block k b (by simp)]
def lX(w:World)(ao:Xu)(cap:Nat)(L:List Tk):Prop:=L.length<=cap/\∀k t,L[k]?=some t->∃g,ao=some ⟨g,0,none⟩/\g<w.heap.size /\
  w.cell? ⟨g,k*5,none⟩=some (string t.s)/\w.cell? ⟨g,k*5+1,none⟩=some (int i64 t.YE)/\w.cell? ⟨g,k*5+2,none⟩=some (string t.YB)/\w.cell? ⟨g,k*5+3,none⟩=some (int i64 t.YC)/\w.cell? ⟨g,k*5+4,none⟩=some (int i64 t.YD)
theorem aB.src(o:aB f y (jq i)):lX f y.ao y.cap i:=by
 refine⟨?_,fun k t c=>?_⟩
 ·rcases o.Ys with ⟨e,b,_⟩ | ⟨g,d,m,n,j,-⟩
  ·have b:i.length=0:=b;omega
  ·exact j
 ·have p:=(Uk.1 c).1;obtain⟨g,a,l,-⟩:=rJ o (show 0<i.length by omega);exact⟨g,a,l,rr o a k t c⟩
theorem lX.Yh(h:lX f y4 x i)(k:ae [] f S):lX S y4 x i:=by
 refine⟨h.1,fun j t p=>?_⟩;obtain⟨g,e,a,c⟩:=h.2 j t p;obtain⟨b,d,l,m,n⟩:=c;have q:∀o,S.cell? ⟨g,o,none⟩=f.cell? ⟨g,o,none⟩:=fun o=>Uw (k.block g a (by simp));exact⟨g,e,Ul a k.size,by rw[q];exact b,by rw[q];exact d,by rw[q];exact l,by rw[q];exact m,by rw[q];exact n⟩
theorem JJ(hL:n.length<=100000)(P:lX H M T n)(hs:∀t∈n,t.s.size<=1073741824) :
  Calls prog 117 #[slice M n.length T] H fun e w'=>∃l,e=returned (slice l.ao (b7 false n).length l.cap)/\O6 H w' l (b7 false n):=by
 have S0:Xr (O6 H H ⟨none,0⟩ []):=⟨Uj _ _ _ _,(by intro k Q;cases Q),ae.refl _ _⟩;have HO:Xr _:=P;clear P;go_enter func117,ntmps117;go_wp2
 go_loopg [3,4,5] n.length (fun g o L i wr=>∃(k:Nat) (l:Hd) (O:List Tk) (b:Bool),k<=n.length/\g=n.length-k/\o=slice l.ao O.length l.cap/\L=bool b/\i=int i64 k/\O.length<=k/\Xr (O++b7 b (n.drop k)=b7 false n)/\Xr (O6 H wr l O))
 ·exact⟨0,⟨none,0⟩,[],false,by omega,rfl,rfl,rfl,rfl,Ue _,rfl,S0⟩
 obtain⟨k,l,O,b,Q,hg,rfl,rfl,rfl,ac,u,E⟩:=hrel;by_cases A:k<n.length
 ·obtain⟨gs,rfl,ad,S,U,V,X,Y⟩:=(lX.Yh HO.o E.o.Yu).2 k n[k] (Ub A);have Z:Xr _:=UB A;have K:=hs n[k] (Uu A);have af:(k:Int)<n.length:=by omega
  rw[Z.o]at u;generalize n[k]=t at *;obtain⟨d,z,p,q,m⟩:=t;simp only at S U V X Y K;obtain⟨W,w⟩:=bm (wr.alloc (.cells #[string d,int i64 z,string p,int i64 q,int i64 m] 138));have N:=fE w.o;obtain⟨p0,p1,p2,p3,p4⟩:=lr N;have j:Xr (O6 H W l O):=E.o.Yh (by rw[<-w.o];exact bM.alloc _);have r:=j.o.YF;go_upto_region 7 with fail
  rw[w.o];clear S U V X Y w N;go_upto_region 9 with (go_at_call 121;refine(go d _ _ (by omega) (by show 2<=_;omega)).mono ?_;rintro e w1 ⟨rfl,B⟩;rw[B];clear B)
  cases b
  ·cases R:(d.toList == [36,40])
   ·have f:Xr ((O++[⟨d,z,p,q,m⟩])++b7 false (n.drop (k+1))=b7 false n):=by
     show _=_;rw[<-u.o,b7,Ud (by show ¬(d.toList == [36,40])=true;rw[R];simp)];simp
    go_wp2_with (at_builtin;refine cw W rfl (.tmp 41) (.tmp 43) rfl l O ⟨d,z,p,q,m⟩ rfl r (by omega) rfl ?_;intro y D c a;have v:Xr _:=j.o.Yr a c;clear c a);go_roundg (n.length-(k+1))
    ·exact⟨k+1,y,O++[⟨d,z,p,q,m⟩],false,by omega,rfl,by simp,rfl,by go_num,by simp;omega,f,v⟩
    omega
   ·have f:Xr (O++b7 true (n.drop (k+1))=b7 false n):=by
     show _=_;rw[<-u.o,b7,Uf (by show(d.toList == [36,40])=true;exact R)]
    go_wp2;go_roundg (n.length-(k+1))
    ·exact⟨k+1,l,O,true,by omega,rfl,rfl,rfl,by go_num,by omega,f,j⟩
    omega
  ·cases I:(z==0)
   ·have f:Xr ((O++[⟨d,z,p,q,m⟩])++b7 true (n.drop (k+1))=b7 false n):=by
     show _=_;rw[<-u.o,b7,Uf (by exact I)];simp
    go_wp2_with (at_builtin;refine cw W rfl (.tmp 41) (.tmp 43) rfl l O ⟨d,z,p,q,m⟩ rfl r (by omega) rfl ?_;intro y D c a;have v:Xr _:=j.o.Yr a c;clear c a);go_roundg (n.length-(k+1))
    ·exact⟨k+1,y,O++[⟨d,z,p,q,m⟩],true,by omega,rfl,by simp,rfl,by go_num,by simp;omega,f,v⟩
    omega
   ·have J:z=0:=(by simpa using I);subst J;clear I;cases C:(d.toList == [36,41])
    ·cases F:(d.toList == [])
     ·cases x:(io d ⟨#[36,40]⟩||io d ⟨#[36,41]⟩)
      ·have f:Xr (O++b7 true (n.drop (k+1))=b7 false n):=by
        show _=_;rw[<-u.o,b7,Ud (by simp),Ud (by show ¬(d.toList == [36,41])=true;rw[C];simp),Ud (by show ¬(d.toList == [])=true;rw[F];simp),Ud (by rw[x];simp)]
       simp only[Bool.or_eq_false_iff]at x;obtain⟨x,G⟩:=x;rw[x,G];go_wp2;go_roundg (n.length-(k+1))
       ·exact⟨k+1,l,O,true,by omega,rfl,rfl,rfl,by go_num,by omega,f,j⟩
       omega
      ·have f:Xr (b7 false n=O++[⟨⟨#[]⟩,2,p,q,m⟩]):=by
        show _=_;rw[<-u.o,b7,Ud (by simp),Ud (by show ¬(d.toList == [36,41])=true;rw[C];simp),Ud (by show ¬(d.toList == [])=true;rw[F];simp),Uf (by rw[x])]
       cases G:io d ⟨#[36,40]⟩
       ·rw[G,Vn]at x;rw[x];go_wp2_with (at_builtin;refine cw W rfl (.tmp 64) (.tmp 68) rfl l O ⟨⟨#[]⟩,2,p,q,m⟩ rfl r (by omega) rfl ?_;intro y D c a;have v:Xr _:=j.o.Yr a c;clear c a);go_ret;exact⟨y,by rw[f.o];simp,by rw[f.o];exact v.o⟩
       ·clear x;go_wp2_with (at_builtin;refine cw W rfl (.tmp 64) (.tmp 68) rfl l O ⟨⟨#[]⟩,2,p,q,m⟩ rfl r (by omega) rfl ?_;intro y D c a;have v:Xr _:=j.o.Yr a c;clear c a);go_ret;exact⟨y,by rw[f.o];simp,by rw[f.o];exact v.o⟩
     ·have f:Xr ((O++[⟨⟨#[]⟩,3,p,q,m⟩])++b7 true (n.drop (k+1))=b7 false n):=by
       show _=_;rw[<-u.o,b7,Ud (by simp),Ud (by show ¬(d.toList == [36,41])=true;rw[C];simp),Uf (by exact F)];simp
      go_wp2_with (at_builtin;refine cw W rfl (.tmp 53) (.tmp 57) rfl l O ⟨⟨#[]⟩,3,p,q,m⟩ rfl r (by omega) rfl ?_;intro y D c a;have v:Xr _:=j.o.Yr a c;clear c a);go_roundg (n.length-(k+1))
      ·exact⟨k+1,y,O++[⟨⟨#[]⟩,3,p,q,m⟩],true,by omega,rfl,by simp,rfl,by go_num,by simp;omega,f,v⟩
      omega
    ·have f:Xr (O++b7 false (n.drop (k+1))=b7 false n):=by
      show _=_;rw[<-u.o,b7,Ud (by simp),Uf (by exact C)]
     go_wp2;go_roundg (n.length-(k+1))
     ·exact⟨k+1,l,O,false,by omega,rfl,rfl,rfl,by go_num,by omega,f,j⟩
     omega
 ·have e:n.drop k=[]:=Ww (by omega);have f:Xr (b7 false n=O):=by
   show _=_;rw[<-u.o,e];cases b <;> simp[b7]
  go_wp2;go_ret;exact⟨l,by rw[f.o];rfl,by rw[f.o];exact E.o⟩
def cd(s:Xs):Bool:=(s.toList == [36,46])||(s.toList == [36,123])||(s.toList == [36,125])
def aP(n:Int)(s:Xs):Int :=
 if(s.toList == [36,125])=true then(if(s.toList == [36,123])=true then n+1 else n)-1 else(if(s.toList == [36,123])=true then n+1 else n)
def kc(L:List Tk):Int:=L.foldl (fun n t=>aP n t.s) 0
def dG(L:List Tk):Bool:=match L.getLast? with
 | none=>true
 | some t=>cd t.s&&(kc L==0)
def fm(L:List Tk):Bool:=match L.getLast? with
 | none=>false
 | some t=>!(t.YE==0)
theorem FE(h:T<n.length):kc (n.take (T+1))=aP (kc (n.take T)) n[T].s:=by
 unfold kc;rw[UY h,VY];rfl
set_option maxRecDepth 512
theorem ve :
  Calls prog 85 #[string b] H fun e a=>e=returned (bool (cd b))/\a=H:=by
 go_enter func85,ntmps85;go_wp2
 all_goals go_ret
 all_goals (refine⟨?_,rfl⟩;simp[cd, *])
set_option maxRecDepth 100000
theorem FD(z:n.length<=100000)(p:lX H M T n) :
  Calls prog 168 #[slice M n.length T] H fun e x=>e=returned (int i64 (kc n))/\x=H:=by
 have q:Xr _:=p;clear p;go_enter func168,ntmps168;go_wp2
 go_loopg [3,4] n.length (fun g v i wr=>∃(k:Nat) (m:Int),k<=n.length/\g=n.length-k/\v=int i64 m/\i=int i64 k/\(-(k:Int)<=m/\m<=(k:Int))/\Xr (m=kc (n.take k))/\wr=H)
 ·exact⟨0,0,by omega,rfl,rfl,rfl,by omega,rfl,rfl⟩
 obtain⟨k,m,B,A,rfl,rfl,C,l,rfl⟩:=hrel;by_cases d:k<n.length
 ·obtain⟨y,rfl,s,w,-⟩:=q.o.2 k n[k] (Ub d);have c:Xr _:=FE n k d;have u:(k:Int)<n.length:=by omega
  rw[<-l.o]at c;generalize n[k]=t at *;obtain⟨j,G,E,F,D⟩:=t;simp only at w c;cases f:(j.toList == [36,123])
  ·cases a:(j.toList == [36,125])
   ·have b:Xr (m=kc (n.take (k+1))):=(by show _=_;rw[c.o,aP,f,a];simp);go_wp2;go_roundg (n.length-(k+1))
    ·exact⟨k+1,m,by omega,rfl,rfl,by go_num,by omega,b,rfl⟩
    omega
   ·have b:Xr (m-1=kc (n.take (k+1))):=(by show _=_;rw[c.o,aP,f,a];simp);go_wp2;go_roundg (n.length-(k+1))
    ·exact⟨k+1,m-1,by omega,rfl,by go_num,by go_num,by omega,b,rfl⟩
    omega
  ·cases a:(j.toList == [36,125])
   ·have b:Xr (m+1=kc (n.take (k+1))):=(by show _=_;rw[c.o,aP,f,a];simp);go_wp2;go_roundg (n.length-(k+1))
    ·exact⟨k+1,m+1,by omega,rfl,by go_num,by go_num,by omega,b,rfl⟩
    omega
   ·have r:j.toList=[36,123]:=(by simpa using f);rw[r]at a;exact absurd a (by decide)
 ·have e:k=n.length:=by omega
  subst e;rw[Vk]at l;go_wp2;go_ret;exact⟨T0 l.o,rfl⟩
theorem Br(l:n.length<=100000)(j:lX H M T n) :
  Calls prog 118 #[slice M n.length T] H fun e w=>e=returned (bool (dG n))/\w=H:=by
 have g:=j.1;have d:Xr _:=FD n M T H l j;obtain⟨a,c⟩:=bm (n.length);rw[c.o]at l g d ⊢;by_cases k:a=0
 ·have f:Xr (dG n=true):=by
   show _=_;have:n=[]:=UI (by rw[c.o,k]);rw[this];rfl
  subst k;go_enter func118,ntmps118;go_wp2;go_ret;exact⟨aE f.o.symm,rfl⟩
 ·have i:a-1<n.length:=by rw[c.o];omega
  obtain⟨C,rfl,p,u,-⟩:=j.2 (a-1) n[a-1] (Ub i);have f:Xr (dG n=(cd n[a-1].s&&(kc n==0))):=by
   show _=_;unfold dG;rw[V8,c.o,Ub i]
  generalize n[a-1]=t at *;obtain⟨v,I,F,G,E⟩:=t;simp only at u f;have r:IntKind.i64.wrap ((a:Int)-1)=(a:Int)-1:=by rw[Vv];omega
  have q:((a:Int)-1).toNat=a-1:=by omega
  have y:(0:Int)<=(a:Int)-1:=by omega
  have z:(a:Int)-1<(a:Int):=by omega
  have A:(1:Int)<=(a:Int):=by omega
  have B:((a:Int)==0)=false:=by simpa using k
  obtain⟨D,m⟩:=bm (kc n);rw[m.o]at f d;go_enter func118,ntmps118;go_wp2_with (first | (go_at_call 168;refine(Ug d.o ?_);rintro e x ⟨rfl,b⟩;rw[b];clear b) | (go_at_call 85;refine(ve v _).mono ?_;rintro e x ⟨rfl,b⟩;rw[b];clear b))
  all_goals go_ret
  all_goals (refine⟨aE ?_,rfl⟩;rw[f.o];simp[*])
theorem vW(j:n.length<=100000)(g:lX H M T n) :
  Calls prog 84 #[slice M n.length T] H fun e q=>e=returned (bool (fm n))/\q=H:=by
 have c:=g.1;obtain⟨a,b⟩:=bm (n.length);rw[b.o]at j c ⊢;by_cases i:a=0
 ·have f:Xr (fm n=false):=by
   show _=_;have:n=[]:=UI (by rw[b.o,i]);rw[this];rfl
  subst i;go_enter func84,ntmps84;go_wp2;go_ret;exact⟨aE f.o.symm,rfl⟩
 ·have d:a-1<n.length:=by rw[b.o];omega
  obtain⟨w,rfl,k,-,p,-⟩:=g.2 (a-1) n[a-1] (Ub d);have f:Xr (fm n=!(n[a-1].YE==0)):=by
   show _=_;unfold fm;rw[V8,b.o,Ub d]
  generalize n[a-1]=t at *;obtain⟨B,A,y,z,x⟩:=t;simp only at p f;have m:IntKind.i64.wrap ((a:Int)-1)=(a:Int)-1:=by rw[Vv];omega
  have l:((a:Int)-1).toNat=a-1:=by omega
  have r:(0:Int)<=(a:Int)-1:=by omega
  have s:(a:Int)-1<(a:Int):=by omega
  have u:(1:Int)<=(a:Int):=by omega
  have v:0<a:=by omega
  go_enter func84,ntmps84;go_wp2
  all_goals go_ret
  all_goals (refine⟨aE ?_,rfl⟩;rw[f.o];first | rfl | simp[*])
def om(w:World)(ao:Xu)(cap:Nat)(fs:Fs):Prop:=fs.length<=cap/\∀k,k<fs.length->∃g,ao=some ⟨g,0,none⟩/\g<w.heap.size/\w.cell? ⟨g,k*2,none⟩=some (string (aF fs k))/\w.cell? ⟨g,k*2+1,none⟩=some (string (ak fs k))
theorem om.Yh(h:om f y4 x y5)(k:ae [] f S):om S y4 x y5:=by
 refine⟨h.1,fun j d=>?_⟩;obtain⟨g,e,a,b,c⟩:=h.2 j d;have q:∀o,S.cell? ⟨g,o,none⟩=f.cell? ⟨g,o,none⟩:=fun o=>Uw (k.block g a (by simp));exact⟨g,e,Ul a k.size,by rw[q];exact b,by rw[q];exact c⟩
set_option maxRecDepth 512
theorem nD(s:d.length<=100000)(j:om H M z5 d) :
  Calls prog 36 #[slice M d.length z5,string b] H fun e q=>e=returned (int i64 (bR d b))/\q=H:=by
 have m:Xr _:=j;clear j;go_enter func36,ntmps36;go_wp2
 go_loopg [5] d.length (fun g i wr=>∃k:Nat,k<=d.length/\g=d.length-k/\i=int i64 k/\Xr (bR d b=dP b (d.drop k) k)/\wr=H)
 ·exact⟨0,by omega,by omega,rfl,rfl,rfl⟩
 obtain⟨k,u,t,rfl,a,rfl⟩:=hrel;by_cases c:k<d.length
 ·obtain⟨r,rfl,n,v,w⟩:=m.o.2 k c;have p:(k:Int)<d.length:=by omega
  cases l:((aF d k).toList==b.toList)
  ·have f:Xr (bR d b=dP b (d.drop (k+1)) (k+1)):=Ai d b k c a.o l;clear a;go_wp2;go_roundg (d.length-(k+1))
   ·exact⟨k+1,by omega,rfl,by go_num,f,rfl⟩
   omega
  ·have f:Xr (bR d b=k):=Du d b k c a.o l;clear a;go_wp2;go_ret;exact⟨T0 f.o.symm,rfl⟩
 ·have f:Xr (bR d b=-1):=Aj d b k c a.o;clear a;go_wp2;go_ret;exact⟨T0 f.o.symm,rfl⟩
def dL(fs:Fs)(s:Xs)(r:Int):Int :=
 if(r==0)=false then r else if(s.toList == [])=true then 7 else if io s ⟨#[36]⟩=true then 5 else if bR fs s<0 then 6 else 0
def eC(s:Xs)(r:Int):Int :=
 if(r==0)=false then r else if(s.toList == [])=true then 7 else if(s.toList == [36,93])=false then 5 else 0
set_option maxRecDepth 100000
theorem Da :
  Calls prog 120 #[agg #[string l,int i64 g,string b,int i64 s,int i64 o]] H fun e j=>e=returned (agg #[string ⟨#[]⟩,int i64 (eC l g),string b,int i64 s,int i64 o])/\ae [] H j:=by
 cases d:(g==0)
 ·have a:Xr (eC l g=g):=by show _=_;unfold eC;rw[Uf d]
  rw[a.o];go_enter func120,ntmps120;go_wp2;exact Um (v:=agg #[string ⟨#[]⟩,int i64 g,string b,int i64 s,int i64 o]) (by simp[results,results120,go_sem]) rfl ⟨rfl,((ae.refl _ _).alloc _).alloc _⟩
 ·have f:g=0:=by simpa using d
  subst f;clear d;cases c:(l.toList == [])
  ·cases i:(l.toList == [36,93])
   ·have a:Xr (eC l 0=5):=(by show _=_;unfold eC;rw[Ud (by simp),Ud (by rw[c];simp),Uf i]);rw[a.o];go_enter func120,ntmps120;go_wp2;exact Um (v:=agg #[string ⟨#[]⟩,int i64 5,string b,int i64 s,int i64 o]) (by simp[results,results120,go_sem]) rfl ⟨rfl,((ae.refl _ _).alloc _).alloc _⟩
   ·have a:Xr (eC l 0=0):=(by show _=_;unfold eC;rw[Ud (by simp),Ud (by rw[c];simp),Ud (by rw[i];simp)]);rw[a.o];go_enter func120,ntmps120;go_wp2;exact Um (v:=agg #[string ⟨#[]⟩,int i64 0,string b,int i64 s,int i64 o]) (by simp[results,results120,go_sem]) rfl ⟨rfl,((ae.refl _ _).alloc _).alloc _⟩
  ·have a:Xr (eC l 0=7):=(by show _=_;unfold eC;rw[Ud (by simp),Uf c]);rw[a.o];go_enter func120,ntmps120;go_wp2;exact Um (v:=agg #[string ⟨#[]⟩,int i64 7,string b,int i64 s,int i64 o]) (by simp[results,results120,go_sem]) rfl ⟨rfl,((ae.refl _ _).alloc _).alloc _⟩
theorem Gf(x:d.length<=100000)(y:om H M z5 d)(z:l.size<=1073741824) :
  Calls prog 119 #[slice M d.length z5,agg #[string l,int i64 g,string b,int i64 s,int i64 o]] H fun e t=>e=returned (agg #[string ⟨#[]⟩,int i64 (dL d l g),string b,int i64 s,int i64 o])/\ae [] H t:=by
 have c:Xr (∀m,ae [] H m->Calls prog 36 #[slice M d.length z5,string l] m fun e t=>e=returned (int i64 (bR d l))/\t=m):=fun m k=>nD d M z5 l m x (y.Yh k);obtain⟨w,j⟩:=bm (bR d l);rw[j.o]at c;cases q:(g==0)
 ·have f:Xr (dL d l g=g):=by show _=_;unfold dL;rw[Uf q]
  rw[f.o];go_enter func119,ntmps119;go_wp2_with (first | (go_at_call 121;refine(go l _ _ (by omega) (by show 1<=_;omega)).mono ?_;rintro e i ⟨rfl,a⟩;rw[a];clear a) | (go_at_call 36;refine(c.o _ (by exact((ae.refl [] H).alloc _).alloc _)).mono ?_;rintro e i ⟨rfl,a⟩;rw[a];clear a));exact Um (v:=agg #[string ⟨#[]⟩,int i64 g,string b,int i64 s,int i64 o]) (by simp[results,results119,go_sem]) rfl ⟨rfl,((ae.refl _ _).alloc _).alloc _⟩
 ·have r:g=0:=by simpa using q
  subst r;clear q;cases n:(l.toList == [])
  ·cases p:io l ⟨#[36]⟩
   ·by_cases u:w<0
    ·have f:Xr (dL d l 0=6):=(by show _=_;unfold dL;rw[Ud (by simp),Ud (by rw[n];simp),Ud (by rw[p];simp),j.o,Uf u]);rw[f.o];go_enter func119,ntmps119;go_wp2_with (first | (go_at_call 121;refine(go l _ _ (by omega) (by show 1<=_;omega)).mono ?_;rintro e i ⟨rfl,a⟩;rw[a];clear a) | (go_at_call 36;refine(c.o _ (by exact((ae.refl [] H).alloc _).alloc _)).mono ?_;rintro e i ⟨rfl,a⟩;rw[a];clear a));exact Um (v:=agg #[string ⟨#[]⟩,int i64 6,string b,int i64 s,int i64 o]) (by simp[results,results119,go_sem]) rfl ⟨rfl,((ae.refl _ _).alloc _).alloc _⟩
    ·have f:Xr (dL d l 0=0):=(by show _=_;unfold dL;rw[Ud (by simp),Ud (by rw[n];simp),Ud (by rw[p];simp),j.o,Ud u]);rw[f.o];go_enter func119,ntmps119;go_wp2_with (first | (go_at_call 121;refine(go l _ _ (by omega) (by show 1<=_;omega)).mono ?_;rintro e i ⟨rfl,a⟩;rw[a];clear a) | (go_at_call 36;refine(c.o _ (by exact((ae.refl [] H).alloc _).alloc _)).mono ?_;rintro e i ⟨rfl,a⟩;rw[a];clear a));exact Um (v:=agg #[string ⟨#[]⟩,int i64 0,string b,int i64 s,int i64 o]) (by simp[results,results119,go_sem]) rfl ⟨rfl,((ae.refl _ _).alloc _).alloc _⟩
   ·have f:Xr (dL d l 0=5):=(by show _=_;unfold dL;rw[Ud (by simp),Ud (by rw[n];simp),Uf p]);rw[f.o];go_enter func119,ntmps119;go_wp2_with (first | (go_at_call 121;refine(go l _ _ (by omega) (by show 1<=_;omega)).mono ?_;rintro e i ⟨rfl,a⟩;rw[a];clear a) | (go_at_call 36;refine(c.o _ (by exact((ae.refl [] H).alloc _).alloc _)).mono ?_;rintro e i ⟨rfl,a⟩;rw[a];clear a));exact Um (v:=agg #[string ⟨#[]⟩,int i64 5,string b,int i64 s,int i64 o]) (by simp[results,results119,go_sem]) rfl ⟨rfl,((ae.refl _ _).alloc _).alloc _⟩
  ·have f:Xr (dL d l 0=7):=(by show _=_;unfold dL;rw[Ud (by simp),Uf n]);rw[f.o];go_enter func119,ntmps119;go_wp2_with (first | (go_at_call 121;refine(go l _ _ (by omega) (by show 1<=_;omega)).mono ?_;rintro e i ⟨rfl,a⟩;rw[a];clear a) | (go_at_call 36;refine(c.o _ (by exact((ae.refl [] H).alloc _).alloc _)).mono ?_;rintro e i ⟨rfl,a⟩;rw[a];clear a));exact Um (v:=agg #[string ⟨#[]⟩,int i64 7,string b,int i64 s,int i64 o]) (by simp[results,results119,go_sem]) rfl ⟨rfl,((ae.refl _ _).alloc _).alloc _⟩
def wC(L:List Tk):Prop:=∃t,L.getLast?=some t/\(t.s.toList == [])=true
theorem wC.next(h:wC i)(b:Nat)(t:Tk)(c:i[b]?=some t)(d:(t.s.toList == [])=false):b+1<i.length:=by
 obtain⟨u,a,f⟩:=h;obtain⟨g,-⟩:=Uk.1 c;rw[V8]at a;by_cases e:b=i.length-1
 ·rw[<-e,c]at a;cases a
  rw[f]at d;cases d
 ·omega
theorem u9{t:Tk}(h:wC i):wC (t :: i):=by
 obtain⟨u,b,c⟩:=h;cases i with
 | nil=>cases b
 | cons a r=>exact⟨u,by rw[XW];exact b,c⟩
theorem pT:((⟨#[]⟩:Xs).toList == [])=true:=by decide +kernel
theorem Dn:wC [⟨⟨#[]⟩,g,b,s,o⟩]:=⟨_,rfl,pT⟩
theorem L9:wC (iZ l b):=by
 unfold iZ;split
 ·exact⟨_,Wg,pT⟩
 ·exact⟨_,Wg,pT⟩
theorem JK(b:Bool)(L:List Tk)(h:wC L):wC (b7 b L):=by
 induction L generalizing b with
 | nil=>obtain⟨u,c,-⟩:=h;cases c
 | cons t r g =>
  cases r with
  | nil =>
   obtain⟨u,c,d⟩:=h;have e:u=t:=(by simpa using c.symm);subst e;have i:u.s.toList=[]:=by simpa using d
   cases b
   ·rw[b7,Ud (by unfold Fd;rw[i];decide)];exact⟨u,rfl,d⟩
   ·rw[b7];split
    ·exact⟨u,rfl,d⟩
    ·rw[Ud (by unfold Fd;rw[i];decide),Uf (by unfold Fd;exact d)];exact Dn _ _ _ _
  | cons a r =>
   have f:wC (a :: r):=by
    obtain⟨u,c,d⟩:=h;exact⟨u,by rw[XW]at c;exact c,d⟩
   cases b
   ·rw[b7];split
    ·exact g true f
    ·exact u9 (g false f)
   ·rw[b7];split
    ·exact u9 (g true f)
    ·split
     ·exact g false f
     ·split
      ·exact u9 (g true f)
      ·split
       ·exact Dn _ _ _ _
       ·exact g true f
def sB(fs:Fs)(k:Nat):List Tk:=b7 false (iZ (aF fs k) (ak fs k))
theorem ON:wC (sB d T):=JK _ _ (L9 _ _)
theorem EU:(sB d T).length<=(ak d T).size+2:=Un (MI _ _) (Bc _ _)
def so(t:Tk)(r:Int):Tk:=⟨⟨#[]⟩,r,t.YB,t.YC,t.YD⟩
def di(rec:Nat->List Bool->List Tk->List Tk×List Bool)(fs:Fs):List Tk->List Bool->List Tk->List Tk×List Bool
 | [],sn,out=>(out,sn)
 | t :: r,sn,out =>
  if((t.YE==0)&&(t.s.toList == []))=true then((if dG out=true then out else out++[so t 7]),sn)
  else if(t.s.toList == [36,91])=false then di rec fs r sn (out++[t])
  else if dG out=false then(out++[so t 4],sn)
  else match r with
   | a :: b :: r' =>
    if(dL fs a.s a.YE==0)=false then(out++[so a (dL fs a.s a.YE)],sn)
    else if(eC b.s b.YE==0)=false then(out++[so b (eC b.s b.YE)],sn)
    else if sn.getD (bR fs a.s).toNat true=true then di rec fs r' sn out
    else if fm (rec (bR fs a.s).toNat sn out).1=true then rec (bR fs a.s).toNat sn out
    else di rec fs r' (rec (bR fs a.s).toNat sn out).2 (rec (bR fs a.s).toNat sn out).1
   | [a]=>(out++[so a (dL fs a.s a.YE)],sn)
   | []=>(out,sn)
def eU(fs:Fs):Nat->Nat->List Bool->List Tk->List Tk×List Bool
 | 0,_,sn,out=>(out,sn)
 | n+1,k,sn,out=>di (eU fs n) fs (sB fs k) (sn.set k true) out
def aU(sn:List Bool):Nat:=sn.countP (fun b=>!b)
theorem mm(a:List Bool)(k:Nat)(h:a[k]?=some false):aU (a.set k true)+1=aU a:=by
 unfold aU
 induction a generalizing k with
 | nil=>cases h
 | cons b r c =>
  cases k with
  | zero =>
   simp at h;subst h;simp
  | succ k =>
   have:=c k (by simpa using h);rw[Wb,List.countP_cons,List.countP_cons];omega
def j9(w:World)(g:Nat)(sn:List Bool):Prop:=w.heap[g]?=some (.cells (sn.map bool).toArray 4)
theorem j9.cell(h:j9 f x z4)(k:Nat)(b:Bool)(a:z4[k]?=some b):f.cell? ⟨x,k,none⟩=some (bool b):=by
 rw[ah h];simp[a]
theorem j9.Yu(h:j9 f x z4)(k:ae y6 f S)(a:x∉y6):j9 S x z4:=k.get h a
theorem j9.set(h:j9 f x z4)(k:Nat):j9 (f.setCell ⟨x,k,none⟩ (bool true)) x (z4.set k true):=by
 unfold j9;rw[ab h];simp[List.map_set]
theorem G7(a:List Bool)(k:Nat)(h:a[k]?=some false):0<aU a:=by
 have:=mm a k h;omega
structure zv(w w':World)(gs:Nat)(h h':Hd):Prop where
 Yu:ae (gs :: h.Yv.toList) w w'
 Yv:h'.Yv=h.Yv∨∃g,h'.Yv=some g/\w.heap.size<=g
theorem zv.of(g:bJ f S y t):zv f S x y t:=⟨g.Yu.mono (fun _ a _=>UM _ a),g.Yv⟩
theorem zv.trans{w1:World}(a:zv f w1 x y t)(b:zv w1 S x t zt):zv f S x y zt:=by
 refine⟨⟨b.Yu.os.trans a.Yu.os,b.Yu.tape.trans a.Yu.tape,b.Yu.output.trans a.Yu.output,Un a.Yu.size b.Yu.size,fun k l i=>?_⟩,?_⟩
 ·rw[b.Yu.block k (Ul l a.Yu.size) (fun j=>?_),a.Yu.block k l i];rcases UH.1 j with e | j
  ·exact i (by rw[e];simp)
  ·have e:=aR j;rcases a.Yv with c | ⟨g,c,d⟩
   ·exact i (UM _ (by rw[<-c,e];simp))
   ·rw[c]at e;cases e;omega
 ·rcases b.Yv with e | ⟨g,e,d⟩
  ·rcases a.Yv with c | ⟨g,c,d⟩
   ·exact Us (e.trans c)
   ·exact Uo ⟨g,e.trans c,d⟩
  ·exact Uo ⟨g,e,Un a.Yu.size d⟩
structure wE(w:World)(gf cap:Nat)(fs:Fs)(gs:Nat)(sn:List Bool)(h:Hd)(O:List Tk):Prop where
 YF:aB w h (jq O)
 seen:j9 w gs sn
 src:om w (some ⟨gf,0,none⟩) cap fs
 a1:h.Yv≠some gs
 a2:h.Yv≠some gf
 a3:gf≠gs
 lt:gf<w.heap.size
theorem om.Yu(h:om f (some ⟨x,0,none⟩) y7 y5)(k:ae y6 f S)(i:x∉y6):om S (some ⟨x,0,none⟩) y7 y5:=by
 refine⟨h.1,fun j l=>?_⟩;obtain⟨g,e,a,b,c⟩:=h.2 j l;have d:g=x:=by cases e;rfl
 subst d;have q:∀o,S.cell? ⟨g,o,none⟩=f.cell? ⟨g,o,none⟩:=fun o=>Uw (k.block g a i);exact⟨g,rfl,Ul a k.size,by rw[q];exact b,by rw[q];exact c⟩
section
variable {w w':World} {gf cap:Nat} {fs:Fs} {gs:Nat} {sn sn':List Bool} {h h':Hd} {O O':List Tk}
theorem wE.Yh(a:wE w gf cap fs gs sn h O)(k:ae [] w w'):wE w' gf cap fs gs sn h O :=
 ⟨a.YF.Yh k,a.seen.Yu k (by simp),a.src.Yu k (by simp),a.a1,a.a2,a.a3,Ul a.lt k.size⟩
theorem wE.far(a:wE w gf cap fs gs sn h O)(r:zv w w' gs h h'):h'.Yv≠some gs/\h'.Yv≠some gf:=by
 have c:=aj a.seen;have d:=a.lt;rcases r.Yv with e | ⟨g,e,b⟩
 ·rw[e];exact⟨a.a1,a.a2⟩
 ·rw[e];exact⟨fun q=>by cases q;omega,fun q=>by cases q;omega⟩
theorem wE.turn(a:wE w gf cap fs gs sn h O)(r:zv w w' gs h h')(o:aB w' h' (jq O'))(s:j9 w' gs sn'):wE w' gf cap fs gs sn' h' O':=by
 obtain⟨c,d⟩:=a.far r;refine⟨o,s,a.src.Yu r.Yu (fun b=>?_),c,d,a.a3,Ul a.lt r.Yu.size⟩;rcases UH.1 b with e | b
 ·exact a.a3 e
 ·exact a.a2 (aR b)
end
theorem LZ:(b.extract k T).size<=b.size:=by rw[Wv];omega
theorem zq(h:∀t∈m,t.s.size<=b.size):∀t∈jV l b k T m,t.s.size<=b.size:=by
 intro t a;unfold jV at a;split at a
 ·exact h t a
 ·rcases UG.1 a with a | a
  ·exact h t a
  ·rw[Uq.1 a];exact LZ b k T
theorem A7(i:Nat):∀t∈jU l b i,t.s.size<=b.size:=by
 induction i with
 | zero=>intro t c;cases c
 | succ i a =>
  rw[jU];split
  ·exact zq l b _ _ _ a
  ·exact a
theorem zu:∀t∈iZ l b,t.s.size<=b.size:=by
 intro t a;unfold iZ at a;split at a
 ·rcases UG.1 a with a | a
  ·exact A7 l b _ t a
  ·rw[Uq.1 a];exact UF _
 ·rcases UG.1 a with a | a
  ·exact zq l b _ _ _ (A7 l b _) t a
  ·rw[Uq.1 a];exact UF _
theorem JM(b:Bool)(L:List Tk)(h:∀t∈L,t.s.size<=T):∀t∈b7 b L,t.s.size<=T:=by
 induction L generalizing b with
 | nil=>intro t c;cases b <;> simp[b7]at c
 | cons a r g =>
  have d:=fun b=>g b (fun t c=>h t (UM _ c));have f:=h a (by simp);intro t c;cases b
  ·rw[b7]at c;split at c
   ·exact d _ t c
   ·rcases UH.1 c with e | c
    ·rw[e];exact f
    ·exact d _ t c
  ·rw[b7]at c;split at c
   ·rcases UH.1 c with e | c
    ·rw[e];exact f
    ·exact d _ t c
   ·split at c
    ·exact d _ t c
    ·split at c
     ·rcases UH.1 c with e | c
      ·rw[e];exact UF _
      ·exact d _ t c
     ·split at c
      ·rw[Uq.1 c];exact UF _
      ·exact d _ t c
theorem LQ:∀t∈sB d T,t.s.size<=(ak d T).size:=JM _ _ _ (zu _ _)
end Go.Proofs.YtnbhnocdhbcbcaaGreat
