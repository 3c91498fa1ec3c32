import Derived.Deep.RegionHeld3
import Derived.Laws.OwnMore
import Derived.Test.YtpddjjabfbfifaaGreatG02
namespace Go.Proofs.YtpddjjabfbfifaaGreat
open Go.RowKit Tryz
set_option maxRecDepth 100000
set_option maxHeartbeats 40000000
variable{H T z1:World}{a L:ByteArray}{S ya:Nat}{y g y3:Hd}{y2:dN}{z5:Array Oper}{y4:List Oper}{i:Oper}{o:Act}{z6:Exit->Act->World->Prop}{z0:Program}{y5:Act->World->Prop}{d y6:List Tk}{y7:Option Addr}{y8:Fs}{z7:List Bool}{y9:List Nat}(v:Fs)(f:List Tk)(D:Option Addr)(zb:Nat)(z3:World)(b w:ByteArray)(I N k:Int)(x n:Nat)(M:List Tk)(z4:Hd)(l:World)(zt:Tk)
theorem rk :
  Calls prog 164 #[.int .u8 k] l fun e a=>e=.returned (.bool (cO k))/\a=l:=by
 go_enter func164,ntmps164;go_wp2
 all_goals go_ret
 all_goals (refine⟨?_,rfl⟩;first | (simp[cO, *];done) | (simp[cO, *,Bool.or_assoc];rw[Bool.or_comm (k==13)]))
theorem lu :
  Calls prog 78 #[.int .u8 k] l fun e a=>e=.returned (.bool (fn k))/\a=l:=by
 go_enter func78,ntmps78;go_wp2
 all_goals go_ret
 all_goals (refine⟨?_,rfl⟩;first | (simp[fn, *];done) | (simp[fn];omega) | (rename_i h;simp only[fn];rw[show decide (33<=k)=true by simp;omega];simp;omega))
theorem fF(s:b.size<=4294967296)(r:w.size<=4294967296) :
  Calls prog 120 #[.string b,.string w] l fun e n=>e=.returned (.bool (ii b w))/\n=l:=by
 go_enter func120,ntmps120;go_wp2
 go_loopg [5] (b.size+1) (fun g i wr=>∃k:Nat,k<=b.size+1/\g=b.size+1-k/\i=.int .i64 k/\Hid (∀i,i<k->i+w.size<=b.size->rO b w i=false)/\wr=l)
 case atStart=>exact⟨0,by omega,by omega,rfl,fun i h=>by omega,rfl⟩
 case round =>
  obtain⟨k,t,u,rfl,a,rfl⟩:=hrel
  by_cases d:k+w.size<=b.size
  ·have q:(k:Int)<=(k:Int)+(w.size:Int):=by omega
   have m:(k:Int)+(w.size:Int)<=(b.size:Int):=by omega
   have p:((k:Int)+(w.size:Int)).toNat=k+w.size:=by omega
   cases j:((b.extract k (k+w.size)).toList==w.toList)
   ·go_wp2
    go_roundg (b.size+1-(k+1))
    case measure=>omega
    case rel =>
     refine⟨k+1,by omega,rfl,by go_num,?_,rfl⟩;intro i o c
     by_cases e:i=k
     ·subst e;exact j
     ·exact a.out i (by omega) c
   ·have f:Hid (ii b w=true):=mZ k (by omega) (by simp[d,rO,j])
    go_wp2;go_ret;exact⟨aD f.out.symm,rfl⟩
  ·have f:Hid (ii b w=false):=vH (fun i o=>by
    by_cases c:i+w.size<=b.size
    ·simp[a.out i (by omega) c]
    ·simp[c])
   go_wp2;go_ret;exact⟨aD f.out.symm,rfl⟩
structure uX(w wr:World)(nm d:ByteArray)(j:Nat):Prop where
 f:wr.heap[w.heap.size]?=some (.cells #[.string nm,.string d] 68 (0,0))
 r:wr.heap[w.heap.size+1]?=some (.cells #[.string ⟨#[]⟩,.int .i64 0,.int .i64 0] 36 (0,0))
 p:wr.heap[w.heap.size+2]?=some (.cells #[.string nm,.int .i64 (aP d j),.int .i64 (bm d j)] 36 (0,0))
 kept:ab [] w wr
theorem uX.start:uX z3 (((z3.alloc (.cells #[.string b,.string w] 68)).alloc (.cells #[.string ⟨#[]⟩,.int .i64 0,.int .i64 0] 36)).alloc (.cells #[.string b,.int .i64 1,.int .i64 1] 36)) b w 0:=by
 have g:=(ab.refl [] z3).alloc (.cells #[.string b,.string w] 68);have c:=(ab.refl [] (z3.alloc (.cells #[.string b,.string w] 68))).alloc (.cells #[.string ⟨#[]⟩,.int .i64 0,.int .i64 0] 36);have a:=(ab.refl [] ((z3.alloc (.cells #[.string b,.string w] 68)).alloc (.cells #[.string ⟨#[]⟩,.int .i64 0,.int .i64 0] 36))).alloc (.cells #[.string b,.int .i64 1,.int .i64 1] 36);have e:(z3.alloc (.cells #[.string b,.string w] 68)).heap[z3.heap.size]?=some (.cells #[.string b,.string w] 68 (0,0)):=QS _ _;have d:=QS (z3.alloc (.cells #[.string b,.string w] 68)) (.cells #[.string ⟨#[]⟩,.int .i64 0,.int .i64 0] 36);have f:=QS ((z3.alloc (.cells #[.string b,.string w] 68)).alloc (.cells #[.string ⟨#[]⟩,.int .i64 0,.int .i64 0] 36)) (.cells #[.string b,.int .i64 1,.int .i64 1] 36);refine⟨a.get (c.get e (by simp)) (by simp),a.get (by simpa using d) (by simp),by simpa [aP,bm] using f,(g.trans c).trans a⟩
theorem uX.other(h:uX H T a L S)(b:(aF L S==10)=false):uX H (T.setCell ⟨H.heap.size+1+1,2,none⟩ (.int .i64 (bm L S+1))) a L (S+1):=by
 have k:ab [H.heap.size+1+1] T (T.setCell ⟨H.heap.size+1+1,2,none⟩ (.int .i64 (bm L S+1))):=(ab.refl _ _).setCell (Q1 (by simp)) _;refine⟨k.get h.f (by simp;omega),k.get h.r (by simp),?_,h.kept.setCell (QV (by show _<=H.heap.size+1+1;omega)) _⟩;rw[ah h.p];simp[aP,bm,b]
theorem uX.lf(h:uX H T a L S)(b:(aF L S==10)=true):uX H (((T.setCell ⟨H.heap.size+1+1,2,none⟩ (.int .i64 (bm L S+1))).setCell ⟨H.heap.size+1+1,1,none⟩ (.int .i64 (aP L S+1))).setCell ⟨H.heap.size+1+1,2,none⟩ (.int .i64 1)) a L (S+1):=by
 have k:ab [H.heap.size+1+1] T (((T.setCell ⟨H.heap.size+1+1,2,none⟩ (.int .i64 (bm L S+1))).setCell ⟨H.heap.size+1+1,1,none⟩ (.int .i64 (aP L S+1))).setCell ⟨H.heap.size+1+1,2,none⟩ (.int .i64 1)):=(((ab.refl _ _).setCell (Q1 (by simp)) _).setCell (Q1 (by simp)) _).setCell (Q1 (by simp)) _;refine⟨k.get h.f (by simp;omega),k.get h.r (by simp),?_,((h.kept.setCell (QV (by show _<=H.heap.size+1+1;omega)) _).setCell (QV (by show _<=H.heap.size+1+1;omega)) _).setCell (QV (by show _<=H.heap.size+1+1;omega)) _⟩;rw[ah (ah (ah h.p 2 _) 1 _) 2 _];simp[aP,bm,b]
theorem rI(K:n<=w.size)(D:w.size<=1073741824) :
  Calls prog 165 #[.agg #[.string b,.string w],.int .i64 n] l fun e s=>e=.returned (.agg #[.string b,.int .i64 (aP w n),.int .i64 (bm w n)])/\ab [] l s:=by
 go_enter func165,ntmps165;go_wp2
 go_loopg [6] n (fun g i wr=>∃j:Nat,j<=n/\g=n-j/\i=.int .i64 j/\Hid (uX l wr b w j))
 case atStart=>exact⟨0,by omega,rfl,rfl,uX.start l b w⟩
 case round =>
  obtain⟨j,P,S,rfl,c⟩:=hrel;have y:=c.out.f;have a:=c.out.r;have d:=c.out.p;have F:=ae d;have C:wr.cell? ⟨l.heap.size,1,none⟩=some (.string w):=by rw[aa y];rfl
  have J:wr.cell? ⟨l.heap.size+2,0,none⟩=some (.string b):=by rw[aa d];rfl
  have R:wr.cell? ⟨l.heap.size+2,1,none⟩=some (.int .i64 (aP w j)):=by rw[aa d];rfl
  have H:wr.cell? ⟨l.heap.size+2,2,none⟩=some (.int .i64 (bm w j)):=by rw[aa d];rfl
  have Q:=am d 1;have U:=am d 2;have M:=am a 0;have G:=am a 1;have T:=am a 2;have O:wr.cell? ⟨l.heap.size+1,0,none⟩=some (.string ⟨#[]⟩):=by rw[aa a];rfl
  have E:wr.cell? ⟨l.heap.size+1,1,none⟩=some (.int .i64 0):=by rw[aa a];rfl
  have N:wr.cell? ⟨l.heap.size+1,2,none⟩=some (.int .i64 0):=by rw[aa a];rfl
  have I:=Ai w j;have L:=zL w j
  by_cases u:j<n
  ·have h:j<w.size:=by omega
   cases m:((w[j].toNat:Int)==10)
   ·have k:Hid (uX l _ b w (j+1)):=c.out.other (by rw[bP w j h];exact m)
    go_wp2
    go_roundg (n-(j+1))
    case measure=>omega
    case rel=>exact⟨j+1,by omega,rfl,by go_num,k.out⟩
   ·have k:Hid (uX l _ b w (j+1)):=c.out.lf (by rw[bP w j h];exact m)
    go_wp2
    go_roundg (n-(j+1))
    case measure=>omega
    case rel=>exact⟨j+1,by omega,rfl,by go_num,k.out⟩
  ·have e:j=n:=by omega
   subst e;have x:=hI c.out.kept;go_wp2;have q:=ah a 0 (.string b);have o:=ah q 1 (.int .i64 (aP w j));have B:=ah o 2 (.int .i64 (bm w j));have t:(wr.setCell ⟨l.heap.size+1,0,none⟩ (.string b)).cell? ⟨l.heap.size+1,0,none⟩=some (.string b):=by rw[aa q];rfl
   have z:((wr.setCell ⟨l.heap.size+1,0,none⟩ (.string b)).setCell ⟨l.heap.size+1,1,none⟩ (.int .i64 (aP w j))).cell? ⟨l.heap.size+1,1,none⟩=some (.int .i64 (aP w j)):=by rw[aa o];rfl
   have A:(((wr.setCell ⟨l.heap.size+1,0,none⟩ (.string b)).setCell ⟨l.heap.size+1,1,none⟩ (.int .i64 (aP w j))).setCell ⟨l.heap.size+1,2,none⟩ (.int .i64 (bm w j))).cell? ⟨l.heap.size+1,2,none⟩=some (.int .i64 (bm w j)):=by rw[aa B];rfl
   exact QY (v:=.agg #[.string b,.int .i64 (aP w j),.int .i64 (bm w j)]) (by simp[results,results165,go_sem,t,z,A]) rfl ⟨rfl,((x.out.setCell (QV (by simp)) _).setCell (QV (by simp)) _).setCell (QV (by simp)) _⟩
structure bt(w w':World)(h h':Hd):Prop where
 kept:ab h.blk.toList w w'
 blk:h'.blk=h.blk∨∃g,h'.blk=some g/\w.heap.size<=g
theorem aN(a:S∈y.blk.toList):y.blk=some S:=by
 cases e:y.blk with
 | none=>rw[e]at a;simp at a
 | some b=>rw[e]at a;simp at a;rw[a]
theorem bt.Vb(k:ab [] H T):bt H T y y:=⟨k.mono (by simp),Q1 rfl⟩
theorem bt.trans{w1:World}(a:bt H w1 y g)(b:bt w1 T g y3):bt H T y y3:=by
 refine⟨⟨b.kept.os.trans a.kept.os,b.kept.tape.trans a.kept.tape,b.kept.output.trans a.kept.output,Q3 a.kept.size b.kept.size,fun k i h=>?_⟩,?_⟩
 ·rw[b.kept.block k (QX i a.kept.size) (fun j=>?_),a.kept.block k i h]
  have e:=aN j
  rcases a.blk with c | ⟨f,c,d⟩
  ·exact h (by rw[<-c,e];simp)
  ·rw[c]at e;cases e;omega
 ·rcases b.blk with e | ⟨f,e,d⟩
  ·rcases a.blk with c | ⟨f,c,d⟩
   ·exact Q1 (e.trans c)
   ·exact QV ⟨f,e.trans c,d⟩
  ·exact QV ⟨f,e,Q3 a.kept.size d⟩
theorem bt.made(a:H.grownBy T y.blk)(d:y.blk=some S∨H.heap.size<=S):bt H T y ⟨some ⟨S,0,none⟩,ya⟩ :=
 ⟨⟨a.os,a.tape,a.output,a.size,fun k b c=>a.block k b (fun e=>c (by rw[<-e];simp))⟩,by
  rcases d with e | e
  ·exact Q1 e.symm
  ·exact QV ⟨S,rfl,e⟩⟩
theorem aw.Vb(o:aw H y y2)(k:ab [] H T):aw T y y2:=o.Vg (fun q a=>k.block q (o.lt a) (by simp))
theorem Ek:(prog.info? 138).map (fun i=>(i.zero,i.size,i.bytes))=some (some (.agg #[.string ⟨#[]⟩,.int .i64 0,.string ⟨#[]⟩,.int .i64 0,.int .i64 0]),5,56):=by kernel_rfl
theorem MJ:∀j u,(AV zt)[j]?=some u->(l.alloc (.cells (AV zt).toArray 138)).cell? ((⟨l.heap.size,0,none⟩:Addr).add j)=some u:=by
 intro j u a;rw[bL];have b:(l.alloc (.cells (AV zt).toArray 138)).heap[l.heap.size]?=some (.cells (AV zt).toArray 138 (0,0)):=QS _ _;rw[aa b];simpa using a
theorem ML:∀u∈AV zt,u.oneCell'=true:=by
 intro u a;simp only[AV,List.mem_cons,List.not_mem_nil,or_false]at a
 rcases a with rfl | rfl | rfl | rfl | rfl <;> rfl
set_option maxRecDepth 512 in
theorem zs(T:x<=n)(hz:n<=w.size)(F:w.size<=1073741824)(V:M.length<=100000)(y:aw l z4 (ir M)) :
  Calls prog 166 #[.agg #[.string b,.string w],.int .i64 x,.int .i64 n,.slice z4.ao M.length z4.cap] l fun e C=>∃p,e=.returned (.slice p.ao (je b w x n M).length p.cap)/\aw C p (ir (je b w x n M))/\bt l C z4 p:=by
 have m:ab [] l (l.alloc (.cells #[.string b,.string w] 68)):=(ab.refl [] _).alloc _;have E:(l.alloc (.cells #[.string b,.string w] 68)).heap[l.heap.size]?=some (.cells #[.string b,.string w] 68 (0,0)):=QS _ _
 by_cases e:x=n
 ·subst e
  have o:Hid (je b w x x M=M):=by show _=_;unfold je;rw[QW rfl]
  have z:=hI (y.Vb m);rw[o.out];go_enter func166,ntmps166;go_wp2;go_ret;exact⟨z4,rfl,z.out,bt.Vb m⟩
 ·have o:Hid (je b w x n M=M++[me b w (w.extract x n) 0 x]):=by show _=_;unfold je;rw[QT e]
  have L:¬((x:Int)=(n:Int)):=by omega
  obtain⟨U,R,A,q,t⟩:=Re Ek;have O:(x:Int)<=(n:Int):=by omega
  have H:(n:Int)<=(w.size:Int):=by omega
  go_enter func166,ntmps166
  go_upto_region 4 with (go_at_call 165;refine(rI b w x _ (by omega) F).mono ?_;rintro e f ⟨rfl,r⟩)
  obtain⟨W,a⟩:∃W,Hid (f.alloc (.cells #[.string b,.int .i64 (aP w x),.int .i64 (bm w x)] 36)=W):=⟨_,rfl⟩
  have s:ab [] f W:=by rw[<-a.out];exact(ab.refl [] _).alloc _
  have i:W.heap[f.heap.size]?=some (.cells #[.string b,.int .i64 (aP w x),.int .i64 (bm w x)] 36 (0,0)):=by rw[<-a.out];exact QS _ _
  have K:=(m.trans r).trans s;have v:=s.get (r.get E (by simp)) (by simp);have c1:W.cell? ⟨l.heap.size,1,none⟩=some (.string w):=by rw[aa v];rfl
  have p0:W.cell? ⟨f.heap.size,0,none⟩=some (.string b):=by rw[aa i];rfl
  have p1:W.cell? ⟨f.heap.size,1,none⟩=some (.int .i64 (aP w x)):=by rw[aa i];rfl
  have Z:W.cell? ⟨f.heap.size,2,none⟩=some (.int .i64 (bm w x)):=by rw[aa i];rfl
  have Y:=ae v;have X:=ae i;rw[a.out];have J:=hI K;have P:Hid (aw (W.alloc (.cells #[.string (w.extract x n),.int .i64 0,.string b,.int .i64 (aP w x),.int .i64 (bm w x)] 138)).drew z4 (ir M)):=(y.Vb K).Vb ((ab.refl [] W).alloc _).drew;have G:Hid (∀j u,([.string (w.extract x n),.int .i64 0,.string b,.int .i64 (aP w x),.int .i64 (bm w x)]:List Value)[j]?=some u->(W.alloc (.cells #[.string (w.extract x n),.int .i64 0,.string b,.int .i64 (aP w x),.int .i64 (bm w x)] 138)).drew.cell? ((⟨W.heap.size,0,none⟩:Addr).add j)=some u):=MJ W (me b w (w.extract x n) 0 x);have I:Hid (∀u∈([.string (w.extract x n),.int .i64 0,.string b,.int .i64 (aP w x),.int .i64 (bm w x)]:List Value),u.oneCell'=true):=ML (me b w (w.extract x n) 0 x);have Q:Hid ((ir M).n+1<=maxLen):=by show _<=_;simp only[ir];unfold maxLen;omega
  have S:Hid (((ir M).n+1)*56<=140737488355328):=by show _<=_;simp only[ir];omega
  clear s i K v E m r a y
  go_region_law (refine cd rfl (.tmp 17) (.tmp 25) 101 rfl U (.agg #[.string ⟨#[]⟩,.int .i64 0,.string ⟨#[]⟩,.int .i64 0,.int .i64 0]) 56 z4 (ir M) underlying101 R A q t rfl (show 0<5 by omega) (by simp[Act.eval] <;> rfl) P.out ⟨W.heap.size,0,none⟩ 1 1 [.string (w.extract x n),.int .i64 0,.string b,.int .i64 (aP w x),.int .i64 (bm w x)] (by simp[Act.eval]) rfl G.out I.out Rc Q.out S.out ?_;intro B c D k d g)
  all_goals
   have h:aw D ⟨some ⟨B,0,none⟩,c⟩ (ir (M++[me b w (w.extract x n) 0 x])):=by rw[<-za];exact k
   have N:Hid (bt l D z4 ⟨some ⟨B,0,none⟩,c⟩):=(bt.Vb (J.out.trans ((ab.refl [] W).alloc _).drew)).trans (bt.made d (by simpa using g));have z:=hI h;clear k d g h;go_wp2;go_ret;exact⟨_,by rw[o.out];simp[ir],by rw[o.out];exact z.out,N.out⟩
theorem bY(w:i.guard=none)(s x:Operand)(m:i.op=Op.call { callee:=Callee.builtin Builtin.append,args:=#[s,x],argTypes:=#[101,101] })(h:Hd)(L:List Tk)(t:Tk)(u:o.eval s=.slice h.ao L.length h.cap)(a:aw l h (ir L))(B:L.length<=1000000)(A:o.eval x=.slice (some ⟨l.heap.size,0,none⟩) 1 1)(z:∀e j,aw j e (ir (L++[t]))->bt l j h e->wpList prog z5 z6 y4 (o.put i.dst (.slice e.ao (L.length+1) e.cap)) j) :
  wpList prog z5 z6 (i :: y4) o (l.alloc (.cells (AV t).toArray 138)):=by
 obtain⟨y,v,n,g,k⟩:=Re Ek;have p:ab [] l (l.alloc (.cells (AV t).toArray 138)):=(ab.refl [] _).alloc _;refine aM _ w s x 101 m y (.agg #[.string ⟨#[]⟩,.int .i64 0,.string ⟨#[]⟩,.int .i64 0,.int .i64 0]) 56 h (ir L) underlying101 v n g k rfl (show 0<5 by omega) u (a.Vb p) ⟨l.heap.size,0,none⟩ 1 1 (AV t) A rfl (MJ l t) (ML t) Rc (by simp only[ir];unfold maxLen;omega) (by simp only[ir];omega) ?_;intro q b r d c f;rw[za]at d;exact z ⟨some ⟨q,0,none⟩,b⟩ r d ((bt.Vb p).trans (bt.made c f))
theorem pE{P:Program}(t A:TypeId)(i:TypeInfo)(z:Value)(d:Nat)(h:Hd)(r:dN)(B:P.underlying t=some (.slice r.e))(C:P.info? r.e=some i)(X:i.zero=some z)(I:i.size=r.size)(Y:i.bytes=d)(N:z.cells.size=r.size)(T:0<r.size)(b:aw l h r)(E:Option Addr)(m c:Nat)(a:List Value)(D:a.length=m*r.size)(p:E=none->m=0/\c=0)(F:∀q,E=some q->∀j u,a[j]?=some u->l.cell? (q.add j)=some u)(w:∀u∈a,u.oneCell'=true)(R:r.n+m<=maxLen)(V:(r.n+m)*d<=140737488355328) :
  ∃f k,(Builtin.append_ #[t,t] A #[.slice h.ao r.n h.cap,.slice E m c]).run P l=.ok (.slice f.ao (r.n+m) f.cap) k /\
   aw k f ⟨r.e,r.size,r.n+m,r.xs++a⟩/\bt l k h f:=by
 cases E with
 | none =>
  obtain⟨rfl,rfl⟩:=p rfl;have o:a=[]:=Rk (by simpa using D);subst o;have U:=run_append_owned_none (P:=P) l 0 t A r.e i r.size B C (.slice h.ao r.n h.cap) r.n r.xs b;exact⟨h,l,U,by rw[Rl];exact b,bt.Vb (ab.refl _ _)⟩
 | some q =>
  have F:=F q rfl
  by_cases L:0<m
  ·obtain⟨g,v,k,Q,J,S,K⟩:=pX l t A i z d h r B C X I Y N T b q m c a D F w L R V
   exact⟨⟨some ⟨g,0,none⟩,v⟩,k,Q,J,bt.made S K⟩
  ·have e:m=0:=by omega
   subst e;have o:a=[]:=Rk (by simpa using D);subst o
   rcases b.Vm with ⟨x,H,O⟩ | ⟨g,M,x,H,O,Z,e5,e6⟩
   ·refine⟨h,l,?_,?_,bt.Vb (ab.refl _ _)⟩
    ·rw[x,H]
     simp[Builtin.append_,run_underlying B,sizeOf,typeInfo,C,Builtin.lenOf,Builtin.firstCells,loadCells,loadCellsFrom]
    ·rw[Rl,Tg];exact b
   ·obtain⟨k,s,W,G⟩:=run_append_fits (P:=P) l 0 t A r.e i r.size B C I g r.n h.cap r.xs (by have:=b;unfold aw at this;rw[x]at this;exact this) q 0 c [] D F w (by omega)
    have y:h.blk=some g:=by unfold Hd.blk;rw[x];rfl
    exact⟨⟨some ⟨g,0,none⟩,h.cap⟩,k,by rw[x,s],W,bt.made (by rw[y];exact G) (Q1 y)⟩
theorem ed(O:i.guard=none)(s x:Operand)(t:TypeId)(A:i.op=Op.call { callee:=Callee.builtin Builtin.append,args:=#[s,x],argTypes:=#[t,t] })(p:TypeInfo)(z:Value)(b:Nat)(h:Hd)(r:dN)(E:z0.underlying t=some (.slice r.e))(F:z0.info? r.e=some p)(Q:p.zero=some z)(P:p.size=r.size)(S:p.bytes=b)(D:z.cells.size=r.size)(N:0<r.size)(I:o.eval s=.slice h.ao r.n h.cap)(k:aw l h r)(q:Option Addr)(m c:Nat)(a:List Value)(U:o.eval x=.slice q m c)(L:a.length=m*r.size)(d:q=none->m=0/\c=0)(T:∀C,q=some C->∀j u,a[j]?=some u->l.cell? (C.add j)=some u)(y:∀u∈a,u.oneCell'=true)(J:r.n+m<=1000000000)(H:b<=1000)(R:∀v f,aw f v ⟨r.e,r.size,r.n+m,r.xs++a⟩->bt l f h v->wpList z0 z5 z6 y4 (o.put i.dst (.slice v.ao (r.n+m) v.cap)) f) :
  wpList z0 z5 z6 (i :: y4) o l:=by
 obtain⟨w,f,g,G,M⟩:=pE (P:=z0) l t i.type p z b h r E F Q P S D N k q m c a L d T y (by unfold maxLen;omega) (Q3 (SL J H) (by omega));refine wpList_plain O fun K B=>?_
 unfold Oper.wp;simp[execOp,A,resolve,invoke,builtin,I,U,g,Result.andThen];exact B _ _ (R w f G M)
theorem xh{E:Prop}(P:i.guard=none)(s x:Operand)(t:TypeId)(A:i.op=Op.call { callee:=Callee.builtin Builtin.append,args:=#[s,x],argTypes:=#[t,t] })(v:TypeInfo)(z:Value)(b:Nat)(h:Hd)(r:dN)(D:z0.underlying t=some (.slice r.e))(F:z0.info? r.e=some v)(R:v.zero=some z)(Q:v.size=r.size)(T:v.bytes=b)(C:z.cells.size=r.size)(N:0<r.size)(J:o.eval s=.slice h.ao r.n h.cap)(q:aw H h r)(w:Option Addr)(m c:Nat)(a:List Value)(V:o.eval x=.slice w m c)(L:a.length=m*r.size)(g:w=none->m=0/\c=0)(U:∀B,w=some B->∀j u,a[j]?=some u->H.cell? (B.add j)=some u)(y:∀u∈a,u.oneCell'=true)(K:r.n+m<=1000000000)(I:b<=1000)(S:∀f d l,aw l ⟨f,d⟩ ⟨r.e,r.size,r.n+m,r.xs++a⟩->bt H l h ⟨f,d⟩->y5 (o.put i.dst (.slice f (r.n+m) d)) l) :
  if Region.wanted i (yielded z5 o.tmps)=true then Oper.wp z0 i o H y5 z6 else E:=by
 have O:Region.wanted i (yielded z5 o.tmps)=true:=by simp[Region.wanted,P]
 rw[QW O];obtain⟨k,l,p,G,M⟩:=pE (P:=z0) H t i.type v z b h r D F R Q T C N q w m c a L g U y (by unfold maxLen;omega) (Q3 (SL K I) (by omega));unfold Oper.wp;simp[execOp,A,resolve,invoke,builtin,J,V,p,Result.andThen];exact S k.ao k.cap l G M
theorem bH{E:Prop}(H:i.guard=none)(s x:Operand)(t:TypeId)(p:i.op=Op.call { callee:=Callee.builtin Builtin.append,args:=#[s,x],argTypes:=#[t,t] })(k:TypeInfo)(z:Value)(c:Nat)(h:Hd)(r:dN)(a:List Value)(w:z0.underlying t=some (.slice r.e))(y:z0.info? r.e=some k)(J:k.zero=some z)(I:k.size=r.size)(L:k.bytes=c)(v:z.cells.size=r.size)(G:0<r.size)(C:o.eval s=.slice h.ao r.n h.cap)(g:aw l h r)(O:r.n<=900000000)(B:c<=1000)(N:o.eval x=.slice (some ⟨l.heap.size,0,none⟩) 1 1)(Q:a.length=r.size)(m:∀u∈a,u.oneCell'=true)(M:∀d b f,aw f ⟨d,b⟩ ⟨r.e,r.size,r.n+1,r.xs++a⟩->bt l f h ⟨d,b⟩->y5 (o.put i.dst (.slice d (r.n+1) b)) f) :
  if Region.wanted i (yielded z5 o.tmps)=true then Oper.wp z0 i o (l.alloc (.cells a.toArray r.e)).drew y5 z6 else E:=by
 have q:ab [] l (l.alloc (.cells a.toArray r.e)).drew:=((ab.refl [] _).alloc _).drew;have D:(l.alloc (.cells a.toArray r.e)).drew.heap[l.heap.size]?=some (.cells a.toArray r.e (0,0)):=QS _ _;refine xh H s x t p k z c h r w y J I L v G C (g.Vb q) (some ⟨l.heap.size,0,none⟩) 1 1 a N (by omega) (fun e=>by cases e) ?_ m (by omega) B ?_
 ·intro P e j u F
  cases e
  rw[bL,aa D];simpa using F
 ·intro d b f A K
  exact M d b f A ((bt.Vb q).trans K)
structure xG(w wr:World)(nm d:ByteArray)(h:Hd)(L:List Tk):Prop where
 f:wr.heap[w.heap.size]?=some (.cells #[.string nm,.string d] 68 (0,0))
 own:aw wr h (ir L)
 far:∀k,h.blk=some k->w.heap.size<k
 kept:ab [] w wr
theorem xG.Vb(b:xG H T a L y d)(k:ab [] T z1):xG H z1 a L y d :=
 ⟨k.get b.f (by simp),b.own.Vb k,b.far,b.kept.trans k⟩
theorem xG.Vl(b:xG H T a L y d)(c:bt T z1 y g)(o:aw z1 g (ir y6)):xG H z1 a L g y6:=by
 have j:=ae b.f;refine⟨c.kept.get b.f (fun i=>by have:=b.far _ (aN i);omega),o,fun k h=>?_,⟨c.kept.os.trans b.kept.os,c.kept.tape.trans b.kept.tape,c.kept.output.trans b.kept.output,Q3 b.kept.size c.kept.size,fun k h _=>?_⟩⟩
 ·rcases c.blk with e | ⟨q,e,i⟩
  ·exact b.far k (by rw[<-e];exact h)
  ·rw[e]at h;cases h;omega
 ·rw[c.kept.block k (QX h b.kept.size) (fun i=>by have:=b.far _ (aN i);omega),b.kept.block k h (by simp)]
theorem wL{l c:Int}(h:Hid (H.alloc (.cells #[.string a,.int .i64 l,.int .i64 c] 36)=T)):ab [] H T/\H.heap.size<T.heap.size/\T.cell? ⟨H.heap.size,0,none⟩=some (.string a)/\T.cell? ⟨H.heap.size,1,none⟩=some (.int .i64 l)/\T.cell? ⟨H.heap.size,2,none⟩=some (.int .i64 c):=by
 have b:T.heap[H.heap.size]?=some (.cells #[.string a,.int .i64 l,.int .i64 c] 36 (0,0)):=by rw[<-h.out];exact QS _ _
 exact⟨by rw[<-h.out];exact(ab.refl [] _).alloc _,ae b,by rw[aa b];rfl,by rw[aa b];rfl,by rw[aa b];rfl⟩
theorem OO(b:S<a.size)(h:qH (aF a S)=true)(d:∀j,j<S->qH (aF a j)=false):jF a=some S:=by
 unfold jF;rw[Sj];exact⟨h,Ra.2 b,fun j c=>by rw[d j c];rfl⟩
theorem KD(c:∀j,j<a.size->qH (aF a j)=false):jF a=none:=by
 unfold jF;rw[Sk];intro j b;rw[c j (Ra.1 b)];simp
theorem FJ(hd:w.size<=10000) :
  Calls prog 115 #[.agg #[.string b,.string w]] l fun e x=>∃m,e=.returned (.slice m.ao (ij b w).length m.cap)/\aw x m (ir (ij b w))/\ab [] l x/\∀k,m.blk=some k->l.heap.size<k:=by
 have S0:Hid (xG l (l.alloc (.cells #[.string b,.string w] 68)) b w ⟨none,0⟩ []):=⟨QS _ _,QZ _ _ _ _,(by intro k X;cases X),(ab.refl [] _).alloc _⟩;obtain⟨i0,hi,ag,Z,ad⟩:=Re Ek;go_enter func115,ntmps115;go_wp2
 go_loopg [3,4,5] w.size (fun g o f i wr=>∃(k:Nat) (h:Hd),k<=w.size/\g=w.size-k/\o=.slice h.ao (jd b w k).length h.cap/\f=.int .i64 (di w k)/\i=.int .i64 k/\Hid (∀j,j<k->qH (aF w j)=false)/\Hid (xG l wr b w h (jd b w k)))
 case atStart=>exact⟨0,⟨none,0⟩,by omega,rfl,rfl,rfl,rfl,(fun j Y=>by omega),S0⟩
 case round =>
  obtain⟨k,h,X,hg,rfl,rfl,rfl,J,v⟩:=hrel;have K:wr.cell? ⟨l.heap.size,0,none⟩=some (.string b):=by rw[aa v.out.f];rfl
  have L:wr.cell? ⟨l.heap.size,1,none⟩=some (.string w):=by rw[aa v.out.f];rfl
  have V:=ae v.out.f;have ac:=xu b w k;have B:=oh w k
  by_cases F:k<w.size
  ·have af:(k:Int)<(w.size:Int):=by omega
   have c:=hI (bP w k F)
   cases z:cO (w[k].toNat:Int)
   ·cases M:fn (w[k].toNat:Int)
    ·have S:Hid (jF w=some k):=OO F (by rw[c.out];unfold qH;rw[z,M];rfl) J.out
     go_upto_region 10 with (first | (go_at_call 78;refine(lu _ _).mono ?_;rintro e u ⟨rfl,a⟩;rw[a];clear a) | (go_at_call 164;refine(rk _ _).mono ?_;rintro e u ⟨rfl,a⟩;rw[a];clear a) | (go_at_call 165;refine(rI b w k _ (by omega) (by omega)).mono ?_;rintro e u ⟨rfl,D⟩))
     obtain⟨W,d⟩:∃W,Hid (u.alloc (.cells #[.string b,.int .i64 (aP w k),.int .i64 (bm w k)] 36)=W):=⟨_,rfl⟩
     obtain⟨G,y1,p0,p1,p2⟩:=wL d;rw[d.out];have H:=hI (v.out.Vb (D.trans G));have R:=H.out.own;have A:Hid (ij b w=jd b w k++[me b w ⟨#[]⟩ 1 k]):=by show _=_;unfold ij;rw[S.out]
     clear G D K L d;go_wp2_with (at_builtin;refine bY W rfl (.tmp 36) (.tmp 39) rfl h (jd b w k) (me b w ⟨#[]⟩ 1 k) rfl R (by omega) rfl ?_;intro T w5 r q;have s:=hI (H.out.Vl q r);clear r q);go_ret;exact⟨T,by rw[A.out];simp,by rw[A.out];exact s.out.own,s.out.kept,s.out.far⟩
    ·have s:Hid (∀j,j<k+1->qH (aF w j)=false):=fun j Y=>by
      by_cases e:j=k
      ·subst e;rw[c.out];unfold qH;rw[M];rfl
      ·exact J.out j (by omega)
     have y:Hid (jd b w (k+1)=jd b w k/\di w (k+1)=di w k):=by
      constructor
      ·rw[jd,QT (by rw[c.out,z];simp)]
      ·rw[di,QT (by rw[c.out,z];simp)]
     go_wp2_with (first | (go_at_call 78;refine(lu _ _).mono ?_;rintro e u ⟨rfl,a⟩;rw[a];clear a) | (go_at_call 164;refine(rk _ _).mono ?_;rintro e u ⟨rfl,a⟩;rw[a];clear a))
     go_roundg (w.size-(k+1))
     case measure=>omega
     case rel=>exact⟨k+1,h,by omega,rfl,by rw[y.out.1],by rw[y.out.2],by go_num,s,by rw[y.out.1];exact v⟩
   ·have s:Hid (∀j,j<k+1->qH (aF w j)=false):=fun j Y=>by
     by_cases e:j=k
     ·subst e;rw[c.out];unfold qH;rw[z];simp
     ·exact J.out j (by omega)
    have y:Hid (jd b w (k+1)=je b w (di w k) k (jd b w k)/\di w (k+1)=k+1):=by
     constructor
     ·rw[jd,QW (by rw[c.out,z])]
     ·rw[di,QW (by rw[c.out,z])]
    have t:Hid (∀p,xG l p b w h (jd b w k)->Calls prog 166 #[.agg #[.string b,.string w],.int .i64 (di w k),.int .i64 k,.slice h.ao (jd b w k).length h.cap] p fun e x=>∃m,e=.returned (.slice m.ao (je b w (di w k) k (jd b w k)).length m.cap)/\aw x m (ir (je b w (di w k) k (jd b w k)))/\bt p x h m):=fun p U=>zs b w _ k _ h p B (by omega) (by omega) (by omega) U.own
    cases M:fn (w[k].toNat:Int)
    all_goals
     go_wp2_with (first | (go_at_call 78;refine(lu _ _).mono ?_;rintro e u ⟨rfl,a⟩;rw[a];clear a) | (go_at_call 164;refine(rk _ _).mono ?_;rintro e u ⟨rfl,a⟩;rw[a];clear a) | (go_at_call 166;refine(t.out _ v.out).mono ?_;rintro e Q ⟨N,rfl,C,I⟩;have n:=hI (v.out.Vl I C);clear I C))
     go_roundg (w.size-(k+1))
     case measure=>omega
     case rel=>exact⟨k+1,N,by omega,rfl,by rw[y.out.1],by rw[y.out.2];go_num,by go_num,s,by rw[y.out.1];exact n⟩
  ·have e:k=w.size:=by omega
   subst e;have S:Hid (jF w=none):=KD J.out;have A:Hid (ij b w=je b w (di w w.size) w.size (jd b w w.size)++[me b w ⟨#[]⟩ 0 w.size]):=by show _=_;unfold ij;rw[S.out]
   have E:=uv b w (di w w.size) w.size (jd b w w.size);obtain⟨O,P⟩:∃O,Hid (je b w (di w w.size) w.size (jd b w w.size)=O):=⟨_,rfl⟩
   have t:Hid (∀p,xG l p b w h (jd b w w.size)->Calls prog 166 #[.agg #[.string b,.string w],.int .i64 (di w w.size),.int .i64 w.size,.slice h.ao (jd b w w.size).length h.cap] p fun e x=>∃m,e=.returned (.slice m.ao (je b w (di w w.size) w.size (jd b w w.size)).length m.cap)/\aw x m (ir (je b w (di w w.size) w.size (jd b w w.size)))/\bt p x h m):=fun p U=>zs b w _ w.size _ h p B (by omega) (by omega) (by omega) U.own
   rw[P.out]at t E A
   go_upto_region 15 with (go_at_call 166;refine(t.out _ v.out).mono ?_;rintro e Q ⟨N,rfl,C,I⟩;have n:=hI (v.out.Vl I C);clear I C)
   clear K L V;have K:Q.cell? ⟨l.heap.size,0,none⟩=some (.string b):=by rw[aa n.out.f];rfl
   have L:Q.cell? ⟨l.heap.size,1,none⟩=some (.string w):=by rw[aa n.out.f];rfl
   have V:=ae n.out.f
   go_upto_region 16 with (go_at_call 165;refine(rI b w w.size _ (by omega) (by omega)).mono ?_;rintro e u ⟨rfl,D⟩)
   obtain⟨W,d⟩:∃W,Hid (u.alloc (.cells #[.string b,.int .i64 (aP w w.size),.int .i64 (bm w w.size)] 36)=W):=⟨_,rfl⟩
   obtain⟨G,y1,p0,p1,p2⟩:=wL d;rw[d.out];have H:=hI (n.out.Vb (D.trans G));have R:=H.out.own;clear G D K L d;go_wp2_with (at_builtin;refine bY W rfl (.tmp 61) (.tmp 64) rfl N O (me b w ⟨#[]⟩ 0 w.size) rfl R (by omega) rfl ?_;intro T w5 r q;have s:=hI (H.out.Vl q r);clear r q);go_ret;exact⟨T,by rw[A.out];simp,by rw[A.out];exact s.out.own,s.out.kept,s.out.far⟩
theorem pZ(o:aw H y (ir d))(b:y.ao=some ⟨S,0,none⟩)(k:Nat)(t:Tk)(a:d[k]?=some t) :
  H.cell? ⟨S,k*5,none⟩=some (.string t.s)/\H.cell? ⟨S,k*5+1,none⟩=some (.int .i64 t.rule)/\H.cell? ⟨S,k*5+2,none⟩=some (.string t.file)/\H.cell? ⟨S,k*5+3,none⟩=some (.int .i64 t.line)/\H.cell? ⟨S,k*5+4,none⟩=some (.int .i64 t.col):=by
 have e:∀c,c<5->∀u,(AV t)[c]?=some u->H.cell? ⟨S,k*5+c,none⟩=some u:=fun c g u f=>o.cell b (k*5+c) u (by show(PI d)[k*5+c]?=some u;rw[Py d k t a c g];exact f)
 exact⟨e 0 (by omega) _ rfl,e 1 (by omega) _ rfl,e 2 (by omega) _ rfl,e 3 (by omega) _ rfl,e 4 (by omega) _ rfl⟩
theorem qq(o:aw H y y2)(e:0<y2.n):∃g,y.ao=some ⟨g,0,none⟩/\g<H.heap.size/\y2.n<=y.cap:=by
 rcases o.Vm with ⟨_,f,_⟩ | ⟨g,c,a,b,d,-⟩
 ·omega
 ·exact⟨g,a,ae b,d⟩
structure MU(w wr:World)(h:Hd)(O:List Tk):Prop where
 own:aw wr h (ir O)
 far:∀k,h.blk=some k->w.heap.size<=k
 kept:ab [] w wr
theorem MU.Vb(a:MU H T y d)(k:ab [] T z1):MU H z1 y d:=⟨a.own.Vb k,a.far,a.kept.trans k⟩
theorem MU.Vl(a:MU H T y d)(c:bt T z1 y g)(o:aw z1 g (ir y6)):MU H z1 g y6:=by
 refine⟨o,fun k b=>?_,⟨c.kept.os.trans a.kept.os,c.kept.tape.trans a.kept.tape,c.kept.output.trans a.kept.output,Q3 a.kept.size c.kept.size,fun k b _=>?_⟩⟩
 ·rcases c.blk with e | ⟨q,e,f⟩
  ·exact a.far k (by rw[<-e];exact b)
  ·rw[e]at b;cases b
   exact Q3 a.kept.size f
 ·rw[c.kept.block k (QX b a.kept.size) (fun f=>by have:=a.far _ (aN f);omega),a.kept.block k b (by simp)]
def lj(w:World)(ao:Option Addr)(cap:Nat)(L:List Tk):Prop:=L.length<=cap/\∀k t,L[k]?=some t->∃g,ao=some ⟨g,0,none⟩/\g<w.heap.size /\
  w.cell? ⟨g,k*5,none⟩=some (.string t.s)/\w.cell? ⟨g,k*5+1,none⟩=some (.int .i64 t.rule)/\w.cell? ⟨g,k*5+2,none⟩=some (.string t.file)/\w.cell? ⟨g,k*5+3,none⟩=some (.int .i64 t.line)/\w.cell? ⟨g,k*5+4,none⟩=some (.int .i64 t.col)
theorem aw.src(o:aw H y (ir d)):lj H y.ao y.cap d:=by
 refine⟨?_,fun k t b=>?_⟩
 ·rcases o.Vm with ⟨e,c,_⟩ | ⟨g,h,j,m,i,-⟩
  ·have c:d.length=0:=c
   omega
  ·exact i
 ·have l:=(Q8.1 b).1
  obtain⟨g,a,f,-⟩:=qq o (show 0<d.length by omega);exact⟨g,a,f,pZ o a k t b⟩
theorem lj.Vb(h:lj H y7 S d)(k:ab [] H T):lj T y7 S d:=by
 refine⟨h.1,fun j t b=>?_⟩;obtain⟨g,e,a,c⟩:=h.2 j t b;obtain⟨n,i,m,f,l⟩:=c;have q:∀o,T.cell? ⟨g,o,none⟩=H.cell? ⟨g,o,none⟩:=fun o=>Q6 (k.block g a (by simp))
 exact⟨g,e,QX a k.size,by rw[q];exact n,by rw[q];exact i,by rw[q];exact m,by rw[q];exact f,by rw[q];exact l⟩
theorem G1(hL:f.length<=100000)(M:lj l D n f)(hs:∀t∈f,t.s.size<=1073741824) :
  Calls prog 116 #[.slice D f.length n] l fun e Z=>∃m,e=.returned (.slice m.ao (bQ false f).length m.cap)/\MU l Z m (bQ false f):=by
 have S0:Hid (MU l l ⟨none,0⟩ []):=⟨QZ _ _ _ _,(by intro k X;cases X),ab.refl _ _⟩;have V:=M.1;have HO:=hI M;clear M;go_enter func116,ntmps116;go_wp2
 go_loopg [3,4,5] f.length (fun g o H i wr=>∃(k:Nat) (m:Hd) (O:List Tk) (b:Bool),k<=f.length/\g=f.length-k/\o=.slice m.ao O.length m.cap/\H=.bool b/\i=.int .i64 k/\O.length<=k/\Hid (O++bQ b (f.drop k)=bQ false f)/\Hid (MU l wr m O))
 case atStart=>exact⟨0,⟨none,0⟩,[],false,by omega,rfl,rfl,rfl,rfl,QR _,rfl,S0⟩
 case round =>
  obtain⟨k,m,O,b,X,hg,rfl,rfl,rfl,ac,w,K⟩:=hrel
  by_cases B:k<f.length
  ·obtain⟨gs,rfl,af,S,T,Q,U,R⟩:=(lj.Vb HO.out K.out.kept).2 k f[k] (QP B)
   have HD:=hI (Rf B);have J:=hs f[k] (Rb B);have ad:(k:Int)<(f.length:Int):=by omega
   rw[HD.out]at w;generalize f[k]=t at *;obtain⟨d,v,p,q,r⟩:=t;simp only at S T Q U R J;obtain⟨W,A⟩:∃W,Hid (wr.alloc (.cells #[.string d,.int .i64 v,.string p,.int .i64 q,.int .i64 r] 138)=W):=⟨_,rfl⟩
   have C:W.heap[wr.heap.size]?=some (.cells #[.string d,.int .i64 v,.string p,.int .i64 q,.int .i64 r] 138 (0,0)):=by rw[<-A.out];exact QS _ _
   have p0:W.cell? ⟨wr.heap.size,0,none⟩=some (.string d):=by rw[aa C];rfl
   have p1:W.cell? ⟨wr.heap.size,1,none⟩=some (.int .i64 v):=by rw[aa C];rfl
   have p2:W.cell? ⟨wr.heap.size,2,none⟩=some (.string p):=by rw[aa C];rfl
   have p3:W.cell? ⟨wr.heap.size,3,none⟩=some (.int .i64 q):=by rw[aa C];rfl
   have p4:W.cell? ⟨wr.heap.size,4,none⟩=some (.int .i64 r):=by rw[aa C];rfl
   have y1:=ae C;have h:Hid (MU l W m O):=K.out.Vb (by rw[<-A.out];exact(ab.refl [] _).alloc _);have u:=h.out.own
   go_upto_region 7 with fail
   rw[A.out];clear S T Q U R A C
   go_upto_region 9 with (go_at_call 120;refine(fF d _ _ (by omega) (by show 2<=_;omega)).mono ?_;rintro e w1 ⟨rfl,E⟩;rw[E];clear E)
   cases b
   ·cases Y:(d.toList == [36,40])
    ·have j:Hid ((O++[⟨d,v,p,q,r⟩])++bQ false (f.drop (k+1))=bQ false f):=by
      show _=_
      rw[<-w.out,bQ,QT (by show ¬(d.toList == [36,40])=true;rw[Y];simp)];simp
     go_wp2_with (at_builtin;refine bY W rfl (.tmp 41) (.tmp 43) rfl m O ⟨d,v,p,q,r⟩ rfl u (by omega) rfl ?_;intro z F c a;have x:=hI (h.out.Vl a c);clear c a)
     go_roundg (f.length-(k+1))
     case measure=>omega
     case rel=>exact⟨k+1,z,O++[⟨d,v,p,q,r⟩],false,by omega,rfl,by simp,rfl,by go_num,by simp;omega,j,x⟩
    ·have j:Hid (O++bQ true (f.drop (k+1))=bQ false f):=by
      show _=_
      rw[<-w.out,bQ,QW (by show(d.toList == [36,40])=true;exact Y)]
     go_wp2
     go_roundg (f.length-(k+1))
     case measure=>omega
     case rel=>exact⟨k+1,m,O,true,by omega,rfl,rfl,rfl,by go_num,by omega,j,h⟩
   ·cases N:(v==0)
    ·have j:Hid ((O++[⟨d,v,p,q,r⟩])++bQ true (f.drop (k+1))=bQ false f):=by
      show _=_
      rw[<-w.out,bQ,QW (by exact N)];simp
     go_wp2_with (at_builtin;refine bY W rfl (.tmp 41) (.tmp 43) rfl m O ⟨d,v,p,q,r⟩ rfl u (by omega) rfl ?_;intro z F c a;have x:=hI (h.out.Vl a c);clear c a)
     go_roundg (f.length-(k+1))
     case measure=>omega
     case rel=>exact⟨k+1,z,O++[⟨d,v,p,q,r⟩],true,by omega,rfl,by simp,rfl,by go_num,by simp;omega,j,x⟩
    ·have L:v=0:=by simpa using N
     subst L;clear N
     cases G:(d.toList == [36,41])
     ·cases I:(d.toList == [])
      ·cases y:(ii d ⟨#[36,40]⟩||ii d ⟨#[36,41]⟩)
       ·have j:Hid (O++bQ true (f.drop (k+1))=bQ false f):=by
         show _=_
         rw[<-w.out,bQ,QT (by simp),QT (by show ¬(d.toList == [36,41])=true;rw[G];simp),QT (by show ¬(d.toList == [])=true;rw[I];simp),QT (by rw[y];simp)]
        simp only[Bool.or_eq_false_iff]at y;obtain⟨y,P⟩:=y;rw[y,P];go_wp2
        go_roundg (f.length-(k+1))
        case measure=>omega
        case rel=>exact⟨k+1,m,O,true,by omega,rfl,rfl,rfl,by go_num,by omega,j,h⟩
       ·have j:Hid (bQ false f=O++[⟨⟨#[]⟩,2,p,q,r⟩]):=by
         show _=_
         rw[<-w.out,bQ,QT (by simp),QT (by show ¬(d.toList == [36,41])=true;rw[G];simp),QT (by show ¬(d.toList == [])=true;rw[I];simp),QW (by rw[y])]
        cases P:ii d ⟨#[36,40]⟩
        ·rw[P,Sp]at y
         rw[y];go_wp2_with (at_builtin;refine bY W rfl (.tmp 64) (.tmp 68) rfl m O ⟨⟨#[]⟩,2,p,q,r⟩ rfl u (by omega) rfl ?_;intro z F c a;have x:=hI (h.out.Vl a c);clear c a);go_ret;exact⟨z,by rw[j.out];simp,by rw[j.out];exact x.out⟩
        ·clear y
         go_wp2_with (at_builtin;refine bY W rfl (.tmp 64) (.tmp 68) rfl m O ⟨⟨#[]⟩,2,p,q,r⟩ rfl u (by omega) rfl ?_;intro z F c a;have x:=hI (h.out.Vl a c);clear c a);go_ret;exact⟨z,by rw[j.out];simp,by rw[j.out];exact x.out⟩
      ·have j:Hid ((O++[⟨⟨#[]⟩,3,p,q,r⟩])++bQ true (f.drop (k+1))=bQ false f):=by
        show _=_
        rw[<-w.out,bQ,QT (by simp),QT (by show ¬(d.toList == [36,41])=true;rw[G];simp),QW (by exact I)];simp
       go_wp2_with (at_builtin;refine bY W rfl (.tmp 53) (.tmp 57) rfl m O ⟨⟨#[]⟩,3,p,q,r⟩ rfl u (by omega) rfl ?_;intro z F c a;have x:=hI (h.out.Vl a c);clear c a)
       go_roundg (f.length-(k+1))
       case measure=>omega
       case rel=>exact⟨k+1,z,O++[⟨⟨#[]⟩,3,p,q,r⟩],true,by omega,rfl,by simp,rfl,by go_num,by simp;omega,j,x⟩
     ·have j:Hid (O++bQ false (f.drop (k+1))=bQ false f):=by
       show _=_
       rw[<-w.out,bQ,QT (by simp),QW (by exact G)]
      go_wp2
      go_roundg (f.length-(k+1))
      case measure=>omega
      case rel=>exact⟨k+1,m,O,false,by omega,rfl,rfl,rfl,by go_num,by omega,j,h⟩
  ·have e:f.drop k=[]:=Tz (by omega)
   have j:Hid (bQ false f=O):=by
    show _=_
    rw[<-w.out,e]
    cases b <;> simp[bQ]
   go_wp2;go_ret;exact⟨m,by rw[j.out];rfl,by rw[j.out];exact K.out⟩
def bS(s:ByteArray):Bool:=(s.toList == [36,46])||(s.toList == [36,123])||(s.toList == [36,125])
def aO(n:Int)(s:ByteArray):Int :=
 if(s.toList == [36,125])=true then(if(s.toList == [36,123])=true then n+1 else n)-1 else(if(s.toList == [36,123])=true then n+1 else n)
def jz(L:List Tk):Int:=L.foldl (fun n t=>aO n t.s) 0
def dg(L:List Tk):Bool:=match L.getLast? with
 | none=>true
 | some t=>bS t.s&&(jz L==0)
def eu(L:List Tk):Bool:=match L.getLast? with
 | none=>false
 | some t=>!(t.rule==0)
theorem DV(h:n<f.length):jz (f.take (n+1))=aO (jz (f.take n)) f[n].s:=by
 unfold jz;rw[RG h,Sw];rfl
theorem tR :
  Calls prog 84 #[.string w] l fun e a=>e=.returned (.bool (bS w))/\a=l:=by
 go_enter func84,ntmps84;go_wp2
 all_goals go_ret
 all_goals (refine⟨?_,rfl⟩;simp[bS, *])
theorem DU(z:f.length<=100000)(o:lj l D n f) :
  Calls prog 167 #[.slice D f.length n] l fun e s=>e=.returned (.int .i64 (jz f))/\s=l:=by
 have q:=o.1;have w:=hI o;clear o;go_enter func167,ntmps167;go_wp2
 go_loopg [3,4] f.length (fun g r i wr=>∃(k:Nat) (m:Int),k<=f.length/\g=f.length-k/\r=.int .i64 m/\i=.int .i64 k/\(-(k:Int)<=m/\m<=(k:Int))/\Hid (m=jz (f.take k))/\wr=l)
 case atStart=>exact⟨0,0,by omega,rfl,rfl,rfl,by omega,rfl,rfl⟩
 case round =>
  obtain⟨k,m,H,I,rfl,rfl,A,p,rfl⟩:=hrel
  by_cases b:k<f.length
  ·obtain⟨F,rfl,y,u,-⟩:=w.out.2 k f[k] (QP b)
   have d:=hI (DV f k b);have x:(k:Int)<(f.length:Int):=by omega
   rw[<-p.out]at d;generalize f[k]=t at *;obtain⟨h,E,B,C,G⟩:=t;simp only at u d
   cases j:(h.toList == [36,123])
   ·cases a:(h.toList == [36,125])
    ·have c:Hid (m=jz (f.take (k+1))):=by show _=_;rw[d.out,aO,j,a];simp
     go_wp2
     go_roundg (f.length-(k+1))
     case measure=>omega
     case rel=>exact⟨k+1,m,by omega,rfl,rfl,by go_num,by omega,c,rfl⟩
    ·have c:Hid (m-1=jz (f.take (k+1))):=by show _=_;rw[d.out,aO,j,a];simp
     go_wp2
     go_roundg (f.length-(k+1))
     case measure=>omega
     case rel=>exact⟨k+1,m-1,by omega,rfl,by go_num,by go_num,by omega,c,rfl⟩
   ·cases a:(h.toList == [36,125])
    ·have c:Hid (m+1=jz (f.take (k+1))):=by show _=_;rw[d.out,aO,j,a];simp
     go_wp2
     go_roundg (f.length-(k+1))
     case measure=>omega
     case rel=>exact⟨k+1,m+1,by omega,rfl,by go_num,by go_num,by omega,c,rfl⟩
    ·have v:h.toList=[36,123]:=by simpa using j
     rw[v]at a;exact absurd a (by decide)
  ·have e:k=f.length:=by omega
   subst e;rw[RK]at p;go_wp2;go_ret;exact⟨QN p.out,rfl⟩
theorem zJ(m:f.length<=100000)(k:lj l D n f) :
  Calls prog 117 #[.slice D f.length n] l fun e q=>e=.returned (.bool (dg f))/\q=l:=by
 have i:=k.1;have d:=hI (DU f D n l m k);obtain⟨a,c⟩:∃a,Hid (f.length=a):=⟨_,rfl⟩
 rw[c.out]at m i d ⊢
 by_cases j:a=0
 ·have g:Hid (dg f=true):=by
   show _=_
   have:f=[]:=Rk (by rw[c.out,j]);rw[this];rfl
  subst j;go_enter func117,ntmps117;go_wp2;go_ret;exact⟨aD g.out.symm,rfl⟩
 ·have h:a-1<f.length:=by rw[c.out];omega
  obtain⟨E,rfl,y,r,-⟩:=k.2 (a-1) f[a-1] (QP h)
  have g:Hid (dg f=(bS f[a-1].s&&(jz f==0))):=by
   show _=_
   unfold dg;rw[SO,c.out,QP h]
  generalize f[a-1]=t at *;obtain⟨p,B,z,A,G⟩:=t;simp only at r g;have w:IntKind.i64.wrap ((a:Int)-1)=(a:Int)-1:=by rw[R9];omega
  have v:((a:Int)-1).toNat=a-1:=by omega
  have H:(0:Int)<=(a:Int)-1:=by omega
  have I:(a:Int)-1<(a:Int):=by omega
  have F:(1:Int)<=(a:Int):=by omega
  have C:((a:Int)==0)=false:=by simpa using j
  obtain⟨o,x⟩:∃o,Hid (jz f=o):=⟨_,rfl⟩
  rw[x.out]at g d;go_enter func117,ntmps117;go_wp2_with (first | (go_at_call 167;refine(QU d.out ?_);rintro e u ⟨rfl,b⟩;rw[b];clear b) | (go_at_call 84;refine(tR p _).mono ?_;rintro e u ⟨rfl,b⟩;rw[b];clear b))
  all_goals go_ret
  all_goals (refine⟨aD ?_,rfl⟩;rw[g.out];simp[*])
theorem uC(j:f.length<=100000)(i:lj l D n f) :
  Calls prog 83 #[.slice D f.length n] l fun e k=>e=.returned (.bool (eu f))/\k=l:=by
 have d:=i.1;obtain⟨a,b⟩:∃a,Hid (f.length=a):=⟨_,rfl⟩
 rw[b.out]at j d ⊢
 by_cases h:a=0
 ·have g:Hid (eu f=false):=by
   show _=_
   have:f=[]:=Rk (by rw[b.out,h]);rw[this];rfl
  subst h;go_enter func83,ntmps83;go_wp2;go_ret;exact⟨aD g.out.symm,rfl⟩
 ·have c:a-1<f.length:=by rw[b.out];omega
  obtain⟨x,rfl,q,-,m,-⟩:=i.2 (a-1) f[a-1] (QP c)
  have g:Hid (eu f=!(f[a-1].rule==0)):=by
   show _=_
   unfold eu;rw[SO,b.out,QP c]
  generalize f[a-1]=t at *;obtain⟨s,v,r,u,z⟩:=t;simp only at m g;have p:IntKind.i64.wrap ((a:Int)-1)=(a:Int)-1:=by rw[R9];omega
  have o:((a:Int)-1).toNat=a-1:=by omega
  have A:(0:Int)<=(a:Int)-1:=by omega
  have B:(a:Int)-1<(a:Int):=by omega
  have y:(1:Int)<=(a:Int):=by omega
  have w:(0:Int)<(a:Int):=by omega
  have C:0<a:=by omega
  go_enter func83,ntmps83;go_wp2
  all_goals go_ret
  all_goals (refine⟨aD ?_,rfl⟩;rw[g.out];first | rfl | simp[*])
def mV(w:World)(ao:Option Addr)(cap:Nat)(fs:Fs):Prop:=fs.length<=cap/\∀k,k<fs.length->∃g,ao=some ⟨g,0,none⟩/\g<w.heap.size/\w.cell? ⟨g,k*2,none⟩=some (.string (aE fs k))/\w.cell? ⟨g,k*2+1,none⟩=some (.string (ak fs k))
theorem mV.Vb(h:mV H y7 S y8)(k:ab [] H T):mV T y7 S y8:=by
 refine⟨h.1,fun j c=>?_⟩;obtain⟨g,e,a,d,b⟩:=h.2 j c;have q:∀o,T.cell? ⟨g,o,none⟩=H.cell? ⟨g,o,none⟩:=fun o=>Q6 (k.block g a (by simp))
 exact⟨g,e,QX a k.size,by rw[q];exact d,by rw[q];exact b⟩
theorem mu(p:v.length<=100000)(d:mV l D zb v) :
  Calls prog 35 #[.slice D v.length zb,.string w] l fun e j=>e=.returned (.int .i64 (bF v w))/\j=l:=by
 have h:=d.1;have m:=hI d;clear d;go_enter func35,ntmps35;go_wp2
 go_loopg [5] v.length (fun g i wr=>∃k:Nat,k<=v.length/\g=v.length-k/\i=.int .i64 k/\Hid (bF v w=du w (v.drop k) k)/\wr=l)
 case atStart=>exact⟨0,by omega,by omega,rfl,rfl,rfl⟩
 case round =>
  obtain⟨k,t,u,rfl,a,rfl⟩:=hrel
  by_cases b:k<v.length
  ·obtain⟨r,rfl,o,q,s⟩:=m.out.2 k b
   have n:(k:Int)<(v.length:Int):=by omega
   cases f:((aE v k).toList==w.toList)
   ·have c:Hid (bF v w=du w (v.drop (k+1)) (k+1)):=yx v w k b a.out f
    clear a;go_wp2
    go_roundg (v.length-(k+1))
    case measure=>omega
    case rel=>exact⟨k+1,by omega,rfl,by go_num,c,rfl⟩
   ·have c:Hid (bF v w=k):=BD v w k b a.out f
    clear a;go_wp2;go_ret;exact⟨QN c.out.symm,rfl⟩
  ·have c:Hid (bF v w=-1):=yA v w k b a.out
   clear a;go_wp2;go_ret;exact⟨QN c.out.symm,rfl⟩
def dm(fs:Fs)(s:ByteArray)(r:Int):Int :=
 if(r==0)=false then r else if(s.toList == [])=true then 7 else if ii s ⟨#[36]⟩=true then 5 else if bF fs s<0 then 6 else 0
def dI(s:ByteArray)(r:Int):Int :=
 if(r==0)=false then r else if(s.toList == [])=true then 7 else if(s.toList == [36,93])=false then 5 else 0
theorem Bl :
  Calls prog 119 #[.agg #[.string b,.int .i64 I,.string w,.int .i64 N,.int .i64 k]] l fun e h=>e=.returned (.agg #[.string ⟨#[]⟩,.int .i64 (dI b I),.string w,.int .i64 N,.int .i64 k])/\ab [] l h:=by
 cases f:(I==0)
 ·have a:Hid (dI b I=I):=by show _=_;unfold dI;rw[QW f]
  rw[a.out];go_enter func119,ntmps119;go_wp2;exact QY (v:=.agg #[.string ⟨#[]⟩,.int .i64 I,.string w,.int .i64 N,.int .i64 k]) (by simp[results,results119,go_sem]) rfl ⟨rfl,((ab.refl _ _).alloc _).alloc _⟩
 ·have d:I=0:=by simpa using f
  subst d;clear f
  cases c:(b.toList == [])
  ·cases g:(b.toList == [36,93])
   ·have a:Hid (dI b 0=5):=by show _=_;unfold dI;rw[QT (by simp),QT (by rw[c];simp),QW g]
    rw[a.out];go_enter func119,ntmps119;go_wp2;exact QY (v:=.agg #[.string ⟨#[]⟩,.int .i64 5,.string w,.int .i64 N,.int .i64 k]) (by simp[results,results119,go_sem]) rfl ⟨rfl,((ab.refl _ _).alloc _).alloc _⟩
   ·have a:Hid (dI b 0=0):=by show _=_;unfold dI;rw[QT (by simp),QT (by rw[c];simp),QT (by rw[g];simp)]
    rw[a.out];go_enter func119,ntmps119;go_wp2;exact QY (v:=.agg #[.string ⟨#[]⟩,.int .i64 0,.string w,.int .i64 N,.int .i64 k]) (by simp[results,results119,go_sem]) rfl ⟨rfl,((ab.refl _ _).alloc _).alloc _⟩
  ·have a:Hid (dI b 0=7):=by show _=_;unfold dI;rw[QT (by simp),QW c]
   rw[a.out];go_enter func119,ntmps119;go_wp2;exact QY (v:=.agg #[.string ⟨#[]⟩,.int .i64 7,.string w,.int .i64 N,.int .i64 k]) (by simp[results,results119,go_sem]) rfl ⟨rfl,((ab.refl _ _).alloc _).alloc _⟩
theorem EE(r:v.length<=100000)(t:mV l D zb v)(u:b.size<=1073741824) :
  Calls prog 118 #[.slice D v.length zb,.agg #[.string b,.int .i64 I,.string w,.int .i64 N,.int .i64 k]] l fun e o=>e=.returned (.agg #[.string ⟨#[]⟩,.int .i64 (dm v b I),.string w,.int .i64 N,.int .i64 k])/\ab [] l o:=by
 have c:Hid (∀h,ab [] l h->Calls prog 35 #[.slice D v.length zb,.string b] h fun e o=>e=.returned (.int .i64 (bF v b))/\o=h):=fun h s=>mu v D zb b h r (t.Vb s)
 obtain⟨n,g⟩:∃n,Hid (bF v b=n):=⟨_,rfl⟩
 rw[g.out]at c
 cases p:(I==0)
 ·have d:Hid (dm v b I=I):=by show _=_;unfold dm;rw[QW p]
  rw[d.out];go_enter func118,ntmps118;go_wp2_with (first | (go_at_call 120;refine(fF b _ _ (by omega) (by show 1<=_;omega)).mono ?_;rintro e f ⟨rfl,a⟩;rw[a];clear a) | (go_at_call 35;refine(c.out _ (by exact((ab.refl [] l).alloc _).alloc _)).mono ?_;rintro e f ⟨rfl,a⟩;rw[a];clear a));exact QY (v:=.agg #[.string ⟨#[]⟩,.int .i64 I,.string w,.int .i64 N,.int .i64 k]) (by simp[results,results118,go_sem]) rfl ⟨rfl,((ab.refl _ _).alloc _).alloc _⟩
 ·have m:I=0:=by simpa using p
  subst m;clear p
  cases i:(b.toList == [])
  ·cases j:ii b ⟨#[36]⟩
   ·by_cases q:n<0
    ·have d:Hid (dm v b 0=6):=by show _=_;unfold dm;rw[QT (by simp),QT (by rw[i];simp),QT (by rw[j];simp),g.out,QW q]
     rw[d.out];go_enter func118,ntmps118;go_wp2_with (first | (go_at_call 120;refine(fF b _ _ (by omega) (by show 1<=_;omega)).mono ?_;rintro e f ⟨rfl,a⟩;rw[a];clear a) | (go_at_call 35;refine(c.out _ (by exact((ab.refl [] l).alloc _).alloc _)).mono ?_;rintro e f ⟨rfl,a⟩;rw[a];clear a));exact QY (v:=.agg #[.string ⟨#[]⟩,.int .i64 6,.string w,.int .i64 N,.int .i64 k]) (by simp[results,results118,go_sem]) rfl ⟨rfl,((ab.refl _ _).alloc _).alloc _⟩
    ·have d:Hid (dm v b 0=0):=by show _=_;unfold dm;rw[QT (by simp),QT (by rw[i];simp),QT (by rw[j];simp),g.out,QT q]
     rw[d.out];go_enter func118,ntmps118;go_wp2_with (first | (go_at_call 120;refine(fF b _ _ (by omega) (by show 1<=_;omega)).mono ?_;rintro e f ⟨rfl,a⟩;rw[a];clear a) | (go_at_call 35;refine(c.out _ (by exact((ab.refl [] l).alloc _).alloc _)).mono ?_;rintro e f ⟨rfl,a⟩;rw[a];clear a));exact QY (v:=.agg #[.string ⟨#[]⟩,.int .i64 0,.string w,.int .i64 N,.int .i64 k]) (by simp[results,results118,go_sem]) rfl ⟨rfl,((ab.refl _ _).alloc _).alloc _⟩
   ·have d:Hid (dm v b 0=5):=by show _=_;unfold dm;rw[QT (by simp),QT (by rw[i];simp),QW j]
    rw[d.out];go_enter func118,ntmps118;go_wp2_with (first | (go_at_call 120;refine(fF b _ _ (by omega) (by show 1<=_;omega)).mono ?_;rintro e f ⟨rfl,a⟩;rw[a];clear a) | (go_at_call 35;refine(c.out _ (by exact((ab.refl [] l).alloc _).alloc _)).mono ?_;rintro e f ⟨rfl,a⟩;rw[a];clear a));exact QY (v:=.agg #[.string ⟨#[]⟩,.int .i64 5,.string w,.int .i64 N,.int .i64 k]) (by simp[results,results118,go_sem]) rfl ⟨rfl,((ab.refl _ _).alloc _).alloc _⟩
  ·have d:Hid (dm v b 0=7):=by show _=_;unfold dm;rw[QT (by simp),QW i]
   rw[d.out];go_enter func118,ntmps118;go_wp2_with (first | (go_at_call 120;refine(fF b _ _ (by omega) (by show 1<=_;omega)).mono ?_;rintro e f ⟨rfl,a⟩;rw[a];clear a) | (go_at_call 35;refine(c.out _ (by exact((ab.refl [] l).alloc _).alloc _)).mono ?_;rintro e f ⟨rfl,a⟩;rw[a];clear a));exact QY (v:=.agg #[.string ⟨#[]⟩,.int .i64 7,.string w,.int .i64 N,.int .i64 k]) (by simp[results,results118,go_sem]) rfl ⟨rfl,((ab.refl _ _).alloc _).alloc _⟩
def uW(L:List Tk):Prop:=∃t,L.getLast?=some t/\(t.s.toList == [])=true
theorem uW.next(h:uW d)(i:Nat)(t:Tk)(b:d[i]?=some t)(c:(t.s.toList == [])=false):i+1<d.length:=by
 obtain⟨u,a,f⟩:=h;obtain⟨g,-⟩:=Q8.1 b;rw[SO]at a
 by_cases e:i=d.length-1
 ·rw[<-e,b]at a
  cases a
  rw[f]at c
  cases c
 ·omega
theorem tQ{t:Tk}(h:uW d):uW (t :: d):=by
 obtain⟨u,b,c⟩:=h
 cases d with
 | nil=>cases b
 | cons a r=>exact⟨u,by rw[UP];exact b,c⟩
theorem oI:((⟨#[]⟩:ByteArray).toList == [])=true:=by decide +kernel
theorem Bw:uW [⟨⟨#[]⟩,I,w,N,k⟩]:=⟨_,rfl,oI⟩
theorem Kf:uW (ij b w):=by
 unfold ij
 split
 ·exact⟨_,Tc,oI⟩
 ·exact⟨_,Tc,oI⟩
theorem G3(b:Bool)(L:List Tk)(h:uW L):uW (bQ b L):=by
 induction L generalizing b with
 | nil=>obtain⟨u,c,-⟩:=h;cases c
 | cons t r f =>
  cases r with
  | nil =>
   obtain⟨u,c,d⟩:=h;have e:u=t:=by simpa using c.symm
   subst e;have i:u.s.toList=[]:=by simpa using d
   cases b
   ·rw[bQ,QT (by unfold Dw;rw[i];decide)]
    exact⟨u,rfl,d⟩
   ·rw[bQ]
    split
    ·exact⟨u,rfl,d⟩
    ·rw[QT (by unfold Dw;rw[i];decide),QW (by unfold Dw;exact d)]
     exact Bw _ _ _ _
  | cons a r =>
   have g:uW (a :: r):=by
    obtain⟨u,c,d⟩:=h;exact⟨u,by rw[UP]at c;exact c,d⟩
   cases b
   ·rw[bQ]
    split
    ·exact f true g
    ·exact tQ (f false g)
   ·rw[bQ]
    split
    ·exact tQ (f true g)
    ·split
     ·exact f false g
     ·split
      ·exact tQ (f true g)
      ·split
       ·exact Bw _ _ _ _
       ·exact f true g
def qV(fs:Fs)(k:Nat):List Tk:=bQ false (ij (aE fs k) (ak fs k))
theorem MM:uW (qV v n):=G3 _ _ (Kf _ _)
theorem Df:(qV v n).length<=(ak v n).size+2:=Q3 (KH _ _) (zv _ _)
def qO(t:Tk)(r:Int):Tk:=⟨⟨#[]⟩,r,t.file,t.line,t.col⟩
def cv(rec:Nat->List Bool->List Tk->List Tk×List Bool)(fs:Fs):List Tk->List Bool->List Tk->List Tk×List Bool
 | [],sn,out=>(out,sn)
 | t :: r,sn,out =>
  if((t.rule==0)&&(t.s.toList == []))=true then((if dg out=true then out else out++[qO t 7]),sn)
  else if(t.s.toList == [36,91])=false then cv rec fs r sn (out++[t])
  else if dg out=false then(out++[qO t 4],sn)
  else match r with
   | a :: b :: r' =>
    if(dm fs a.s a.rule==0)=false then(out++[qO a (dm fs a.s a.rule)],sn)
    else if(dI b.s b.rule==0)=false then(out++[qO b (dI b.s b.rule)],sn)
    else if sn.getD (bF fs a.s).toNat true=true then cv rec fs r' sn out
    else if eu (rec (bF fs a.s).toNat sn out).1=true then rec (bF fs a.s).toNat sn out
    else cv rec fs r' (rec (bF fs a.s).toNat sn out).2 (rec (bF fs a.s).toNat sn out).1
   | [a]=>(out++[qO a (dm fs a.s a.rule)],sn)
   | []=>(out,sn)
def dQ(fs:Fs):Nat->Nat->List Bool->List Tk->List Tk×List Bool
 | 0,_,sn,out=>(out,sn)
 | n+1,k,sn,out=>cv (dQ fs n) fs (qV fs k) (sn.set k true) out
def aQ(sn:List Bool):Nat:=sn.countP (fun b=>!b)
theorem lC(a:List Bool)(k:Nat)(h:a[k]?=some false):aQ (a.set k true)+1=aQ a:=by
 unfold aQ
 induction a generalizing k with
 | nil=>cases h
 | cons b r c =>
  cases k with
  | zero =>
   simp at h;subst h;simp
  | succ k =>
   have:=c k (by simpa using h);rw[SB,List.countP_cons,List.countP_cons];omega
def jy(w:World)(g:Nat)(sn:List Bool):Prop:=w.heap[g]?=some (.cells (sn.map Value.bool).toArray 4 (0,0))
theorem jy.cell(h:jy H S z7)(k:Nat)(b:Bool)(a:z7[k]?=some b):H.cell? ⟨S,k,none⟩=some (.bool b):=by
 rw[aa h];simp[a]
theorem jy.kept(h:jy H S z7)(k:ab y9 H T)(a:S∉y9):jy T S z7:=k.get h a
theorem jy.set(h:jy H S z7)(k:Nat):jy (H.setCell ⟨S,k,none⟩ (.bool true)) S (z7.set k true):=by
 unfold jy;rw[ah h];simp[List.map_set]
theorem Fx(a:List Bool)(k:Nat)(h:a[k]?=some false):0<aQ a:=by
 have:=lC a k h;omega
structure uY(w w':World)(gs:Nat)(h h':Hd):Prop where
 kept:ab (gs :: h.blk.toList) w w'
 blk:h'.blk=h.blk∨∃g,h'.blk=some g/\w.heap.size<=g
theorem uY.refl:uY z3 z3 n z4 z4:=⟨ab.refl _ _,Q1 rfl⟩
theorem uY.of(a:bt H T y g):uY H T S y g:=⟨a.kept.mono (fun _ b _=>Rm _ b),a.blk⟩
theorem uY.trans{w1:World}(a:uY H w1 S y g)(b:uY w1 T S g y3):uY H T S y y3:=by
 refine⟨⟨b.kept.os.trans a.kept.os,b.kept.tape.trans a.kept.tape,b.kept.output.trans a.kept.output,Q3 a.kept.size b.kept.size,fun k j h=>?_⟩,?_⟩
 ·rw[b.kept.block k (QX j a.kept.size) (fun i=>?_),a.kept.block k j h]
  rcases Rj.1 i with e | i
  ·exact h (by rw[e];simp)
  ·have e:=aN i
   rcases a.blk with c | ⟨f,c,d⟩
   ·exact h (Rm _ (by rw[<-c,e];simp))
   ·rw[c]at e;cases e;omega
 ·rcases b.blk with e | ⟨f,e,d⟩
  ·rcases a.blk with c | ⟨f,c,d⟩
   ·exact Q1 (e.trans c)
   ·exact QV ⟨f,e.trans c,d⟩
  ·exact QV ⟨f,e,Q3 a.kept.size d⟩
structure rg(w:World)(gf cap:Nat)(fs:Fs)(gs:Nat)(sn:List Bool)(h:Hd)(O:List Tk):Prop where
 own:aw w h (ir O)
 seen:jy w gs sn
 src:mV w (some ⟨gf,0,none⟩) cap fs
 a1:h.blk≠some gs
 a2:h.blk≠some gf
 a3:gf≠gs
 lt:gf<w.heap.size
theorem mV.kept(h:mV H (some ⟨S,0,none⟩) ya y8)(k:ab y9 H T)(b:S∉y9):mV T (some ⟨S,0,none⟩) ya y8:=by
 refine⟨h.1,fun j f=>?_⟩;obtain⟨g,e,a,i,c⟩:=h.2 j f;have d:g=S:=by cases e;rfl
 subst d;have q:∀o,T.cell? ⟨g,o,none⟩=H.cell? ⟨g,o,none⟩:=fun o=>Q6 (k.block g a b)
 exact⟨g,rfl,QX a k.size,by rw[q];exact i,by rw[q];exact c⟩
section
variable {w w':World} {gf cap:Nat} {fs:Fs} {gs:Nat} {sn sn':List Bool} {h h':Hd} {O O':List Tk}
theorem rg.Vb(a:rg w gf cap fs gs sn h O)(k:ab [] w w'):rg w' gf cap fs gs sn h O :=
 ⟨a.own.Vb k,a.seen.kept k (by simp),a.src.kept k (by simp),a.a1,a.a2,a.a3,QX a.lt k.size⟩
theorem rg.far(a:rg w gf cap fs gs sn h O)(r:uY w w' gs h h'):h'.blk≠some gs/\h'.blk≠some gf:=by
 have c:=ae a.seen;have d:=a.lt
 rcases r.blk with e | ⟨g,e,b⟩
 ·rw[e];exact⟨a.a1,a.a2⟩
 ·rw[e];exact⟨fun q=>by cases q;omega,fun q=>by cases q;omega⟩
theorem rg.turn(a:rg w gf cap fs gs sn h O)(r:uY w w' gs h h')(o:aw w' h' (ir O'))(s:jy w' gs sn'):rg w' gf cap fs gs sn' h' O':=by
 obtain⟨d,c⟩:=a.far r;refine⟨o,s,a.src.kept r.kept (fun b=>?_),d,c,a.a3,QX a.lt r.kept.size⟩
 rcases Rj.1 b with e | b
 ·exact a.a3 e
 ·exact a.a2 (aN b)
theorem rg.Vl(a:rg w gf cap fs gs sn h O)(g:bt w w' h h')(o:aw w' h' (ir O')):rg w' gf cap fs gs sn h' O' :=
 a.turn (uY.of g) o (a.seen.kept g.kept (fun b=>a.a1 (aN b)))
end
theorem Kc:(w.extract x n).size<=w.size:=by rw[Tw];omega
theorem xv(h:∀t∈M,t.s.size<=w.size):∀t∈je b w x n M,t.s.size<=w.size:=by
 intro t a;unfold je at a
 split at a
 ·exact h t a
 ·rcases Rr.1 a with a | a
  ·exact h t a
  ·rw[Q9.1 a];exact Kc w x n
theorem zq(i:Nat):∀t∈jd b w i,t.s.size<=w.size:=by
 induction i with
 | zero=>intro t c;cases c
 | succ i a =>
  rw[jd]
  split
  ·exact xv b w _ _ _ a
  ·exact a
theorem xy:∀t∈ij b w,t.s.size<=w.size:=by
 intro t a;unfold ij at a
 split at a
 ·rcases Rr.1 a with a | a
  ·exact zq b w _ t a
  ·rw[Q9.1 a];exact Ro _
 ·rcases Rr.1 a with a | a
  ·exact xv b w _ _ _ (zq b w _) t a
  ·rw[Q9.1 a];exact Ro _
theorem G7(b:Bool)(L:List Tk)(h:∀t∈L,t.s.size<=n):∀t∈bQ b L,t.s.size<=n:=by
 induction L generalizing b with
 | nil=>intro t c;cases b <;> simp[bQ]at c
 | cons a r g =>
  have d:=fun b=>g b (fun t c=>h t (Rm _ c))
  have f:=h a (by simp);intro t c
  cases b
  ·rw[bQ]at c
   split at c
   ·exact d _ t c
   ·rcases Rj.1 c with e | c
    ·rw[e];exact f
    ·exact d _ t c
  ·rw[bQ]at c
   split at c
   ·rcases Rj.1 c with e | c
    ·rw[e];exact f
    ·exact d _ t c
   ·split at c
    ·exact d _ t c
    ·split at c
     ·rcases Rj.1 c with e | c
      ·rw[e];exact Ro _
      ·exact d _ t c
     ·split at c
      ·rw[Q9.1 c];exact Ro _
      ·exact d _ t c
theorem J1:∀t∈qV v n,t.s.size<=(ak v n).size:=G7 _ _ _ (xy _ _)
end Go.Proofs.YtpddjjabfbfifaaGreat
