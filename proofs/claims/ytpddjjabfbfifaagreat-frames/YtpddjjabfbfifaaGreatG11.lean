import Derived.Deep.RegionHeld3
import Derived.Laws.OwnMore
import Derived.Test.YtpddjjabfbfifaaGreatG02
namespace Go.Proofs.YtpddjjabfbfifaaGreat
open Go.RowKit Tryz
set_option maxRecDepth 100000
set_option maxHeartbeats 40000000
variable{H T z1:World}{i I:ByteArray}{S ya:Nat}{y g y3:Hd}{y2:dN}{z4:Array Oper}{y4:List Oper}{o:Oper}{D:Act}{z5:Exit->Act->World->Prop}{z0:Program}{y5:Act->World->Prop}{yd:Prop}{d y6:List Tk}{y7:Option Addr}{y8:Fs}{z7:List Bool}{y9:List Nat}(v:Fs)(f:List Tk)(L:Option Addr)(zb:Nat)(b w:ByteArray)(M N a:Int)(x:Nat)(z6:List Bool)(n:Nat)(z3:Bool)(k:List Tk)(l:World)(zt:Tk)
theorem rj :
  Calls prog 164 #[.int .u8 a] l fun e b=>e=.returned (.bool (cO a))/\b=l:=by
 go_enter func164,ntmps164;go_wp2
 all_goals go_ret
 all_goals (refine⟨?_,rfl⟩;first | (simp[cO, *];done) | (simp[cO, *,TE];rw[Bool.or_comm (a==13)]))
theorem lr :
  Calls prog 78 #[.int .u8 a] l fun e b=>e=.returned (.bool (fn a))/\b=l:=by
 go_enter func78,ntmps78;go_wp2
 all_goals go_ret
 all_goals (refine⟨?_,rfl⟩;first | (simp[fn, *];done) | (simp[fn];omega) | (rename_i h;simp only[fn];rw[show decide (33<=a)=true by simp;omega];simp;omega))
theorem fF(u:b.size<=4294967296)(s:w.size<=4294967296) :
  Calls prog 120 #[.string b,.string w] l fun e o=>e=.returned (.bool (ii b w))/\o=l:=by
 go_enter func120,ntmps120;go_wp2
 go_loopg [5] (b.size+1) (fun g i wr=>∃k:Nat,k<=b.size+1/\g=b.size+1-k/\i=.int .i64 k/\Hid (∀i,i<k->i+w.size<=b.size->rN b w i=false)/\wr=l)
 case atStart=>exact⟨0,by omega,by omega,rfl,fun i h=>by omega,rfl⟩
 case round =>
  obtain⟨k,r,t,rfl,a,rfl⟩:=hrel
  by_cases d:k+w.size<=b.size
  ·have p:(k:Int)<=(k:Int)+(w.size:Int):=by omega
   have q:(k:Int)+(w.size:Int)<=(b.size:Int):=by omega
   have n:((k:Int)+(w.size:Int)).toNat=k+w.size:=by omega
   cases j:((b.extract k (k+w.size)).toList==w.toList)
   ·go_wp2
    go_roundg (b.size+1-(k+1))
    case measure=>omega
    case rel =>
     refine⟨k+1,by omega,rfl,by go_num,?_,rfl⟩;intro i m c
     by_cases e:i=k
     ·subst e;exact j
     ·exact a.out i (by omega) c
   ·have f:Hid (ii b w=true):=mY k (by omega) (by simp[d,rN,j])
    go_wp2;go_ret;exact⟨aD f.out.symm,rfl⟩
  ·have f:Hid (ii b w=false):=vG (fun i m=>by
    by_cases c:i+w.size<=b.size
    ·simp[a.out i (by omega) c]
    ·simp[c])
   go_wp2;go_ret;exact⟨aD f.out.symm,rfl⟩
structure uW(w wr:World)(nm d:ByteArray)(j:Nat):Prop where
 f:wr.heap[w.heap.size]?=some (.cells #[.string nm,.string d] 68 (0,0))
 r:wr.heap[w.heap.size+1]?=some (.cells #[.string ⟨#[]⟩,.int .i64 0,.int .i64 0] 36 (0,0))
 p:wr.heap[w.heap.size+2]?=some (.cells #[.string nm,.int .i64 (aP d j),.int .i64 (bm d j)] 36 (0,0))
 kept:ab [] w wr
theorem uW.start(a d:ByteArray):uW l (((l.alloc (.cells #[.string a,.string d] 68)).alloc (.cells #[.string ⟨#[]⟩,.int .i64 0,.int .i64 0] 36)).alloc (.cells #[.string a,.int .i64 1,.int .i64 1] 36)) a d 0:=by
 have f:=(ab.refl [] l).alloc (.cells #[.string a,.string d] 68);have c:=(ab.refl [] (l.alloc (.cells #[.string a,.string d] 68))).alloc (.cells #[.string ⟨#[]⟩,.int .i64 0,.int .i64 0] 36);have b:=(ab.refl [] ((l.alloc (.cells #[.string a,.string d] 68)).alloc (.cells #[.string ⟨#[]⟩,.int .i64 0,.int .i64 0] 36))).alloc (.cells #[.string a,.int .i64 1,.int .i64 1] 36);have h:(l.alloc (.cells #[.string a,.string d] 68)).heap[l.heap.size]?=some (.cells #[.string a,.string d] 68 (0,0)):=QR _ _;have e:=QR (l.alloc (.cells #[.string a,.string d] 68)) (.cells #[.string ⟨#[]⟩,.int .i64 0,.int .i64 0] 36);have g:=QR ((l.alloc (.cells #[.string a,.string d] 68)).alloc (.cells #[.string ⟨#[]⟩,.int .i64 0,.int .i64 0] 36)) (.cells #[.string a,.int .i64 1,.int .i64 1] 36);refine⟨b.get (c.get h (by simp)) (by simp),b.get (by simpa using e) (by simp),by simpa [aP,bm] using g,(f.trans c).trans b⟩
theorem uW.other(h:uW H T i I S)(a:(aF I S==10)=false):uW H (T.setCell ⟨H.heap.size+1+1,2,none⟩ (.int .i64 (bm I S+1))) i I (S+1):=by
 have k:ab [H.heap.size+1+1] T (T.setCell ⟨H.heap.size+1+1,2,none⟩ (.int .i64 (bm I S+1))):=(ab.refl _ _).setCell (Q0 (by simp)) _;refine⟨k.get h.f (by simp;omega),k.get h.r (by simp),?_,h.kept.setCell (QU (by show _<=H.heap.size+1+1;omega)) _⟩;rw[ah h.p];simp[aP,bm,a]
theorem uW.lf(h:uW H T i I S)(a:(aF I S==10)=true):uW H (((T.setCell ⟨H.heap.size+1+1,2,none⟩ (.int .i64 (bm I S+1))).setCell ⟨H.heap.size+1+1,1,none⟩ (.int .i64 (aP I S+1))).setCell ⟨H.heap.size+1+1,2,none⟩ (.int .i64 1)) i I (S+1):=by
 have k:ab [H.heap.size+1+1] T (((T.setCell ⟨H.heap.size+1+1,2,none⟩ (.int .i64 (bm I S+1))).setCell ⟨H.heap.size+1+1,1,none⟩ (.int .i64 (aP I S+1))).setCell ⟨H.heap.size+1+1,2,none⟩ (.int .i64 1)):=(((ab.refl _ _).setCell (Q0 (by simp)) _).setCell (Q0 (by simp)) _).setCell (Q0 (by simp)) _;refine⟨k.get h.f (by simp;omega),k.get h.r (by simp),?_,((h.kept.setCell (QU (by show _<=H.heap.size+1+1;omega)) _).setCell (QU (by show _<=H.heap.size+1+1;omega)) _).setCell (QU (by show _<=H.heap.size+1+1;omega)) _⟩;rw[ah (ah (ah h.p 2 _) 1 _) 2 _];simp[aP,bm,a]
theorem rH(C:n<=w.size)(G:w.size<=1073741824) :
  Calls prog 165 #[.agg #[.string b,.string w],.int .i64 n] l fun e A=>e=.returned (.agg #[.string b,.int .i64 (aP w n),.int .i64 (bm w n)])/\ab [] l A:=by
 go_enter func165,ntmps165;go_wp2
 go_loopg [6] n (fun g i wr=>∃j:Nat,j<=n/\g=n-j/\i=.int .i64 j/\Hid (uW l wr b w j))
 case atStart=>exact⟨0,by omega,rfl,rfl,uW.start l b w⟩
 case round =>
  obtain⟨j,Q,O,rfl,d⟩:=hrel;have x:=d.out.f;have a:=d.out.r;have c:=d.out.p;have R:=ae c;have H:wr.cell? ⟨l.heap.size,1,none⟩=some (.string w):=by rw[aa x];rfl
  have M:wr.cell? ⟨l.heap.size+2,0,none⟩=some (.string b):=by rw[aa c];rfl
  have I:wr.cell? ⟨l.heap.size+2,1,none⟩=some (.int .i64 (aP w j)):=by rw[aa c];rfl
  have K:wr.cell? ⟨l.heap.size+2,2,none⟩=some (.int .i64 (bm w j)):=by rw[aa c];rfl
  have P:=am c 1;have U:=am c 2;have F:=am a 0;have D:=am a 1;have T:=am a 2;have S:wr.cell? ⟨l.heap.size+1,0,none⟩=some (.string ⟨#[]⟩):=by rw[aa a];rfl
  have E:wr.cell? ⟨l.heap.size+1,1,none⟩=some (.int .i64 0):=by rw[aa a];rfl
  have J:wr.cell? ⟨l.heap.size+1,2,none⟩=some (.int .i64 0):=by rw[aa a];rfl
  have N:=Ag w j;have L:=zJ w j
  by_cases y:j<n
  ·have h:j<w.size:=by omega
   cases q:((w[j].toNat:Int)==10)
   ·have k:Hid (uW l _ b w (j+1)):=d.out.other (by rw[bP w j h];exact q)
    go_wp2
    go_roundg (n-(j+1))
    case measure=>omega
    case rel=>exact⟨j+1,by omega,rfl,by go_num,k.out⟩
   ·have k:Hid (uW l _ b w (j+1)):=d.out.lf (by rw[bP w j h];exact q)
    go_wp2
    go_roundg (n-(j+1))
    case measure=>omega
    case rel=>exact⟨j+1,by omega,rfl,by go_num,k.out⟩
  ·have e:j=n:=by omega
   subst e;have z:=hI d.out.kept;go_wp2;have m:=ah a 0 (.string b);have o:=ah m 1 (.int .i64 (aP w j));have u:=ah o 2 (.int .i64 (bm w j));have t:(wr.setCell ⟨l.heap.size+1,0,none⟩ (.string b)).cell? ⟨l.heap.size+1,0,none⟩=some (.string b):=by rw[aa m];rfl
   have s:((wr.setCell ⟨l.heap.size+1,0,none⟩ (.string b)).setCell ⟨l.heap.size+1,1,none⟩ (.int .i64 (aP w j))).cell? ⟨l.heap.size+1,1,none⟩=some (.int .i64 (aP w j)):=by rw[aa o];rfl
   have B:(((wr.setCell ⟨l.heap.size+1,0,none⟩ (.string b)).setCell ⟨l.heap.size+1,1,none⟩ (.int .i64 (aP w j))).setCell ⟨l.heap.size+1,2,none⟩ (.int .i64 (bm w j))).cell? ⟨l.heap.size+1,2,none⟩=some (.int .i64 (bm w j)):=by rw[aa u];rfl
   exact QX (v:=.agg #[.string b,.int .i64 (aP w j),.int .i64 (bm w j)]) (by simp[results,results165,go_sem,t,s,B]) rfl ⟨rfl,((z.out.setCell (QU (by simp)) _).setCell (QU (by simp)) _).setCell (QU (by simp)) _⟩
structure bt(w w':World)(h h':Hd):Prop where
 kept:ab h.blk.toList w w'
 blk:h'.blk=h.blk∨∃g,h'.blk=some g/\w.heap.size<=g
theorem aN(a:S∈y.blk.toList):y.blk=some S:=by
 cases e:y.blk with
 | none=>rw[e]at a;simp at a
 | some b=>rw[e]at a;simp at a;rw[a]
theorem bt.Va(k:ab [] H T):bt H T y y:=⟨k.mono (by simp),Q0 rfl⟩
theorem bt.trans{w1:World}(a:bt H w1 y g)(b:bt w1 T g y3):bt H T y y3:=by
 refine⟨⟨b.kept.os.trans a.kept.os,b.kept.tape.trans a.kept.tape,b.kept.output.trans a.kept.output,Q1 a.kept.size b.kept.size,fun k h i=>?_⟩,?_⟩
 ·rw[b.kept.block k (QW h a.kept.size) (fun j=>?_),a.kept.block k h i]
  have e:=aN j
  rcases a.blk with c | ⟨d,c,f⟩
  ·exact i (by rw[<-c,e];simp)
  ·rw[c]at e;cases e;omega
 ·rcases b.blk with e | ⟨d,e,f⟩
  ·rcases a.blk with c | ⟨d,c,f⟩
   ·exact Q0 (e.trans c)
   ·exact QU ⟨d,e.trans c,f⟩
  ·exact QU ⟨d,e,Q1 a.kept.size f⟩
theorem bt.made(a:H.grownBy T y.blk)(b:y.blk=some S∨H.heap.size<=S):bt H T y ⟨some ⟨S,0,none⟩,ya⟩ :=
 ⟨⟨a.os,a.tape,a.output,a.size,fun k c d=>a.block k c (fun e=>d (by rw[<-e];simp))⟩,by
  rcases b with e | e
  ·exact Q0 e.symm
  ·exact QU ⟨S,rfl,e⟩⟩
theorem aw.Va(o:aw H y y2)(k:ab [] H T):aw T y y2:=o.Vf (fun q a=>k.block q (o.lt a) (by simp))
theorem Ei:(prog.info? 138).map (fun i=>(i.zero,i.size,i.bytes))=some (some (.agg #[.string ⟨#[]⟩,.int .i64 0,.string ⟨#[]⟩,.int .i64 0,.int .i64 0]),5,56):=by kernel_rfl
theorem MI:∀j u,(AT zt)[j]?=some u->(l.alloc (.cells (AT zt).toArray 138)).cell? ((⟨l.heap.size,0,none⟩:Addr).add j)=some u:=by
 intro j u a;rw[bL];have b:(l.alloc (.cells (AT zt).toArray 138)).heap[l.heap.size]?=some (.cells (AT zt).toArray 138 (0,0)):=QR _ _;rw[aa b];simpa using a
theorem MJ:∀u∈AT zt,u.oneCell'=true:=by
 intro u a;simp only[AT,Ri,RN,SO]at a
 rcases a with rfl | rfl | rfl | rfl | rfl <;> rfl
theorem zq(h:Hd)(a:World)(V:x<=n)(hz:n<=w.size)(N:w.size<=1073741824)(Z:k.length<=100000)(B:aw a h (ir k)) :
  Calls prog 166 #[.agg #[.string b,.string w],.int .i64 x,.int .i64 n,.slice h.ao k.length h.cap] a fun e G=>∃r,e=.returned (.slice r.ao (je b w x n k).length r.cap)/\aw G r (ir (je b w x n k))/\bt a G h r:=by
 have q:ab [] a (a.alloc (.cells #[.string b,.string w] 68)):=(ab.refl [] _).alloc _;have F:(a.alloc (.cells #[.string b,.string w] 68)).heap[a.heap.size]?=some (.cells #[.string b,.string w] 68 (0,0)):=QR _ _
 by_cases e:x=n
 ·subst e
  have p:Hid (je b w x x k=k):=by show _=_;unfold je;rw[QV rfl]
  have z:=hI (B.Va q);rw[p.out];go_enter func166,ntmps166;go_wp2;go_ret;exact⟨h,rfl,z.out,bt.Va q⟩
 ·have p:Hid (je b w x n k=k++[md b w (w.extract x n) 0 x]):=by show _=_;unfold je;rw[QS e]
  have R:¬((x:Int)=(n:Int)):=by omega
  obtain⟨J,L,s,y,A⟩:=Rd Ei;have H:(x:Int)<=(n:Int):=by omega
  have T:(n:Int)<=(w.size:Int):=by omega
  go_enter func166,ntmps166
  go_upto_region 4 with (go_at_call 165;refine(rH b w x _ (by omega) N).mono ?_;rintro e g ⟨rfl,v⟩)
  obtain⟨W,c⟩:∃W,Hid (g.alloc (.cells #[.string b,.int .i64 (aP w x),.int .i64 (bm w x)] 36)=W):=⟨_,rfl⟩
  have t:ab [] g W:=by rw[<-c.out];exact(ab.refl [] _).alloc _
  have l:W.heap[g.heap.size]?=some (.cells #[.string b,.int .i64 (aP w x),.int .i64 (bm w x)] 36 (0,0)):=by rw[<-c.out];exact QR _ _
  have K:=(q.trans v).trans t;have C:=t.get (v.get F (by simp)) (by simp);have c1:W.cell? ⟨a.heap.size,1,none⟩=some (.string w):=by rw[aa C];rfl
  have p0:W.cell? ⟨g.heap.size,0,none⟩=some (.string b):=by rw[aa l];rfl
  have p1:W.cell? ⟨g.heap.size,1,none⟩=some (.int .i64 (aP w x)):=by rw[aa l];rfl
  have X:W.cell? ⟨g.heap.size,2,none⟩=some (.int .i64 (bm w x)):=by rw[aa l];rfl
  have Y:=ae C;have y1:=ae l;rw[c.out];have U:=hI K;have P:Hid (aw (W.alloc (.cells #[.string (w.extract x n),.int .i64 0,.string b,.int .i64 (aP w x),.int .i64 (bm w x)] 138)).drew h (ir k)):=(B.Va K).Va ((ab.refl [] W).alloc _).drew;have I:Hid (∀j u,([.string (w.extract x n),.int .i64 0,.string b,.int .i64 (aP w x),.int .i64 (bm w x)]:List Value)[j]?=some u->(W.alloc (.cells #[.string (w.extract x n),.int .i64 0,.string b,.int .i64 (aP w x),.int .i64 (bm w x)] 138)).drew.cell? ((⟨W.heap.size,0,none⟩:Addr).add j)=some u):=MI W (md b w (w.extract x n) 0 x);have S:Hid (∀u∈([.string (w.extract x n),.int .i64 0,.string b,.int .i64 (aP w x),.int .i64 (bm w x)]:List Value),u.oneCell'=true):=MJ (md b w (w.extract x n) 0 x);have M:Hid ((ir k).n+1<=maxLen):=by show _<=_;simp only[ir];unfold maxLen;omega
  have O:Hid (((ir k).n+1)*56<=140737488355328):=by show _<=_;simp only[ir];omega
  clear t l K C F q v c B
  go_region_law (refine cd rfl (.tmp 17) (.tmp 25) 101 rfl J (.agg #[.string ⟨#[]⟩,.int .i64 0,.string ⟨#[]⟩,.int .i64 0,.int .i64 0]) 56 h (ir k) underlying101 L s y A rfl (show 0<5 by omega) (by simp[Act.eval] <;> rfl) P.out ⟨W.heap.size,0,none⟩ 1 1 [.string (w.extract x n),.int .i64 0,.string b,.int .i64 (aP w x),.int .i64 (bm w x)] (by simp[Act.eval]) rfl I.out S.out Rb M.out O.out ?_;intro E d D i f o)
  all_goals
   have m:aw D ⟨some ⟨E,0,none⟩,d⟩ (ir (k++[md b w (w.extract x n) 0 x])):=by rw[<-yY];exact i
   have Q:Hid (bt a D h ⟨some ⟨E,0,none⟩,d⟩):=(bt.Va (U.out.trans ((ab.refl [] W).alloc _).drew)).trans (bt.made f (by simpa using o));have z:=hI m;clear i f o m;go_wp2;go_ret;exact⟨_,by rw[p.out];simp[ir],by rw[p.out];exact z.out,Q.out⟩
theorem bY(w:o.guard=none)(s x:Operand)(i:o.op=Op.call { callee:=Callee.builtin Builtin.append,args:=#[s,x],argTypes:=#[101,101] })(h:Hd)(L:List Tk)(t:Tk)(y:D.eval s=.slice h.ao L.length h.cap)(d:aw l h (ir L))(A:L.length<=1000000)(z:D.eval x=.slice (some ⟨l.heap.size,0,none⟩) 1 1)(v:∀e j,aw j e (ir (L++[t]))->bt l j h e->wpList prog z4 z5 y4 (D.put o.dst (.slice e.ao (L.length+1) e.cap)) j) :
  wpList prog z4 z5 (o :: y4) D (l.alloc (.cells (AT t).toArray 138)):=by
 obtain⟨q,r,f,g,k⟩:=Rd Ei;have n:ab [] l (l.alloc (.cells (AT t).toArray 138)):=(ab.refl [] _).alloc _;refine aM _ w s x 101 i q (.agg #[.string ⟨#[]⟩,.int .i64 0,.string ⟨#[]⟩,.int .i64 0,.int .i64 0]) 56 h (ir L) underlying101 r f g k rfl (show 0<5 by omega) y (d.Va n) ⟨l.heap.size,0,none⟩ 1 1 (AT t) z rfl (MI l t) (MJ t) Rb (by simp only[ir];unfold maxLen;omega) (by simp only[ir];omega) ?_;intro u a p b c m;rw[yY]at b;exact v ⟨some ⟨u,0,none⟩,a⟩ p b ((bt.Va n).trans (bt.made c m))
theorem pD{P:Program}(t B:TypeId)(i:TypeInfo)(z:Value)(d:Nat)(h:Hd)(r:dN)(D:P.underlying t=some (.slice r.e))(E:P.info? r.e=some i)(R:i.zero=some z)(I:i.size=r.size)(M:i.bytes=d)(N:z.cells.size=r.size)(Y:0<r.size)(b:aw l h r)(F:Option Addr)(m c:Nat)(a:List Value)(C:a.length=m*r.size)(o:F=none->m=0/\c=0)(A:∀q,F=some q->∀j u,a[j]?=some u->l.cell? (q.add j)=some u)(s:∀u∈a,u.oneCell'=true)(V:r.n+m<=maxLen)(S:(r.n+m)*d<=140737488355328) :
  ∃f p,(Builtin.append_ #[t,t] B #[.slice h.ao r.n h.cap,.slice F m c]).run P l=.ok (.slice f.ao (r.n+m) f.cap) p /\
   aw p f ⟨r.e,r.size,r.n+m,r.xs++a⟩/\bt l p h f:=by
 cases F with
 | none =>
  obtain⟨rfl,rfl⟩:=o rfl;have k:a=[]:=Rj (by simpa using C);subst k;have O:=run_append_owned_none (P:=P) l 0 t B r.e i r.size D E (.slice h.ao r.n h.cap) r.n r.xs b;exact⟨h,l,O,by rw[Rk];exact b,bt.Va (ab.refl _ _)⟩
 | some q =>
  have A:=A q rfl
  by_cases T:0<m
  ·obtain⟨g,v,p,K,J,U,L⟩:=pW l t B i z d h r D E R I M N Y b q m c a C A s T V S
   exact⟨⟨some ⟨g,0,none⟩,v⟩,p,K,J,bt.made U L⟩
  ·have e:m=0:=by omega
   subst e;have k:a=[]:=Rj (by simpa using C);subst k
   rcases b.ways with ⟨w,H,W⟩ | ⟨g,X,w,H,W,e4,Z,e6⟩
   ·refine⟨h,l,?_,?_,bt.Va (ab.refl _ _)⟩
    ·rw[w,H]
     simp[Builtin.append_,UW D,sizeOf,typeInfo,E,Builtin.lenOf,Builtin.firstCells,loadCells,loadCellsFrom]
    ·rw[Rk,Tf];exact b
   ·obtain⟨p,x,Q,G⟩:=run_append_fits (P:=P) l 0 t B r.e i r.size D E I g r.n h.cap r.xs (by have:=b;unfold aw at this;rw[w]at this;exact this) q 0 c [] C A s (by omega)
    have y:h.blk=some g:=by unfold Hd.blk;rw[w];rfl
    exact⟨⟨some ⟨g,0,none⟩,h.cap⟩,p,by rw[w,x],Q,bt.made (by rw[y];exact G) (Q0 y)⟩
theorem ed(O:o.guard=none)(s x:Operand)(t:TypeId)(A:o.op=Op.call { callee:=Callee.builtin Builtin.append,args:=#[s,x],argTypes:=#[t,t] })(i:TypeInfo)(z:Value)(b:Nat)(h:Hd)(r:dN)(H:z0.underlying t=some (.slice r.e))(J:z0.info? r.e=some i)(L:i.zero=some z)(U:i.size=r.size)(G:i.bytes=b)(I:z.cells.size=r.size)(T:0<r.size)(Q:D.eval s=.slice h.ao r.n h.cap)(g:aw l h r)(q:Option Addr)(m c:Nat)(a:List Value)(S:D.eval x=.slice q m c)(E:a.length=m*r.size)(d:q=none->m=0/\c=0)(C:∀B,q=some B->∀j u,a[j]?=some u->l.cell? (B.add j)=some u)(w:∀u∈a,u.oneCell'=true)(R:r.n+m<=1000000000)(P:b<=1000)(N:∀p f,aw f p ⟨r.e,r.size,r.n+m,r.xs++a⟩->bt l f h p->wpList z0 z4 z5 y4 (D.put o.dst (.slice p.ao (r.n+m) p.cap)) f) :
  wpList z0 z4 z5 (o :: y4) D l:=by
 obtain⟨v,f,k,F,M⟩:=pD (P:=z0) l t o.type i z b h r H J L U G I T g q m c a E d C w (by unfold maxLen;omega) (Q1 (SJ R P) (by omega));refine wpList_plain O fun K y=>?_
 unfold Oper.wp;simp[execOp,A,resolve,invoke,builtin,Q,S,k,Result.andThen];exact y _ _ (N v f F M)
theorem xg(O:o.guard=none)(s x:Operand)(t:TypeId)(y:o.op=Op.call { callee:=Callee.builtin Builtin.append,args:=#[s,x],argTypes:=#[t,t] })(i:TypeInfo)(z:Value)(b:Nat)(h:Hd)(r:dN)(G:z0.underlying t=some (.slice r.e))(J:z0.info? r.e=some i)(L:i.zero=some z)(U:i.size=r.size)(F:i.bytes=b)(I:z.cells.size=r.size)(T:0<r.size)(Q:D.eval s=.slice h.ao r.n h.cap)(p:aw H h r)(v:Option Addr)(m c:Nat)(a:List Value)(S:D.eval x=.slice v m c)(C:a.length=m*r.size)(g:v=none->m=0/\c=0)(B:∀A,v=some A->∀j u,a[j]?=some u->H.cell? (A.add j)=some u)(w:∀u∈a,u.oneCell'=true)(R:r.n+m<=1000000000)(P:b<=1000)(N:∀f d l,aw l ⟨f,d⟩ ⟨r.e,r.size,r.n+m,r.xs++a⟩->bt H l h ⟨f,d⟩->y5 (D.put o.dst (.slice f (r.n+m) d)) l) :
  if Region.wanted o (yielded z4 D.tmps)=true then Oper.wp z0 o D H y5 z5 else yd:=by
 have K:Region.wanted o (yielded z4 D.tmps)=true:=by simp[Region.wanted,O]
 rw[QV K];obtain⟨k,l,q,E,M⟩:=pD (P:=z0) H t o.type i z b h r G J L U F I T p v m c a C g B w (by unfold maxLen;omega) (Q1 (SJ R P) (by omega));unfold Oper.wp;simp[execOp,y,resolve,invoke,builtin,Q,S,q,Result.andThen];exact N k.ao k.cap l E M
theorem bH(G:o.guard=none)(s x:Operand)(t:TypeId)(m:o.op=Op.call { callee:=Callee.builtin Builtin.append,args:=#[s,x],argTypes:=#[t,t] })(i:TypeInfo)(z:Value)(c:Nat)(h:Hd)(r:dN)(a:List Value)(w:z0.underlying t=some (.slice r.e))(A:z0.info? r.e=some i)(B:i.zero=some z)(M:i.size=r.size)(v:i.bytes=c)(y:z.cells.size=r.size)(L:0<r.size)(J:D.eval s=.slice h.ao r.n h.cap)(g:aw l h r)(N:r.n<=900000000)(I:c<=1000)(K:D.eval x=.slice (some ⟨l.heap.size,0,none⟩) 1 1)(O:a.length=r.size)(k:∀u∈a,u.oneCell'=true)(E:∀d b f,aw f ⟨d,b⟩ ⟨r.e,r.size,r.n+1,r.xs++a⟩->bt l f h ⟨d,b⟩->y5 (D.put o.dst (.slice d (r.n+1) b)) f) :
  if Region.wanted o (yielded z4 D.tmps)=true then Oper.wp z0 o D (l.alloc (.cells a.toArray r.e)).drew y5 z5 else yd:=by
 have p:ab [] l (l.alloc (.cells a.toArray r.e)).drew:=((ab.refl [] _).alloc _).drew;have q:(l.alloc (.cells a.toArray r.e)).drew.heap[l.heap.size]?=some (.cells a.toArray r.e (0,0)):=QR _ _;refine xg G s x t m i z c h r w A B M v y L J (g.Va p) (some ⟨l.heap.size,0,none⟩) 1 1 a K (by omega) (fun e=>by cases e) ?_ k (by omega) I ?_
 ·intro P e j u H
  cases e
  rw[bL,aa q];simpa using H
 ·intro d b f C F
  exact E d b f C ((bt.Va p).trans F)
structure xE(w wr:World)(nm d:ByteArray)(h:Hd)(L:List Tk):Prop where
 f:wr.heap[w.heap.size]?=some (.cells #[.string nm,.string d] 68 (0,0))
 own:aw wr h (ir L)
 far:∀k,h.blk=some k->w.heap.size<k
 kept:ab [] w wr
theorem xE.Va(a:xE H T i I y d)(k:ab [] T z1):xE H z1 i I y d :=
 ⟨k.get a.f (by simp),a.own.Va k,a.far,a.kept.trans k⟩
theorem xE.grew(a:xE H T i I y d)(b:bt T z1 y g)(o:aw z1 g (ir y6)):xE H z1 i I g y6:=by
 have j:=ae a.f;refine⟨b.kept.get a.f (fun h=>by have:=a.far _ (aN h);omega),o,fun k c=>?_,⟨b.kept.os.trans a.kept.os,b.kept.tape.trans a.kept.tape,b.kept.output.trans a.kept.output,Q1 a.kept.size b.kept.size,fun k c _=>?_⟩⟩
 ·rcases b.blk with e | ⟨q,e,h⟩
  ·exact a.far k (by rw[<-e];exact c)
  ·rw[e]at c;cases c;omega
 ·rw[b.kept.block k (QW c a.kept.size) (fun h=>by have:=a.far _ (aN h);omega),a.kept.block k c (by simp)]
theorem wK{l c:Int}(h:Hid (H.alloc (.cells #[.string i,.int .i64 l,.int .i64 c] 36)=T)):ab [] H T/\H.heap.size<T.heap.size/\T.cell? ⟨H.heap.size,0,none⟩=some (.string i)/\T.cell? ⟨H.heap.size,1,none⟩=some (.int .i64 l)/\T.cell? ⟨H.heap.size,2,none⟩=some (.int .i64 c):=by
 have a:T.heap[H.heap.size]?=some (.cells #[.string i,.int .i64 l,.int .i64 c] 36 (0,0)):=by rw[<-h.out];exact QR _ _
 exact⟨by rw[<-h.out];exact(ab.refl [] _).alloc _,ae a,by rw[aa a];rfl,by rw[aa a];rfl,by rw[aa a];rfl⟩
theorem ON(b:S<i.size)(h:qG (aF i S)=true)(c:∀j,j<S->qG (aF i j)=false):jF i=some S:=by
 unfold jF;rw[Si];exact⟨h,Q9.2 b,fun j a=>by rw[c j a];rfl⟩
theorem Kz(b:∀j,j<i.size->qG (aF i j)=false):jF i=none:=by
 unfold jF;rw[Sj];intro j a;rw[b j (Q9.1 a)];simp
theorem FH(hd:w.size<=10000) :
  Calls prog 115 #[.agg #[.string b,.string w]] l fun e x=>∃m,e=.returned (.slice m.ao (ij b w).length m.cap)/\aw x m (ir (ij b w))/\ab [] l x/\∀k,m.blk=some k->l.heap.size<k:=by
 have S0:Hid (xE l (l.alloc (.cells #[.string b,.string w] 68)) b w ⟨none,0⟩ []):=⟨QR _ _,QY _ _ _ _,(by intro k X;cases X),(ab.refl [] _).alloc _⟩;obtain⟨i0,hi,Z,ac,ad⟩:=Rd Ei;go_enter func115,ntmps115;go_wp2
 go_loopg [3,4,5] w.size (fun g o f i wr=>∃(k:Nat) (h:Hd),k<=w.size/\g=w.size-k/\o=.slice h.ao (jd b w k).length h.cap/\f=.int .i64 (di w k)/\i=.int .i64 k/\Hid (∀j,j<k->qG (aF w j)=false)/\Hid (xE l wr b w h (jd b w k)))
 case atStart=>exact⟨0,⟨none,0⟩,by omega,rfl,rfl,rfl,rfl,(fun j Y=>by omega),S0⟩
 case round =>
  obtain⟨k,h,X,hg,rfl,rfl,rfl,K,t⟩:=hrel;have J:wr.cell? ⟨l.heap.size,0,none⟩=some (.string b):=by rw[aa t.out.f];rfl
  have L:wr.cell? ⟨l.heap.size,1,none⟩=some (.string w):=by rw[aa t.out.f];rfl
  have V:=ae t.out.f;have ag:=xt b w k;have E:=og w k
  by_cases F:k<w.size
  ·have af:(k:Int)<(w.size:Int):=by omega
   have d:=hI (bP w k F)
   cases A:cO (w[k].toNat:Int)
   ·cases M:fn (w[k].toNat:Int)
    ·have S:Hid (jF w=some k):=ON F (by rw[d.out];unfold qG;rw[A,M];rfl) K.out
     go_upto_region 10 with (first | (go_at_call 78;refine(lr _ _).mono ?_;rintro e u ⟨rfl,a⟩;rw[a];clear a) | (go_at_call 164;refine(rj _ _).mono ?_;rintro e u ⟨rfl,a⟩;rw[a];clear a) | (go_at_call 165;refine(rH b w k _ (by omega) (by omega)).mono ?_;rintro e u ⟨rfl,C⟩))
     obtain⟨W,c⟩:∃W,Hid (u.alloc (.cells #[.string b,.int .i64 (aP w k),.int .i64 (bm w k)] 36)=W):=⟨_,rfl⟩
     obtain⟨B,y1,p0,p1,p2⟩:=wK c;rw[c.out];have G:=hI (t.out.Va (C.trans B));have U:=G.out.own;have z:Hid (ij b w=jd b w k++[md b w ⟨#[]⟩ 1 k]):=by show _=_;unfold ij;rw[S.out]
     clear B C J L c;go_wp2_with (at_builtin;refine bY W rfl (.tmp 36) (.tmp 39) rfl h (jd b w k) (md b w ⟨#[]⟩ 1 k) rfl U (by omega) rfl ?_;intro N w5 p q;have r:=hI (G.out.grew q p);clear p q);go_ret;exact⟨N,by rw[z.out];simp,by rw[z.out];exact r.out.own,r.out.kept,r.out.far⟩
    ·have r:Hid (∀j,j<k+1->qG (aF w j)=false):=fun j Y=>by
      by_cases e:j=k
      ·subst e;rw[d.out];unfold qG;rw[M];rfl
      ·exact K.out j (by omega)
     have y:Hid (jd b w (k+1)=jd b w k/\di w (k+1)=di w k):=by
      constructor
      ·rw[jd,QS (by rw[d.out,A];simp)]
      ·rw[di,QS (by rw[d.out,A];simp)]
     go_wp2_with (first | (go_at_call 78;refine(lr _ _).mono ?_;rintro e u ⟨rfl,a⟩;rw[a];clear a) | (go_at_call 164;refine(rj _ _).mono ?_;rintro e u ⟨rfl,a⟩;rw[a];clear a))
     go_roundg (w.size-(k+1))
     case measure=>omega
     case rel=>exact⟨k+1,h,by omega,rfl,by rw[y.out.1],by rw[y.out.2],by go_num,r,by rw[y.out.1];exact t⟩
   ·have r:Hid (∀j,j<k+1->qG (aF w j)=false):=fun j Y=>by
     by_cases e:j=k
     ·subst e;rw[d.out];unfold qG;rw[A];simp
     ·exact K.out j (by omega)
    have y:Hid (jd b w (k+1)=je b w (di w k) k (jd b w k)/\di w (k+1)=k+1):=by
     constructor
     ·rw[jd,QV (by rw[d.out,A])]
     ·rw[di,QV (by rw[d.out,A])]
    have v:Hid (∀s,xE l s b w h (jd b w k)->Calls prog 166 #[.agg #[.string b,.string w],.int .i64 (di w k),.int .i64 k,.slice h.ao (jd b w k).length h.cap] s fun e x=>∃m,e=.returned (.slice m.ao (je b w (di w k) k (jd b w k)).length m.cap)/\aw x m (ir (je b w (di w k) k (jd b w k)))/\bt s x h m):=fun s T=>zq b w _ k _ h s E (by omega) (by omega) (by omega) T.own
    cases M:fn (w[k].toNat:Int)
    all_goals
     go_wp2_with (first | (go_at_call 78;refine(lr _ _).mono ?_;rintro e u ⟨rfl,a⟩;rw[a];clear a) | (go_at_call 164;refine(rj _ _).mono ?_;rintro e u ⟨rfl,a⟩;rw[a];clear a) | (go_at_call 166;refine(v.out _ t.out).mono ?_;rintro e R ⟨O,rfl,D,I⟩;have n:=hI (t.out.grew I D);clear I D))
     go_roundg (w.size-(k+1))
     case measure=>omega
     case rel=>exact⟨k+1,O,by omega,rfl,by rw[y.out.1],by rw[y.out.2];go_num,by go_num,r,by rw[y.out.1];exact n⟩
  ·have e:k=w.size:=by omega
   subst e;have S:Hid (jF w=none):=Kz K.out;have z:Hid (ij b w=je b w (di w w.size) w.size (jd b w w.size)++[md b w ⟨#[]⟩ 0 w.size]):=by show _=_;unfold ij;rw[S.out]
   have H:=uu b w (di w w.size) w.size (jd b w w.size);obtain⟨Q,P⟩:∃Q,Hid (je b w (di w w.size) w.size (jd b w w.size)=Q):=⟨_,rfl⟩
   have v:Hid (∀s,xE l s b w h (jd b w w.size)->Calls prog 166 #[.agg #[.string b,.string w],.int .i64 (di w w.size),.int .i64 w.size,.slice h.ao (jd b w w.size).length h.cap] s fun e x=>∃m,e=.returned (.slice m.ao (je b w (di w w.size) w.size (jd b w w.size)).length m.cap)/\aw x m (ir (je b w (di w w.size) w.size (jd b w w.size)))/\bt s x h m):=fun s T=>zq b w _ w.size _ h s E (by omega) (by omega) (by omega) T.own
   rw[P.out]at v H z
   go_upto_region 15 with (go_at_call 166;refine(v.out _ t.out).mono ?_;rintro e R ⟨O,rfl,D,I⟩;have n:=hI (t.out.grew I D);clear I D)
   clear J L V;have J:R.cell? ⟨l.heap.size,0,none⟩=some (.string b):=by rw[aa n.out.f];rfl
   have L:R.cell? ⟨l.heap.size,1,none⟩=some (.string w):=by rw[aa n.out.f];rfl
   have V:=ae n.out.f
   go_upto_region 16 with (go_at_call 165;refine(rH b w w.size _ (by omega) (by omega)).mono ?_;rintro e u ⟨rfl,C⟩)
   obtain⟨W,c⟩:∃W,Hid (u.alloc (.cells #[.string b,.int .i64 (aP w w.size),.int .i64 (bm w w.size)] 36)=W):=⟨_,rfl⟩
   obtain⟨B,y1,p0,p1,p2⟩:=wK c;rw[c.out];have G:=hI (n.out.Va (C.trans B));have U:=G.out.own;clear B C J L c;go_wp2_with (at_builtin;refine bY W rfl (.tmp 61) (.tmp 64) rfl O Q (md b w ⟨#[]⟩ 0 w.size) rfl U (by omega) rfl ?_;intro N w5 p q;have r:=hI (G.out.grew q p);clear p q);go_ret;exact⟨N,by rw[z.out];simp,by rw[z.out];exact r.out.own,r.out.kept,r.out.far⟩
theorem pY(o:aw H y (ir d))(g:y.ao=some ⟨S,0,none⟩)(k:Nat)(t:Tk)(b:d[k]?=some t) :
  H.cell? ⟨S,k*5,none⟩=some (.string t.s)/\H.cell? ⟨S,k*5+1,none⟩=some (.int .i64 t.rule)/\H.cell? ⟨S,k*5+2,none⟩=some (.string t.file)/\H.cell? ⟨S,k*5+3,none⟩=some (.int .i64 t.line)/\H.cell? ⟨S,k*5+4,none⟩=some (.int .i64 t.col):=by
 have e:∀c,c<5->∀u,(AT t)[c]?=some u->H.cell? ⟨S,k*5+c,none⟩=some u:=fun c a u f=>o.cell g (k*5+c) u (by show(PH d)[k*5+c]?=some u;rw[Px d k t b c a];exact f)
 exact⟨e 0 (by omega) _ rfl,e 1 (by omega) _ rfl,e 2 (by omega) _ rfl,e 3 (by omega) _ rfl,e 4 (by omega) _ rfl⟩
theorem qo(o:aw H y y2)(f:0<y2.n):∃g,y.ao=some ⟨g,0,none⟩/\g<H.heap.size/\y2.n<=y.cap:=by
 rcases o.ways with ⟨_,e,_⟩ | ⟨g,b,c,d,a,-⟩
 ·omega
 ·exact⟨g,c,ae d,a⟩
structure MT(w wr:World)(h:Hd)(O:List Tk):Prop where
 own:aw wr h (ir O)
 far:∀k,h.blk=some k->w.heap.size<=k
 kept:ab [] w wr
theorem MT.Va(a:MT H T y d)(k:ab [] T z1):MT H z1 y d:=⟨a.own.Va k,a.far,a.kept.trans k⟩
theorem MT.grew(a:MT H T y d)(b:bt T z1 y g)(o:aw z1 g (ir y6)):MT H z1 g y6:=by
 refine⟨o,fun k c=>?_,⟨b.kept.os.trans a.kept.os,b.kept.tape.trans a.kept.tape,b.kept.output.trans a.kept.output,Q1 a.kept.size b.kept.size,fun k c _=>?_⟩⟩
 ·rcases b.blk with e | ⟨q,e,f⟩
  ·exact a.far k (by rw[<-e];exact c)
  ·rw[e]at c;cases c
   exact Q1 a.kept.size f
 ·rw[b.kept.block k (QW c a.kept.size) (fun f=>by have:=a.far _ (aN f);omega),a.kept.block k c (by simp)]
def li(w:World)(ao:Option Addr)(cap:Nat)(L:List Tk):Prop:=L.length<=cap/\∀k t,L[k]?=some t->∃g,ao=some ⟨g,0,none⟩/\g<w.heap.size /\
  w.cell? ⟨g,k*5,none⟩=some (.string t.s)/\w.cell? ⟨g,k*5+1,none⟩=some (.int .i64 t.rule)/\w.cell? ⟨g,k*5+2,none⟩=some (.string t.file)/\w.cell? ⟨g,k*5+3,none⟩=some (.int .i64 t.line)/\w.cell? ⟨g,k*5+4,none⟩=some (.int .i64 t.col)
theorem aw.src(o:aw H y (ir d)):li H y.ao y.cap d:=by
 refine⟨?_,fun k t b=>?_⟩
 ·rcases o.ways with ⟨e,c,_⟩ | ⟨g,h,l,m,f,-⟩
  ·have c:d.length=0:=c
   omega
  ·exact f
 ·have j:=(Q7.1 b).1
  obtain⟨g,a,i,-⟩:=qo o (show 0<d.length by omega);exact⟨g,a,i,pY o a k t b⟩
theorem li.Va(h:li H y7 S d)(k:ab [] H T):li T y7 S d:=by
 refine⟨h.1,fun j t l=>?_⟩;obtain⟨g,e,a,c⟩:=h.2 j t l;obtain⟨n,f,m,b,i⟩:=c;have q:∀o,T.cell? ⟨g,o,none⟩=H.cell? ⟨g,o,none⟩:=fun o=>Q5 (k.block g a (by simp))
 exact⟨g,e,QW a k.size,by rw[q];exact n,by rw[q];exact f,by rw[q];exact m,by rw[q];exact b,by rw[q];exact i⟩
theorem GZ(hL:f.length<=100000)(N:li l L n f)(hs:∀t∈f,t.s.size<=1073741824) :
  Calls prog 116 #[.slice L f.length n] l fun e w'=>∃m,e=.returned (.slice m.ao (bQ false f).length m.cap)/\MT l w' m (bQ false f):=by
 have S0:Hid (MT l l ⟨none,0⟩ []):=⟨QY _ _ _ _,(by intro k R;cases R),ab.refl _ _⟩;have Y:=N.1;have Z:=hI N;clear N;go_enter func116,ntmps116;go_wp2
 go_loopg [3,4,5] f.length (fun g o M i wr=>∃(k:Nat) (m:Hd) (O:List Tk) (b:Bool),k<=f.length/\g=f.length-k/\o=.slice m.ao O.length m.cap/\M=.bool b/\i=.int .i64 k/\O.length<=k/\Hid (O++bQ b (f.drop k)=bQ false f)/\Hid (MT l wr m O))
 case atStart=>exact⟨0,⟨none,0⟩,[],false,by omega,rfl,rfl,rfl,rfl,QQ _,rfl,S0⟩
 case round =>
  obtain⟨k,m,O,b,R,hg,rfl,rfl,rfl,af,A,G⟩:=hrel
  by_cases C:k<f.length
  ·obtain⟨gs,rfl,ac,X,S,Q,V,T⟩:=(li.Va Z.out G.out.kept).2 k f[k] (QO C)
   have HD:=hI (Re C);have J:=hs f[k] (Ra C);have ad:(k:Int)<(f.length:Int):=by omega
   rw[HD.out]at A;generalize f[k]=t at *;obtain⟨d,u,q,r,p⟩:=t;simp only at X S Q V T J;obtain⟨W,z⟩:∃W,Hid (wr.alloc (.cells #[.string d,.int .i64 u,.string q,.int .i64 r,.int .i64 p] 138)=W):=⟨_,rfl⟩
   have B:W.heap[wr.heap.size]?=some (.cells #[.string d,.int .i64 u,.string q,.int .i64 r,.int .i64 p] 138 (0,0)):=by rw[<-z.out];exact QR _ _
   have p0:W.cell? ⟨wr.heap.size,0,none⟩=some (.string d):=by rw[aa B];rfl
   have p1:W.cell? ⟨wr.heap.size,1,none⟩=some (.int .i64 u):=by rw[aa B];rfl
   have p2:W.cell? ⟨wr.heap.size,2,none⟩=some (.string q):=by rw[aa B];rfl
   have p3:W.cell? ⟨wr.heap.size,3,none⟩=some (.int .i64 r):=by rw[aa B];rfl
   have p4:W.cell? ⟨wr.heap.size,4,none⟩=some (.int .i64 p):=by rw[aa B];rfl
   have y1:=ae B;have h:Hid (MT l W m O):=G.out.Va (by rw[<-z.out];exact(ab.refl [] _).alloc _);have v:=h.out.own
   go_upto_region 7 with fail
   rw[z.out];clear X S Q V T z B
   go_upto_region 9 with (go_at_call 120;refine(fF d _ _ (by omega) (by show 2<=_;omega)).mono ?_;rintro e w1 ⟨rfl,D⟩;rw[D];clear D)
   cases b
   ·cases U:(d.toList == [36,40])
    ·have j:Hid ((O++[⟨d,u,q,r,p⟩])++bQ false (f.drop (k+1))=bQ false f):=by
      show _=_
      rw[<-A.out,bQ,QS (by show ¬(d.toList == [36,40])=true;rw[U];simp)];simp
     go_wp2_with (at_builtin;refine bY W rfl (.tmp 41) (.tmp 43) rfl m O ⟨d,u,q,r,p⟩ rfl v (by omega) rfl ?_;intro w E a c;have y:=hI (h.out.grew c a);clear a c)
     go_roundg (f.length-(k+1))
     case measure=>omega
     case rel=>exact⟨k+1,w,O++[⟨d,u,q,r,p⟩],false,by omega,rfl,by simp,rfl,by go_num,by simp;omega,j,y⟩
    ·have j:Hid (O++bQ true (f.drop (k+1))=bQ false f):=by
      show _=_
      rw[<-A.out,bQ,QV (by show(d.toList == [36,40])=true;exact U)]
     go_wp2
     go_roundg (f.length-(k+1))
     case measure=>omega
     case rel=>exact⟨k+1,m,O,true,by omega,rfl,rfl,rfl,by go_num,by omega,j,h⟩
   ·cases I:(u==0)
    ·have j:Hid ((O++[⟨d,u,q,r,p⟩])++bQ true (f.drop (k+1))=bQ false f):=by
      show _=_
      rw[<-A.out,bQ,QV (by exact I)];simp
     go_wp2_with (at_builtin;refine bY W rfl (.tmp 41) (.tmp 43) rfl m O ⟨d,u,q,r,p⟩ rfl v (by omega) rfl ?_;intro w E a c;have y:=hI (h.out.grew c a);clear a c)
     go_roundg (f.length-(k+1))
     case measure=>omega
     case rel=>exact⟨k+1,w,O++[⟨d,u,q,r,p⟩],true,by omega,rfl,by simp,rfl,by go_num,by simp;omega,j,y⟩
    ·have K:u=0:=by simpa using I
     subst K;clear I
     cases F:(d.toList == [36,41])
     ·cases H:(d.toList == [])
      ·cases x:(ii d ⟨#[36,40]⟩||ii d ⟨#[36,41]⟩)
       ·have j:Hid (O++bQ true (f.drop (k+1))=bQ false f):=by
         show _=_
         rw[<-A.out,bQ,QS (by simp),QS (by show ¬(d.toList == [36,41])=true;rw[F];simp),QS (by show ¬(d.toList == [])=true;rw[H];simp),QS (by rw[x];simp)]
        simp only[R0]at x;obtain⟨x,P⟩:=x;rw[x,P];go_wp2
        go_roundg (f.length-(k+1))
        case measure=>omega
        case rel=>exact⟨k+1,m,O,true,by omega,rfl,rfl,rfl,by go_num,by omega,j,h⟩
       ·have j:Hid (bQ false f=O++[⟨⟨#[]⟩,2,q,r,p⟩]):=by
         show _=_
         rw[<-A.out,bQ,QS (by simp),QS (by show ¬(d.toList == [36,41])=true;rw[F];simp),QS (by show ¬(d.toList == [])=true;rw[H];simp),QV (by rw[x])]
        cases P:ii d ⟨#[36,40]⟩
        ·rw[P,So]at x
         rw[x];go_wp2_with (at_builtin;refine bY W rfl (.tmp 64) (.tmp 68) rfl m O ⟨⟨#[]⟩,2,q,r,p⟩ rfl v (by omega) rfl ?_;intro w E a c;have y:=hI (h.out.grew c a);clear a c);go_ret;exact⟨w,by rw[j.out];simp,by rw[j.out];exact y.out⟩
        ·clear x
         go_wp2_with (at_builtin;refine bY W rfl (.tmp 64) (.tmp 68) rfl m O ⟨⟨#[]⟩,2,q,r,p⟩ rfl v (by omega) rfl ?_;intro w E a c;have y:=hI (h.out.grew c a);clear a c);go_ret;exact⟨w,by rw[j.out];simp,by rw[j.out];exact y.out⟩
      ·have j:Hid ((O++[⟨⟨#[]⟩,3,q,r,p⟩])++bQ true (f.drop (k+1))=bQ false f):=by
        show _=_
        rw[<-A.out,bQ,QS (by simp),QS (by show ¬(d.toList == [36,41])=true;rw[F];simp),QV (by exact H)];simp
       go_wp2_with (at_builtin;refine bY W rfl (.tmp 53) (.tmp 57) rfl m O ⟨⟨#[]⟩,3,q,r,p⟩ rfl v (by omega) rfl ?_;intro w E a c;have y:=hI (h.out.grew c a);clear a c)
       go_roundg (f.length-(k+1))
       case measure=>omega
       case rel=>exact⟨k+1,w,O++[⟨⟨#[]⟩,3,q,r,p⟩],true,by omega,rfl,by simp,rfl,by go_num,by simp;omega,j,y⟩
     ·have j:Hid (O++bQ false (f.drop (k+1))=bQ false f):=by
       show _=_
       rw[<-A.out,bQ,QS (by simp),QV (by exact F)]
      go_wp2
      go_roundg (f.length-(k+1))
      case measure=>omega
      case rel=>exact⟨k+1,m,O,false,by omega,rfl,rfl,rfl,by go_num,by omega,j,h⟩
  ·have e:f.drop k=[]:=Ty (by omega)
   have j:Hid (bQ false f=O):=by
    show _=_
    rw[<-A.out,e]
    cases b <;> simp[bQ]
   go_wp2;go_ret;exact⟨m,by rw[j.out];rfl,by rw[j.out];exact G.out⟩
def bS(s:ByteArray):Bool:=(s.toList == [36,46])||(s.toList == [36,123])||(s.toList == [36,125])
def aO(n:Int)(s:ByteArray):Int :=
 if(s.toList == [36,125])=true then(if(s.toList == [36,123])=true then n+1 else n)-1 else(if(s.toList == [36,123])=true then n+1 else n)
def jz(L:List Tk):Int:=L.foldl (fun n t=>aO n t.s) 0
def dg(L:List Tk):Bool:=match L.getLast? with
 | none=>true
 | some t=>bS t.s&&(jz L==0)
def eu(L:List Tk):Bool:=match L.getLast? with
 | none=>false
 | some t=>!(t.rule==0)
theorem DT(h:n<f.length):jz (f.take (n+1))=aO (jz (f.take n)) f[n].s:=by
 unfold jz;rw[RC h,Sv];rfl
theorem tQ :
  Calls prog 84 #[.string w] l fun e a=>e=.returned (.bool (bS w))/\a=l:=by
 go_enter func84,ntmps84;go_wp2
 all_goals go_ret
 all_goals (refine⟨?_,rfl⟩;simp[bS, *])
theorem DR(A:f.length<=100000)(p:li l L n f) :
  Calls prog 167 #[.slice L f.length n] l fun e v=>e=.returned (.int .i64 (jz f))/\v=l:=by
 have q:=p.1;have s:=hI p;clear p;go_enter func167,ntmps167;go_wp2
 go_loopg [3,4] f.length (fun g y i wr=>∃(k:Nat) (m:Int),k<=f.length/\g=f.length-k/\y=.int .i64 m/\i=.int .i64 k/\(-(k:Int)<=m/\m<=(k:Int))/\Hid (m=jz (f.take k))/\wr=l)
 case atStart=>exact⟨0,0,by omega,rfl,rfl,rfl,by omega,rfl,rfl⟩
 case round =>
  obtain⟨k,m,z,H,rfl,rfl,C,o,rfl⟩:=hrel
  by_cases c:k<f.length
  ·obtain⟨F,rfl,u,x,-⟩:=s.out.2 k f[k] (QO c)
   have b:=hI (DT f k c);have w:(k:Int)<(f.length:Int):=by omega
   rw[<-o.out]at b;generalize f[k]=t at *;obtain⟨j,B,E,G,D⟩:=t;simp only at x b
   cases h:(j.toList == [36,123])
   ·cases a:(j.toList == [36,125])
    ·have d:Hid (m=jz (f.take (k+1))):=by show _=_;rw[b.out,aO,h,a];simp
     go_wp2
     go_roundg (f.length-(k+1))
     case measure=>omega
     case rel=>exact⟨k+1,m,by omega,rfl,rfl,by go_num,by omega,d,rfl⟩
    ·have d:Hid (m-1=jz (f.take (k+1))):=by show _=_;rw[b.out,aO,h,a];simp
     go_wp2
     go_roundg (f.length-(k+1))
     case measure=>omega
     case rel=>exact⟨k+1,m-1,by omega,rfl,by go_num,by go_num,by omega,d,rfl⟩
   ·cases a:(j.toList == [36,125])
    ·have d:Hid (m+1=jz (f.take (k+1))):=by show _=_;rw[b.out,aO,h,a];simp
     go_wp2
     go_roundg (f.length-(k+1))
     case measure=>omega
     case rel=>exact⟨k+1,m+1,by omega,rfl,by go_num,by go_num,by omega,d,rfl⟩
    ·have r:j.toList=[36,123]:=by simpa using h
     rw[r]at a;exact absurd a (by decide)
  ·have e:k=f.length:=by omega
   subst e;rw[RI]at o;go_wp2;go_ret;exact⟨QM o.out,rfl⟩
theorem zH(m:f.length<=100000)(k:li l L n f) :
  Calls prog 117 #[.slice L f.length n] l fun e w=>e=.returned (.bool (dg f))/\w=l:=by
 have i:=k.1;have d:=hI (DR f L n l m k);obtain⟨a,c⟩:∃a,Hid (f.length=a):=⟨_,rfl⟩
 rw[c.out]at m i d ⊢
 by_cases j:a=0
 ·have h:Hid (dg f=true):=by
   show _=_
   have:f=[]:=Rj (by rw[c.out,j]);rw[this];rfl
  subst j;go_enter func117,ntmps117;go_wp2;go_ret;exact⟨aD h.out.symm,rfl⟩
 ·have g:a-1<f.length:=by rw[c.out];omega
  obtain⟨F,rfl,u,x,-⟩:=k.2 (a-1) f[a-1] (QO g)
  have h:Hid (dg f=(bS f[a-1].s&&(jz f==0))):=by
   show _=_
   unfold dg;rw[SN,c.out,QO g]
  generalize f[a-1]=t at *;obtain⟨v,z,C,G,B⟩:=t;simp only at x h;have o:IntKind.i64.wrap ((a:Int)-1)=(a:Int)-1:=by rw[R8];omega
  have p:((a:Int)-1).toNat=a-1:=by omega
  have H:(0:Int)<=(a:Int)-1:=by omega
  have A:(a:Int)-1<(a:Int):=by omega
  have y:(1:Int)<=(a:Int):=by omega
  have E:((a:Int)==0)=false:=by simpa using j
  obtain⟨D,r⟩:∃D,Hid (jz f=D):=⟨_,rfl⟩
  rw[r.out]at h d;go_enter func117,ntmps117;go_wp2_with (first | (go_at_call 167;refine(QT d.out ?_);rintro e q ⟨rfl,b⟩;rw[b];clear b) | (go_at_call 84;refine(tQ v _).mono ?_;rintro e q ⟨rfl,b⟩;rw[b];clear b))
  all_goals go_ret
  all_goals (refine⟨aD ?_,rfl⟩;rw[h.out];simp[*])
theorem uB(k:f.length<=100000)(i:li l L n f) :
  Calls prog 83 #[.slice L f.length n] l fun e q=>e=.returned (.bool (eu f))/\q=l:=by
 have d:=i.1;obtain⟨a,b⟩:∃a,Hid (f.length=a):=⟨_,rfl⟩
 rw[b.out]at k d ⊢
 by_cases h:a=0
 ·have g:Hid (eu f=false):=by
   show _=_
   have:f=[]:=Rj (by rw[b.out,h]);rw[this];rfl
  subst h;go_enter func83,ntmps83;go_wp2;go_ret;exact⟨aD g.out.symm,rfl⟩
 ·have c:a-1<f.length:=by rw[b.out];omega
  obtain⟨y,rfl,p,-,m,-⟩:=i.2 (a-1) f[a-1] (QO c)
  have g:Hid (eu f=!(f[a-1].rule==0)):=by
   show _=_
   unfold eu;rw[SN,b.out,QO c]
  generalize f[a-1]=t at *;obtain⟨B,s,w,A,v⟩:=t;simp only at m g;have j:IntKind.i64.wrap ((a:Int)-1)=(a:Int)-1:=by rw[R8];omega
  have o:((a:Int)-1).toNat=a-1:=by omega
  have C:(0:Int)<=(a:Int)-1:=by omega
  have u:(a:Int)-1<(a:Int):=by omega
  have r:(1:Int)<=(a:Int):=by omega
  have x:(0:Int)<(a:Int):=by omega
  have z:0<a:=by omega
  go_enter func83,ntmps83;go_wp2
  all_goals go_ret
  all_goals (refine⟨aD ?_,rfl⟩;rw[g.out];first | rfl | simp[*])
def mU(w:World)(ao:Option Addr)(cap:Nat)(fs:Fs):Prop:=fs.length<=cap/\∀k,k<fs.length->∃g,ao=some ⟨g,0,none⟩/\g<w.heap.size/\w.cell? ⟨g,k*2,none⟩=some (.string (aE fs k))/\w.cell? ⟨g,k*2+1,none⟩=some (.string (ak fs k))
theorem mU.Va(h:mU H y7 S y8)(k:ab [] H T):mU T y7 S y8:=by
 refine⟨h.1,fun j b=>?_⟩;obtain⟨g,e,a,d,c⟩:=h.2 j b;have q:∀o,T.cell? ⟨g,o,none⟩=H.cell? ⟨g,o,none⟩:=fun o=>Q5 (k.block g a (by simp))
 exact⟨g,e,QW a k.size,by rw[q];exact d,by rw[q];exact c⟩
theorem mt(q:v.length<=100000)(d:mU l L zb v) :
  Calls prog 35 #[.slice L v.length zb,.string w] l fun e n=>e=.returned (.int .i64 (bF v w))/\n=l:=by
 have f:=d.1;have j:=hI d;clear d;go_enter func35,ntmps35;go_wp2
 go_loopg [5] v.length (fun g i wr=>∃k:Nat,k<=v.length/\g=v.length-k/\i=.int .i64 k/\Hid (bF v w=du w (v.drop k) k)/\wr=l)
 case atStart=>exact⟨0,by omega,by omega,rfl,rfl,rfl⟩
 case round =>
  obtain⟨k,p,t,rfl,a,rfl⟩:=hrel
  by_cases b:k<v.length
  ·obtain⟨s,rfl,m,u,r⟩:=j.out.2 k b
   have o:(k:Int)<(v.length:Int):=by omega
   cases h:((aE v k).toList==w.toList)
   ·have c:Hid (bF v w=du w (v.drop (k+1)) (k+1)):=yq v w k b a.out h
    clear a;go_wp2
    go_roundg (v.length-(k+1))
    case measure=>omega
    case rel=>exact⟨k+1,by omega,rfl,by go_num,c,rfl⟩
   ·have c:Hid (bF v w=k):=BB v w k b a.out h
    clear a;go_wp2;go_ret;exact⟨QM c.out.symm,rfl⟩
  ·have c:Hid (bF v w=-1):=yw v w k b a.out
   clear a;go_wp2;go_ret;exact⟨QM c.out.symm,rfl⟩
def dm(fs:Fs)(s:ByteArray)(r:Int):Int :=
 if(r==0)=false then r else if(s.toList == [])=true then 7 else if ii s ⟨#[36]⟩=true then 5 else if bF fs s<0 then 6 else 0
def dI(s:ByteArray)(r:Int):Int :=
 if(r==0)=false then r else if(s.toList == [])=true then 7 else if(s.toList == [36,93])=false then 5 else 0
theorem Bj :
  Calls prog 119 #[.agg #[.string b,.int .i64 M,.string w,.int .i64 N,.int .i64 a]] l fun e i=>e=.returned (.agg #[.string ⟨#[]⟩,.int .i64 (dI b M),.string w,.int .i64 N,.int .i64 a])/\ab [] l i:=by
 cases f:(M==0)
 ·have c:Hid (dI b M=M):=by show _=_;unfold dI;rw[QV f]
  rw[c.out];go_enter func119,ntmps119;go_wp2;exact QX (v:=.agg #[.string ⟨#[]⟩,.int .i64 M,.string w,.int .i64 N,.int .i64 a]) (by simp[results,results119,go_sem]) rfl ⟨rfl,((ab.refl _ _).alloc _).alloc _⟩
 ·have d:M=0:=by simpa using f
  subst d;clear f
  cases g:(b.toList == [])
  ·cases h:(b.toList == [36,93])
   ·have c:Hid (dI b 0=5):=by show _=_;unfold dI;rw[QS (by simp),QS (by rw[g];simp),QV h]
    rw[c.out];go_enter func119,ntmps119;go_wp2;exact QX (v:=.agg #[.string ⟨#[]⟩,.int .i64 5,.string w,.int .i64 N,.int .i64 a]) (by simp[results,results119,go_sem]) rfl ⟨rfl,((ab.refl _ _).alloc _).alloc _⟩
   ·have c:Hid (dI b 0=0):=by show _=_;unfold dI;rw[QS (by simp),QS (by rw[g];simp),QS (by rw[h];simp)]
    rw[c.out];go_enter func119,ntmps119;go_wp2;exact QX (v:=.agg #[.string ⟨#[]⟩,.int .i64 0,.string w,.int .i64 N,.int .i64 a]) (by simp[results,results119,go_sem]) rfl ⟨rfl,((ab.refl _ _).alloc _).alloc _⟩
  ·have c:Hid (dI b 0=7):=by show _=_;unfold dI;rw[QS (by simp),QV g]
   rw[c.out];go_enter func119,ntmps119;go_wp2;exact QX (v:=.agg #[.string ⟨#[]⟩,.int .i64 7,.string w,.int .i64 N,.int .i64 a]) (by simp[results,results119,go_sem]) rfl ⟨rfl,((ab.refl _ _).alloc _).alloc _⟩
theorem EC(t:v.length<=100000)(u:mU l L zb v)(s:b.size<=1073741824) :
  Calls prog 118 #[.slice L v.length zb,.agg #[.string b,.int .i64 M,.string w,.int .i64 N,.int .i64 a]] l fun e q=>e=.returned (.agg #[.string ⟨#[]⟩,.int .i64 (dm v b M),.string w,.int .i64 N,.int .i64 a])/\ab [] l q:=by
 have d:Hid (∀i,ab [] l i->Calls prog 35 #[.slice L v.length zb,.string b] i fun e q=>e=.returned (.int .i64 (bF v b))/\q=i):=fun i k=>mt v L zb b i t (u.Va k)
 obtain⟨m,h⟩:∃m,Hid (bF v b=m):=⟨_,rfl⟩
 rw[h.out]at d
 cases o:(M==0)
 ·have g:Hid (dm v b M=M):=by show _=_;unfold dm;rw[QV o]
  rw[g.out];go_enter func118,ntmps118;go_wp2_with (first | (go_at_call 120;refine(fF b _ _ (by omega) (by show 1<=_;omega)).mono ?_;rintro e f ⟨rfl,c⟩;rw[c];clear c) | (go_at_call 35;refine(d.out _ (by exact((ab.refl [] l).alloc _).alloc _)).mono ?_;rintro e f ⟨rfl,c⟩;rw[c];clear c));exact QX (v:=.agg #[.string ⟨#[]⟩,.int .i64 M,.string w,.int .i64 N,.int .i64 a]) (by simp[results,results118,go_sem]) rfl ⟨rfl,((ab.refl _ _).alloc _).alloc _⟩
 ·have p:M=0:=by simpa using o
  subst p;clear o
  cases j:(b.toList == [])
  ·cases n:ii b ⟨#[36]⟩
   ·by_cases r:m<0
    ·have g:Hid (dm v b 0=6):=by show _=_;unfold dm;rw[QS (by simp),QS (by rw[j];simp),QS (by rw[n];simp),h.out,QV r]
     rw[g.out];go_enter func118,ntmps118;go_wp2_with (first | (go_at_call 120;refine(fF b _ _ (by omega) (by show 1<=_;omega)).mono ?_;rintro e f ⟨rfl,c⟩;rw[c];clear c) | (go_at_call 35;refine(d.out _ (by exact((ab.refl [] l).alloc _).alloc _)).mono ?_;rintro e f ⟨rfl,c⟩;rw[c];clear c));exact QX (v:=.agg #[.string ⟨#[]⟩,.int .i64 6,.string w,.int .i64 N,.int .i64 a]) (by simp[results,results118,go_sem]) rfl ⟨rfl,((ab.refl _ _).alloc _).alloc _⟩
    ·have g:Hid (dm v b 0=0):=by show _=_;unfold dm;rw[QS (by simp),QS (by rw[j];simp),QS (by rw[n];simp),h.out,QS r]
     rw[g.out];go_enter func118,ntmps118;go_wp2_with (first | (go_at_call 120;refine(fF b _ _ (by omega) (by show 1<=_;omega)).mono ?_;rintro e f ⟨rfl,c⟩;rw[c];clear c) | (go_at_call 35;refine(d.out _ (by exact((ab.refl [] l).alloc _).alloc _)).mono ?_;rintro e f ⟨rfl,c⟩;rw[c];clear c));exact QX (v:=.agg #[.string ⟨#[]⟩,.int .i64 0,.string w,.int .i64 N,.int .i64 a]) (by simp[results,results118,go_sem]) rfl ⟨rfl,((ab.refl _ _).alloc _).alloc _⟩
   ·have g:Hid (dm v b 0=5):=by show _=_;unfold dm;rw[QS (by simp),QS (by rw[j];simp),QV n]
    rw[g.out];go_enter func118,ntmps118;go_wp2_with (first | (go_at_call 120;refine(fF b _ _ (by omega) (by show 1<=_;omega)).mono ?_;rintro e f ⟨rfl,c⟩;rw[c];clear c) | (go_at_call 35;refine(d.out _ (by exact((ab.refl [] l).alloc _).alloc _)).mono ?_;rintro e f ⟨rfl,c⟩;rw[c];clear c));exact QX (v:=.agg #[.string ⟨#[]⟩,.int .i64 5,.string w,.int .i64 N,.int .i64 a]) (by simp[results,results118,go_sem]) rfl ⟨rfl,((ab.refl _ _).alloc _).alloc _⟩
  ·have g:Hid (dm v b 0=7):=by show _=_;unfold dm;rw[QS (by simp),QV j]
   rw[g.out];go_enter func118,ntmps118;go_wp2_with (first | (go_at_call 120;refine(fF b _ _ (by omega) (by show 1<=_;omega)).mono ?_;rintro e f ⟨rfl,c⟩;rw[c];clear c) | (go_at_call 35;refine(d.out _ (by exact((ab.refl [] l).alloc _).alloc _)).mono ?_;rintro e f ⟨rfl,c⟩;rw[c];clear c));exact QX (v:=.agg #[.string ⟨#[]⟩,.int .i64 7,.string w,.int .i64 N,.int .i64 a]) (by simp[results,results118,go_sem]) rfl ⟨rfl,((ab.refl _ _).alloc _).alloc _⟩
def uV(L:List Tk):Prop:=∃t,L.getLast?=some t/\(t.s.toList == [])=true
theorem uV.next(h:uV d)(i:Nat)(t:Tk)(c:d[i]?=some t)(b:(t.s.toList == [])=false):i+1<d.length:=by
 obtain⟨u,a,f⟩:=h;obtain⟨g,-⟩:=Q7.1 c;rw[SN]at a
 by_cases e:i=d.length-1
 ·rw[<-e,c]at a
  cases a
  rw[f]at b
  cases b
 ·omega
theorem tP{t:Tk}(h:uV d):uV (t :: d):=by
 obtain⟨u,b,c⟩:=h
 cases d with
 | nil=>cases b
 | cons a r=>exact⟨u,by rw[UO];exact b,c⟩
theorem oG:((⟨#[]⟩:ByteArray).toList == [])=true:=by decide +kernel
theorem Bu:uV [⟨⟨#[]⟩,M,w,N,a⟩]:=⟨_,rfl,oG⟩
theorem Kd:uV (ij b w):=by
 unfold ij
 split
 ·exact⟨_,Tb,oG⟩
 ·exact⟨_,Tb,oG⟩
theorem G0(h:uV k):uV (bQ z3 k):=by
 induction k generalizing z3 with
 | nil=>obtain⟨u,f,-⟩:=h;cases f
 | cons t r d =>
  cases r with
  | nil =>
   obtain⟨u,f,b⟩:=h;have e:u=t:=by simpa using f.symm
   subst e;have g:u.s.toList=[]:=by simpa using b
   cases z3
   ·rw[bQ,QS (by unfold Du;rw[g];decide)]
    exact⟨u,rfl,b⟩
   ·rw[bQ]
    split
    ·exact⟨u,rfl,b⟩
    ·rw[QS (by unfold Du;rw[g];decide),QV (by unfold Du;exact b)]
     exact Bu _ _ _ _
  | cons a r =>
   have c:uV (a :: r):=by
    obtain⟨u,f,b⟩:=h;exact⟨u,by rw[UO]at f;exact f,b⟩
   cases z3
   ·rw[bQ]
    split
    ·exact d true c
    ·exact tP (d false c)
   ·rw[bQ]
    split
    ·exact tP (d true c)
    ·split
     ·exact d false c
     ·split
      ·exact tP (d true c)
      ·split
       ·exact Bu _ _ _ _
       ·exact d true c
def qU(fs:Fs)(k:Nat):List Tk:=bQ false (ij (aE fs k) (ak fs k))
theorem ML:uV (qU v n):=G0 _ _ (Kd _ _)
theorem Dd:(qU v n).length<=(ak v n).size+2:=Q1 (KE _ _) (zs _ _)
def qN(t:Tk)(r:Int):Tk:=⟨⟨#[]⟩,r,t.file,t.line,t.col⟩
def cv(rec:Nat->List Bool->List Tk->List Tk×List Bool)(fs:Fs):List Tk->List Bool->List Tk->List Tk×List Bool
 | [],sn,out=>(out,sn)
 | t :: r,sn,out =>
  if((t.rule==0)&&(t.s.toList == []))=true then((if dg out=true then out else out++[qN t 7]),sn)
  else if(t.s.toList == [36,91])=false then cv rec fs r sn (out++[t])
  else if dg out=false then(out++[qN t 4],sn)
  else match r with
   | a :: b :: r' =>
    if(dm fs a.s a.rule==0)=false then(out++[qN a (dm fs a.s a.rule)],sn)
    else if(dI b.s b.rule==0)=false then(out++[qN b (dI b.s b.rule)],sn)
    else if sn.getD (bF fs a.s).toNat true=true then cv rec fs r' sn out
    else if eu (rec (bF fs a.s).toNat sn out).1=true then rec (bF fs a.s).toNat sn out
    else cv rec fs r' (rec (bF fs a.s).toNat sn out).2 (rec (bF fs a.s).toNat sn out).1
   | [a]=>(out++[qN a (dm fs a.s a.rule)],sn)
   | []=>(out,sn)
def dQ(fs:Fs):Nat->Nat->List Bool->List Tk->List Tk×List Bool
 | 0,_,sn,out=>(out,sn)
 | n+1,k,sn,out=>cv (dQ fs n) fs (qU fs k) (sn.set k true) out
def aQ(sn:List Bool):Nat:=sn.countP (fun b=>!b)
theorem lB(h:z6[n]?=some false):aQ (z6.set n true)+1=aQ z6:=by
 unfold aQ
 induction z6 generalizing n with
 | nil=>cases h
 | cons b r a =>
  cases n with
  | zero =>
   simp at h;subst h;simp
  | succ n =>
   have:=a n (by simpa using h);rw[SA,List.countP_cons,List.countP_cons];omega
def jy(w:World)(g:Nat)(sn:List Bool):Prop:=w.heap[g]?=some (.cells (sn.map Value.bool).toArray 4 (0,0))
theorem jy.cell(h:jy H S z7)(k:Nat)(b:Bool)(a:z7[k]?=some b):H.cell? ⟨S,k,none⟩=some (.bool b):=by
 rw[aa h];simp[a]
theorem jy.kept(h:jy H S z7)(k:ab y9 H T)(a:S∉y9):jy T S z7:=k.get h a
theorem jy.set(h:jy H S z7)(k:Nat):jy (H.setCell ⟨S,k,none⟩ (.bool true)) S (z7.set k true):=by
 unfold jy;rw[ah h];simp[Tm]
theorem Fv(h:z6[n]?=some false):0<aQ z6:=by
 have:=lB z6 n h;omega
structure uX(w w':World)(gs:Nat)(h h':Hd):Prop where
 kept:ab (gs :: h.blk.toList) w w'
 blk:h'.blk=h.blk∨∃g,h'.blk=some g/\w.heap.size<=g
theorem uX.refl(a:Nat)(h:Hd):uX l l a h h:=⟨ab.refl _ _,Q0 rfl⟩
theorem uX.of(a:bt H T y g):uX H T S y g:=⟨a.kept.mono (fun _ b _=>Rl _ b),a.blk⟩
theorem uX.trans{w1:World}(a:uX H w1 S y g)(b:uX w1 T S g y3):uX H T S y y3:=by
 refine⟨⟨b.kept.os.trans a.kept.os,b.kept.tape.trans a.kept.tape,b.kept.output.trans a.kept.output,Q1 a.kept.size b.kept.size,fun k j i=>?_⟩,?_⟩
 ·rw[b.kept.block k (QW j a.kept.size) (fun h=>?_),a.kept.block k j i]
  rcases Ri.1 h with e | h
  ·exact i (by rw[e];simp)
  ·have e:=aN h
   rcases a.blk with c | ⟨d,c,f⟩
   ·exact i (Rl _ (by rw[<-c,e];simp))
   ·rw[c]at e;cases e;omega
 ·rcases b.blk with e | ⟨d,e,f⟩
  ·rcases a.blk with c | ⟨d,c,f⟩
   ·exact Q0 (e.trans c)
   ·exact QU ⟨d,e.trans c,f⟩
  ·exact QU ⟨d,e,Q1 a.kept.size f⟩
structure rd(w:World)(gf cap:Nat)(fs:Fs)(gs:Nat)(sn:List Bool)(h:Hd)(O:List Tk):Prop where
 own:aw w h (ir O)
 seen:jy w gs sn
 src:mU w (some ⟨gf,0,none⟩) cap fs
 a1:h.blk≠some gs
 a2:h.blk≠some gf
 a3:gf≠gs
 lt:gf<w.heap.size
theorem mU.kept(h:mU H (some ⟨S,0,none⟩) ya y8)(k:ab y9 H T)(f:S∉y9):mU T (some ⟨S,0,none⟩) ya y8:=by
 refine⟨h.1,fun j b=>?_⟩;obtain⟨g,e,a,d,c⟩:=h.2 j b;have i:g=S:=by cases e;rfl
 subst i;have q:∀o,T.cell? ⟨g,o,none⟩=H.cell? ⟨g,o,none⟩:=fun o=>Q5 (k.block g a f)
 exact⟨g,rfl,QW a k.size,by rw[q];exact d,by rw[q];exact c⟩
section
variable {w w':World} {gf cap:Nat} {fs:Fs} {gs:Nat} {sn sn':List Bool} {h h':Hd} {O O':List Tk}
theorem rd.Va(a:rd w gf cap fs gs sn h O)(k:ab [] w w'):rd w' gf cap fs gs sn h O :=
 ⟨a.own.Va k,a.seen.kept k (by simp),a.src.kept k (by simp),a.a1,a.a2,a.a3,QW a.lt k.size⟩
theorem rd.far(a:rd w gf cap fs gs sn h O)(r:uX w w' gs h h'):h'.blk≠some gs/\h'.blk≠some gf:=by
 have c:=ae a.seen;have b:=a.lt
 rcases r.blk with e | ⟨g,e,d⟩
 ·rw[e];exact⟨a.a1,a.a2⟩
 ·rw[e];exact⟨fun q=>by cases q;omega,fun q=>by cases q;omega⟩
theorem rd.turn(a:rd w gf cap fs gs sn h O)(r:uX w w' gs h h')(o:aw w' h' (ir O'))(s:jy w' gs sn'):rd w' gf cap fs gs sn' h' O':=by
 obtain⟨d,c⟩:=a.far r;refine⟨o,s,a.src.kept r.kept (fun b=>?_),d,c,a.a3,QW a.lt r.kept.size⟩
 rcases Ri.1 b with e | b
 ·exact a.a3 e
 ·exact a.a2 (aN b)
theorem rd.grew(a:rd w gf cap fs gs sn h O)(g:bt w w' h h')(o:aw w' h' (ir O')):rd w' gf cap fs gs sn h' O' :=
 a.turn (uX.of g) o (a.seen.kept g.kept (fun b=>a.a1 (aN b)))
end
theorem Ka:(w.extract x n).size<=w.size:=by rw[Tv];omega
theorem xu(h:∀t∈k,t.s.size<=w.size):∀t∈je b w x n k,t.s.size<=w.size:=by
 intro t a;unfold je at a
 split at a
 ·exact h t a
 ·rcases Rq.1 a with a | a
  ·exact h t a
  ·rw[Q8.1 a];exact Ka w x n
theorem zo:∀t∈jd b w n,t.s.size<=w.size:=by
 induction n with
 | zero=>intro t c;cases c
 | succ n a =>
  rw[jd]
  split
  ·exact xu b w _ _ _ a
  ·exact a
theorem xx:∀t∈ij b w,t.s.size<=w.size:=by
 intro t a;unfold ij at a
 split at a
 ·rcases Rq.1 a with a | a
  ·exact zo b w _ t a
  ·rw[Q8.1 a];exact Rn _
 ·rcases Rq.1 a with a | a
  ·exact xu b w _ _ _ (zo b w _) t a
  ·rw[Q8.1 a];exact Rn _
theorem G3(h:∀t∈k,t.s.size<=n):∀t∈bQ z3 k,t.s.size<=n:=by
 induction k generalizing z3 with
 | nil=>intro t b;cases z3 <;> simp[bQ]at b
 | cons a r f =>
  have c:=fun z3=>f z3 (fun t b=>h t (Rl _ b))
  have d:=h a (by simp);intro t b
  cases z3
  ·rw[bQ]at b
   split at b
   ·exact c _ t b
   ·rcases Ri.1 b with e | b
    ·rw[e];exact d
    ·exact c _ t b
  ·rw[bQ]at b
   split at b
   ·rcases Ri.1 b with e | b
    ·rw[e];exact d
    ·exact c _ t b
   ·split at b
    ·exact c _ t b
    ·split at b
     ·rcases Ri.1 b with e | b
      ·rw[e];exact Rn _
      ·exact c _ t b
     ·split at b
      ·rw[Q8.1 b];exact Rn _
      ·exact c _ t b
theorem JZ:∀t∈qU v n,t.s.size<=(ak v n).size:=G3 _ _ _ (xx _ _)
end Go.Proofs.YtpddjjabfbfifaaGreat
