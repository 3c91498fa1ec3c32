import Derived.Deep.RegionHeld3
import Derived.Laws.OwnMore
import Derived.Test.YtpddjjabfbfifaaGreatG02
namespace Go.Proofs.YtpddjjabfbfifaaGreat
open Go.RowKit Tryz
set_option maxHeartbeats 0
variable{f v zb:World}{i zt:ByteArray}{S y2 yg:Nat}{a g x4:Hd}{yy:dN}{ya:Array Oper}{yr:List Oper}{L:Oper}{I:Act}{yd:Exit->Act->World->Prop}{y6:Program}{x5:Act->World->Prop}{d M:List Tk}{yz:Int}{z7 x6:Option Addr}{N:Fs}{z5:Tk}{z0:List Bool}{ys:List Nat}{yt:Nat->List Bool->List Tk->List Tk×List Bool}{yu:List ByteArray}(T:Fs)(o:List ByteArray)(yf:Option Addr)(z6 y:Nat)(H w:ByteArray)(y3 y5 z4:Int)(x:Nat)(l:List Tk)(D:Option Addr)(k n:Nat)(y4:List Tk)(b:World)(yv:Tk)
theorem rk :
  Calls prog 164 #[.int .u8 z4] b fun e a=>e=.returned (.bool (cO z4))/\a=b:=by
 go_enter func164,ntmps164;go_wp2
 all_goals go_ret
 all_goals (refine⟨?_,rfl⟩;first | (simp[cO, *];done) | (simp[cO, *,Bool.or_assoc];rw[Bool.or_comm (z4==13)]))
theorem lu :
  Calls prog 78 #[.int .u8 z4] b fun e a=>e=.returned (.bool (fn z4))/\a=b:=by
 go_enter func78,ntmps78;go_wp2
 all_goals go_ret
 all_goals (refine⟨?_,rfl⟩;first | (simp[fn, *];done) | (simp[fn];omega) | (rename_i h;simp only[fn];rw[show decide (33<=z4)=true by simp;omega];simp;omega))
theorem fF(s:H.size<=4294967296)(t:w.size<=4294967296) :
  Calls prog 120 #[.string H,.string w] b fun e p=>e=.returned (.bool (ii H w))/\p=b:=by
 go_enter func120,ntmps120;go_wp2
 go_loopg [5] (H.size+1) (fun g i wr=>∃k:Nat,k<=H.size+1/\g=H.size+1-k/\i=.int .i64 k/\Hid (∀i,i<k->i+w.size<=H.size->rO H w i=false)/\wr=b)
 case atStart=>exact⟨0,by omega,by omega,rfl,fun i h=>by omega,rfl⟩
 case round =>
  obtain⟨k,r,q,rfl,a,rfl⟩:=hrel
  by_cases f:k+w.size<=H.size
  ·have m:(k:Int)<=(k:Int)+(w.size:Int):=by omega
   have n:(k:Int)+(w.size:Int)<=(H.size:Int):=by omega
   have o:((k:Int)+(w.size:Int)).toNat=k+w.size:=by omega
   cases j:((H.extract k (k+w.size)).toList==w.toList)
   ·go_wp2
    go_roundg (H.size+1-(k+1))
    case measure=>omega
    case rel =>
     refine⟨k+1,by omega,rfl,by go_num,?_,rfl⟩;intro i l c
     by_cases e:i=k
     ·subst e;exact j
     ·exact a.out i (by omega) c
   ·have d:Hid (ii H w=true):=mZ k (by omega) (by simp[f,rO,j])
    go_wp2;go_ret;exact⟨aD d.out.symm,rfl⟩
  ·have d:Hid (ii H w=false):=vH (fun i l=>by
    by_cases c:i+w.size<=H.size
    ·simp[a.out i (by omega) c]
    ·simp[c])
   go_wp2;go_ret;exact⟨aD d.out.symm,rfl⟩
structure uX(w wr:World)(nm d:ByteArray)(j:Nat):Prop where
 f:wr.heap[w.heap.size]?=some (.cells #[.string nm,.string d] 68 (0,0))
 r:wr.heap[w.heap.size+1]?=some (.cells #[.string ⟨#[]⟩,.int .i64 0,.int .i64 0] 36 (0,0))
 p:wr.heap[w.heap.size+2]?=some (.cells #[.string nm,.int .i64 (aP d j),.int .i64 (bm d j)] 36 (0,0))
 kept:ab [] w wr
theorem uX.start(a d:ByteArray):uX b (((b.alloc (.cells #[.string a,.string d] 68)).alloc (.cells #[.string ⟨#[]⟩,.int .i64 0,.int .i64 0] 36)).alloc (.cells #[.string a,.int .i64 1,.int .i64 1] 36)) a d 0:=by
 have i:=(ab.refl [] b).alloc (.cells #[.string a,.string d] 68);have e:=(ab.refl [] (b.alloc (.cells #[.string a,.string d] 68))).alloc (.cells #[.string ⟨#[]⟩,.int .i64 0,.int .i64 0] 36);have c:=(ab.refl [] ((b.alloc (.cells #[.string a,.string d] 68)).alloc (.cells #[.string ⟨#[]⟩,.int .i64 0,.int .i64 0] 36))).alloc (.cells #[.string a,.int .i64 1,.int .i64 1] 36);have f:(b.alloc (.cells #[.string a,.string d] 68)).heap[b.heap.size]?=some (.cells #[.string a,.string d] 68 (0,0)):=QS _ _;have g:=QS (b.alloc (.cells #[.string a,.string d] 68)) (.cells #[.string ⟨#[]⟩,.int .i64 0,.int .i64 0] 36);have h:=QS ((b.alloc (.cells #[.string a,.string d] 68)).alloc (.cells #[.string ⟨#[]⟩,.int .i64 0,.int .i64 0] 36)) (.cells #[.string a,.int .i64 1,.int .i64 1] 36);refine⟨c.get (e.get f (by simp)) (by simp),c.get (by simpa using g) (by simp),by simpa [aP,bm] using h,(i.trans e).trans c⟩
theorem uX.other(h:uX f v i zt S)(a:(aF zt S==10)=false):uX f (v.setCell ⟨f.heap.size+1+1,2,none⟩ (.int .i64 (bm zt S+1))) i zt (S+1):=by
 have k:ab [f.heap.size+1+1] v (v.setCell ⟨f.heap.size+1+1,2,none⟩ (.int .i64 (bm zt S+1))):=(ab.refl _ _).setCell (Q1 (by simp)) _;refine⟨k.get h.f (by simp;omega),k.get h.r (by simp),?_,h.kept.setCell (QV (by show _<=f.heap.size+1+1;omega)) _⟩;rw[ah h.p];simp[aP,bm,a]
theorem uX.lf(h:uX f v i zt S)(a:(aF zt S==10)=true):uX f (((v.setCell ⟨f.heap.size+1+1,2,none⟩ (.int .i64 (bm zt S+1))).setCell ⟨f.heap.size+1+1,1,none⟩ (.int .i64 (aP zt S+1))).setCell ⟨f.heap.size+1+1,2,none⟩ (.int .i64 1)) i zt (S+1):=by
 have k:ab [f.heap.size+1+1] v (((v.setCell ⟨f.heap.size+1+1,2,none⟩ (.int .i64 (bm zt S+1))).setCell ⟨f.heap.size+1+1,1,none⟩ (.int .i64 (aP zt S+1))).setCell ⟨f.heap.size+1+1,2,none⟩ (.int .i64 1)):=(((ab.refl _ _).setCell (Q1 (by simp)) _).setCell (Q1 (by simp)) _).setCell (Q1 (by simp)) _;refine⟨k.get h.f (by simp;omega),k.get h.r (by simp),?_,((h.kept.setCell (QV (by show _<=f.heap.size+1+1;omega)) _).setCell (QV (by show _<=f.heap.size+1+1;omega)) _).setCell (QV (by show _<=f.heap.size+1+1;omega)) _⟩;rw[ah (ah (ah h.p 2 _) 1 _) 2 _];simp[aP,bm,a]
theorem rI(Q:n<=w.size)(N:w.size<=1073741824) :
  Calls prog 165 #[.agg #[.string H,.string w],.int .i64 n] b fun e x=>e=.returned (.agg #[.string H,.int .i64 (aP w n),.int .i64 (bm w n)])/\ab [] b x:=by
 go_enter func165,ntmps165;go_wp2
 go_loopg [6] n (fun g i wr=>∃j:Nat,j<=n/\g=n-j/\i=.int .i64 j/\Hid (uX b wr H w j))
 case atStart=>exact⟨0,by omega,rfl,rfl,uX.start b H w⟩
 case round =>
  obtain⟨j,P,O,rfl,d⟩:=hrel;have q:=d.out.f;have a:=d.out.r;have c:=d.out.p;have U:=ae c;have D:wr.cell? ⟨b.heap.size,1,none⟩=some (.string w):=by rw[aa q];rfl
  have E:wr.cell? ⟨b.heap.size+2,0,none⟩=some (.string H):=by rw[aa c];rfl
  have F:wr.cell? ⟨b.heap.size+2,1,none⟩=some (.int .i64 (aP w j)):=by rw[aa c];rfl
  have G:wr.cell? ⟨b.heap.size+2,2,none⟩=some (.int .i64 (bm w j)):=by rw[aa c];rfl
  have I:=am c 1;have J:=am c 2;have K:=am a 0;have L:=am a 1;have M:=am a 2;have R:wr.cell? ⟨b.heap.size+1,0,none⟩=some (.string ⟨#[]⟩):=by rw[aa a];rfl
  have S:wr.cell? ⟨b.heap.size+1,1,none⟩=some (.int .i64 0):=by rw[aa a];rfl
  have T:wr.cell? ⟨b.heap.size+1,2,none⟩=some (.int .i64 0):=by rw[aa a];rfl
  have C:=Ai w j;have B:=zL w j
  by_cases u:j<n
  ·have h:j<w.size:=by omega
   cases o:((w[j].toNat:Int)==10)
   ·have k:Hid (uX b _ H w (j+1)):=d.out.other (by rw[bP w j h];exact o)
    go_wp2
    go_roundg (n-(j+1))
    case measure=>omega
    case rel=>exact⟨j+1,by omega,rfl,by go_num,k.out⟩
   ·have k:Hid (uX b _ H w (j+1)):=d.out.lf (by rw[bP w j h];exact o)
    go_wp2
    go_roundg (n-(j+1))
    case measure=>omega
    case rel=>exact⟨j+1,by omega,rfl,by go_num,k.out⟩
  ·have e:j=n:=by omega
   subst e;have s:Hid _:=d.out.kept;go_wp2;have l:=ah a 0 (.string H);have m:=ah l 1 (.int .i64 (aP w j));have t:=ah m 2 (.int .i64 (bm w j));have y:(wr.setCell ⟨b.heap.size+1,0,none⟩ (.string H)).cell? ⟨b.heap.size+1,0,none⟩=some (.string H):=by rw[aa l];rfl
   have z:((wr.setCell ⟨b.heap.size+1,0,none⟩ (.string H)).setCell ⟨b.heap.size+1,1,none⟩ (.int .i64 (aP w j))).cell? ⟨b.heap.size+1,1,none⟩=some (.int .i64 (aP w j)):=by rw[aa m];rfl
   have A:(((wr.setCell ⟨b.heap.size+1,0,none⟩ (.string H)).setCell ⟨b.heap.size+1,1,none⟩ (.int .i64 (aP w j))).setCell ⟨b.heap.size+1,2,none⟩ (.int .i64 (bm w j))).cell? ⟨b.heap.size+1,2,none⟩=some (.int .i64 (bm w j)):=by rw[aa t];rfl
   exact QY (v:=.agg #[.string H,.int .i64 (aP w j),.int .i64 (bm w j)]) (by simp[results,results165,go_sem,y,z,A]) rfl ⟨rfl,((s.out.setCell (QV (by simp)) _).setCell (QV (by simp)) _).setCell (QV (by simp)) _⟩
structure bt(w w':World)(h h':Hd):Prop where
 kept:ab h.blk.toList w w'
 blk:h'.blk=h.blk∨∃g,h'.blk=some g/\w.heap.size<=g
theorem aN(b:S∈a.blk.toList):a.blk=some S:=by
 cases e:a.blk with
 | none=>rw[e]at b;simp at b
 | some y=>rw[e]at b;simp at b;rw[b]
theorem bt.Vb(k:ab [] f v):bt f v a a:=⟨k.mono (by simp),Q1 rfl⟩
theorem bt.trans{w1:World}(c:bt f w1 a g)(b:bt w1 v g x4):bt f v a x4:=by
 refine⟨⟨b.kept.os.trans c.kept.os,b.kept.tape.trans c.kept.tape,b.kept.output.trans c.kept.output,Q3 c.kept.size b.kept.size,fun k j l=>?_⟩,?_⟩
 ·rw[b.kept.block k (QX j c.kept.size) (fun m=>?_),c.kept.block k j l]
  have e:=aN m
  rcases c.blk with d | ⟨h,d,i⟩
  ·exact l (by rw[<-d,e];simp)
  ·rw[d]at e;cases e;omega
 ·rcases b.blk with e | ⟨h,e,i⟩
  ·rcases c.blk with d | ⟨h,d,i⟩
   ·exact Q1 (e.trans d)
   ·exact QV ⟨h,e.trans d,i⟩
  ·exact QV ⟨h,e,Q3 c.kept.size i⟩
theorem bt.made(b:f.grownBy v a.blk)(c:a.blk=some S∨f.heap.size<=S):bt f v a ⟨some ⟨S,0,none⟩,y2⟩ :=
 ⟨⟨b.os,b.tape,b.output,b.size,fun k d g=>b.block k d (fun e=>g (by rw[<-e];simp))⟩,by
  rcases c with e | e
  ·exact Q1 e.symm
  ·exact QV ⟨S,rfl,e⟩⟩
theorem aw.Vb(o:aw f a yy)(k:ab [] f v):aw v a yy:=o.Vg (fun q b=>k.block q (o.lt b) (by simp))
theorem Ek:(prog.info? 138).map (fun i=>(i.zero,i.size,i.bytes))=some (some (.agg #[.string ⟨#[]⟩,.int .i64 0,.string ⟨#[]⟩,.int .i64 0,.int .i64 0]),5,56):=by kernel_rfl
theorem MJ:∀j u,(AV yv)[j]?=some u->(b.alloc (.cells (AV yv).toArray 138)).cell? ((⟨b.heap.size,0,none⟩:Addr).add j)=some u:=by
 intro j u a;rw[bL];have c:(b.alloc (.cells (AV yv).toArray 138)).heap[b.heap.size]?=some (.cells (AV yv).toArray 138 (0,0)):=QS _ _;rw[aa c];simpa using a
theorem ML:∀u∈AV yv,u.oneCell'=true:=by
 intro u a;simp only[AV,List.mem_cons,List.not_mem_nil,or_false]at a
 rcases a with rfl | rfl | rfl | rfl | rfl <;> rfl
set_option maxRecDepth 100000
theorem zs(h:Hd)(b:World)(J:k<=n)(Y:n<=w.size)(N:w.size<=1073741824)(X:y4.length<=100000)(t:aw b h (ir y4)) :
  Calls prog 166 #[.agg #[.string H,.string w],.int .i64 k,.int .i64 n,.slice h.ao y4.length h.cap] b fun e D=>∃p,e=.returned (.slice p.ao (je H w k n y4).length p.cap)/\aw D p (ir (je H w k n y4))/\bt b D h p:=by
 have q:ab [] b (b.alloc (.cells #[.string H,.string w] 68)):=(ab.refl [] _).alloc _;have B:(b.alloc (.cells #[.string H,.string w] 68)).heap[b.heap.size]?=some (.cells #[.string H,.string w] 68 (0,0)):=QS _ _
 by_cases e:k=n
 ·subst e
  have o:Hid (je H w k k y4=y4):=by show _=_;unfold je;rw[QW rfl]
  have s:Hid _:=t.Vb q;rw[o.out];go_enter func166,ntmps166;go_wp2;go_ret;exact⟨h,rfl,s.out,bt.Vb q⟩
 ·have o:Hid (je H w k n y4=y4++[me H w (w.extract k n) 0 k]):=by show _=_;unfold je;rw[QT e]
  have O:¬((k:Int)=(n:Int)):=by omega
  obtain⟨Q,P,v,x,y⟩:=Re Ek;have L:(k:Int)<=(n:Int):=by omega
  have M:(n:Int)<=(w.size:Int):=by omega
  go_enter func166,ntmps166
  go_upto_region 4 with (go_at_call 165;refine(rI H w k _ (by omega) N).mono ?_;rintro e f ⟨rfl,z⟩)
  obtain⟨W,a⟩:∃W,Hid (f.alloc (.cells #[.string H,.int .i64 (aP w k),.int .i64 (bm w k)] 36)=W):=⟨_,rfl⟩
  have A:ab [] f W:=by rw[<-a.out];exact(ab.refl [] _).alloc _
  have g:W.heap[f.heap.size]?=some (.cells #[.string H,.int .i64 (aP w k),.int .i64 (bm w k)] 36 (0,0)):=by rw[<-a.out];exact QS _ _
  have K:=(q.trans z).trans A;have r:=A.get (z.get B (by simp)) (by simp);have V:W.cell? ⟨b.heap.size,1,none⟩=some (.string w):=by rw[aa r];rfl
  have Z:W.cell? ⟨f.heap.size,0,none⟩=some (.string H):=by rw[aa g];rfl
  have p1:W.cell? ⟨f.heap.size,1,none⟩=some (.int .i64 (aP w k)):=by rw[aa g];rfl
  have p2:W.cell? ⟨f.heap.size,2,none⟩=some (.int .i64 (bm w k)):=by rw[aa g];rfl
  have y0:=ae r;have y1:=ae g;rw[a.out];have G:Hid _:=K;have I:Hid (aw (W.alloc (.cells #[.string (w.extract k n),.int .i64 0,.string H,.int .i64 (aP w k),.int .i64 (bm w k)] 138)).drew h (ir y4)):=(t.Vb K).Vb ((ab.refl [] W).alloc _).drew;have R:Hid (∀j u,([.string (w.extract k n),.int .i64 0,.string H,.int .i64 (aP w k),.int .i64 (bm w k)]:List Value)[j]?=some u->(W.alloc (.cells #[.string (w.extract k n),.int .i64 0,.string H,.int .i64 (aP w k),.int .i64 (bm w k)] 138)).drew.cell? ((⟨W.heap.size,0,none⟩:Addr).add j)=some u):=MJ W (me H w (w.extract k n) 0 k);have S:Hid (∀u∈([.string (w.extract k n),.int .i64 0,.string H,.int .i64 (aP w k),.int .i64 (bm w k)]:List Value),u.oneCell'=true):=ML (me H w (w.extract k n) 0 k);have T:Hid ((ir y4).n+1<=maxLen):=by show _<=_;simp only[ir];unfold maxLen;omega
  have U:Hid (((ir y4).n+1)*56<=140737488355328):=by show _<=_;simp only[ir];omega
  clear A g K r B q z a t
  go_region_law (refine cd rfl (.tmp 17) (.tmp 25) 101 rfl Q (.agg #[.string ⟨#[]⟩,.int .i64 0,.string ⟨#[]⟩,.int .i64 0,.int .i64 0]) 56 h (ir y4) underlying101 P v x y rfl (show 0<5 by omega) (by simp[Act.eval] <;> rfl) I.out ⟨W.heap.size,0,none⟩ 1 1 [.string (w.extract k n),.int .i64 0,.string H,.int .i64 (aP w k),.int .i64 (bm w k)] (by simp[Act.eval]) rfl R.out S.out Rc T.out U.out ?_;intro C c E l d i)
  all_goals
   have m:aw E ⟨some ⟨C,0,none⟩,c⟩ (ir (y4++[me H w (w.extract k n) 0 k])):=by rw[<-za];exact l
   have F:Hid (bt b E h ⟨some ⟨C,0,none⟩,c⟩):=(bt.Vb (G.out.trans ((ab.refl [] W).alloc _).drew)).trans (bt.made d (by simpa using i));have s:Hid _:=m;clear l d i m;go_wp2;go_ret;exact⟨_,by rw[o.out];simp[ir],by rw[o.out];exact s.out,F.out⟩
theorem bY(r:L.guard=none)(s x:Operand)(j:L.op=Op.call { callee:=Callee.builtin Builtin.append,args:=#[s,x],argTypes:=#[101,101] })(h:Hd)(a:List Tk)(t:Tk)(v:I.eval s=.slice h.ao a.length h.cap)(e:aw b h (ir a))(A:a.length<=1000000)(w:I.eval x=.slice (some ⟨b.heap.size,0,none⟩) 1 1)(q:∀g n,aw n g (ir (a++[t]))->bt b n h g->wpList prog ya yd yr (I.put L.dst (.slice g.ao (a.length+1) g.cap)) n) :
  wpList prog ya yd (L :: yr) I (b.alloc (.cells (AV t).toArray 138)):=by
 obtain⟨y,u,k,l,m⟩:=Re Ek;have o:ab [] b (b.alloc (.cells (AV t).toArray 138)):=(ab.refl [] _).alloc _;refine aM _ r s x 101 j y (.agg #[.string ⟨#[]⟩,.int .i64 0,.string ⟨#[]⟩,.int .i64 0,.int .i64 0]) 56 h (ir a) underlying101 u k l m rfl (show 0<5 by omega) v (e.Vb o) ⟨b.heap.size,0,none⟩ 1 1 (AV t) w rfl (MJ b t) (ML t) Rc (by simp only[ir];unfold maxLen;omega) (by simp only[ir];omega) ?_;intro p c z f d i;rw[za]at f;exact q ⟨some ⟨p,0,none⟩,c⟩ z f ((bt.Vb o).trans (bt.made d i))
theorem pE{P:Program}(t F:TypeId)(i:TypeInfo)(z:Value)(f:Nat)(h:Hd)(r:dN)(B:P.underlying t=some (.slice r.e))(C:P.info? r.e=some i)(N:i.zero=some z)(I:i.size=r.size)(O:i.bytes=f)(Q:z.cells.size=r.size)(R:0<r.size)(d:aw b h r)(A:Option Addr)(m c:Nat)(a:List Value)(E:a.length=m*r.size)(o:A=none->m=0/\c=0)(D:∀q,A=some q->∀j u,a[j]?=some u->b.cell? (q.add j)=some u)(w:∀u∈a,u.oneCell'=true)(J:r.n+m<=maxLen)(K:(r.n+m)*f<=140737488355328) :
  ∃k p,(Builtin.append_ #[t,t] F #[.slice h.ao r.n h.cap,.slice A m c]).run P b=.ok (.slice k.ao (r.n+m) k.cap) p /\
   aw p k ⟨r.e,r.size,r.n+m,r.xs++a⟩/\bt b p h k:=by
 cases A with
 | none =>
  obtain⟨rfl,rfl⟩:=o rfl;have l:a=[]:=Rk (by simpa using E);subst l;have T:=run_append_owned_none (P:=P) b 0 t F r.e i r.size B C (.slice h.ao r.n h.cap) r.n r.xs d;exact⟨h,b,T,by rw[Rl];exact d,bt.Vb (ab.refl _ _)⟩
 | some q =>
  have D:=D q rfl
  by_cases S:0<m
  ·obtain⟨g,s,p,V,W,X,Y⟩:=pX b t F i z f h r B C N I O Q R d q m c a E D w S J K
   exact⟨⟨some ⟨g,0,none⟩,s⟩,p,V,W,bt.made X Y⟩
  ·have e:m=0:=by omega
   subst e;have l:a=[]:=Rk (by simpa using E);subst l
   rcases d.Vm with ⟨v,H,M⟩ | ⟨g,L,v,H,M,Z,e5,e6⟩
   ·refine⟨h,b,?_,?_,bt.Vb (ab.refl _ _)⟩
    ·rw[v,H]
     simp[Builtin.append_,run_underlying B,sizeOf,typeInfo,C,Builtin.lenOf,Builtin.firstCells,loadCells,loadCellsFrom]
    ·rw[Rl,Tg];exact d
   ·obtain⟨p,y,U,G⟩:=run_append_fits (P:=P) b 0 t F r.e i r.size B C I g r.n h.cap r.xs (by have:=d;unfold aw at this;rw[v]at this;exact this) q 0 c [] E D w (by omega)
    have x:h.blk=some g:=by unfold Hd.blk;rw[v];rfl
    exact⟨⟨some ⟨g,0,none⟩,h.cap⟩,p,by rw[v,y],U,bt.made (by rw[x];exact G) (Q1 x)⟩
theorem ed(P:L.guard=none)(s x:Operand)(t:TypeId)(y:L.op=Op.call { callee:=Callee.builtin Builtin.append,args:=#[s,x],argTypes:=#[t,t] })(i:TypeInfo)(z:Value)(d:Nat)(h:Hd)(r:dN)(C:y6.underlying t=some (.slice r.e))(D:y6.info? r.e=some i)(E:i.zero=some z)(F:i.size=r.size)(G:i.bytes=d)(H:z.cells.size=r.size)(J:0<r.size)(R:I.eval s=.slice h.ao r.n h.cap)(g:aw b h r)(o:Option Addr)(m c:Nat)(a:List Value)(S:I.eval x=.slice o m c)(Q:a.length=m*r.size)(f:o=none->m=0/\c=0)(O:∀A,o=some A->∀j u,a[j]?=some u->b.cell? (A.add j)=some u)(q:∀u∈a,u.oneCell'=true)(B:r.n+m<=1000000000)(N:d<=1000)(M:∀p l,aw l p ⟨r.e,r.size,r.n+m,r.xs++a⟩->bt b l h p->wpList y6 ya yd yr (I.put L.dst (.slice p.ao (r.n+m) p.cap)) l) :
  wpList y6 ya yd (L :: yr) I b:=by
 obtain⟨w,l,k,T,U⟩:=pE (P:=y6) b t L.type i z d h r C D E F G H J g o m c a Q f O q (by unfold maxLen;omega) (Q3 (SL B N) (by omega));refine wpList_plain P fun K v=>?_
 unfold Oper.wp;simp[execOp,y,resolve,invoke,builtin,R,S,k,Result.andThen];exact v _ _ (M w l T U)
theorem xh{E:Prop}(P:L.guard=none)(s x:Operand)(t:TypeId)(y:L.op=Op.call { callee:=Callee.builtin Builtin.append,args:=#[s,x],argTypes:=#[t,t] })(i:TypeInfo)(z:Value)(b:Nat)(h:Hd)(r:dN)(C:y6.underlying t=some (.slice r.e))(D:y6.info? r.e=some i)(F:i.zero=some z)(G:i.size=r.size)(H:i.bytes=b)(J:z.cells.size=r.size)(K:0<r.size)(R:I.eval s=.slice h.ao r.n h.cap)(o:aw f h r)(v:Option Addr)(m c:Nat)(a:List Value)(T:I.eval x=.slice v m c)(Q:a.length=m*r.size)(k:v=none->m=0/\c=0)(O:∀A,v=some A->∀j u,a[j]?=some u->f.cell? (A.add j)=some u)(w:∀u∈a,u.oneCell'=true)(B:r.n+m<=1000000000)(N:b<=1000)(M:∀g d q,aw q ⟨g,d⟩ ⟨r.e,r.size,r.n+m,r.xs++a⟩->bt f q h ⟨g,d⟩->x5 (I.put L.dst (.slice g (r.n+m) d)) q) :
  if Region.wanted L (yielded ya I.tmps)=true then Oper.wp y6 L I f x5 yd else E:=by
 have S:Region.wanted L (yielded ya I.tmps)=true:=by simp[Region.wanted,P]
 rw[QW S];obtain⟨l,q,p,U,V⟩:=pE (P:=y6) f t L.type i z b h r C D F G H J K o v m c a Q k O w (by unfold maxLen;omega) (Q3 (SL B N) (by omega));unfold Oper.wp;simp[execOp,y,resolve,invoke,builtin,R,T,p,Result.andThen];exact M l.ao l.cap q U V
theorem bH{E:Prop}(G:L.guard=none)(s x:Operand)(t:TypeId)(m:L.op=Op.call { callee:=Callee.builtin Builtin.append,args:=#[s,x],argTypes:=#[t,t] })(i:TypeInfo)(z:Value)(d:Nat)(h:Hd)(r:dN)(a:List Value)(q:y6.underlying t=some (.slice r.e))(v:y6.info? r.e=some i)(w:i.zero=some z)(y:i.size=r.size)(A:i.bytes=d)(B:z.cells.size=r.size)(C:0<r.size)(K:I.eval s=.slice h.ao r.n h.cap)(g:aw b h r)(P:r.n<=900000000)(F:d<=1000)(M:I.eval x=.slice (some ⟨b.heap.size,0,none⟩) 1 1)(Q:a.length=r.size)(l:∀u∈a,u.oneCell'=true)(D:∀f c k,aw k ⟨f,c⟩ ⟨r.e,r.size,r.n+1,r.xs++a⟩->bt b k h ⟨f,c⟩->x5 (I.put L.dst (.slice f (r.n+1) c)) k) :
  if Region.wanted L (yielded ya I.tmps)=true then Oper.wp y6 L I (b.alloc (.cells a.toArray r.e)).drew x5 yd else E:=by
 have o:ab [] b (b.alloc (.cells a.toArray r.e)).drew:=((ab.refl [] _).alloc _).drew;have J:(b.alloc (.cells a.toArray r.e)).drew.heap[b.heap.size]?=some (.cells a.toArray r.e (0,0)):=QS _ _;refine xh G s x t m i z d h r q v w y A B C K (g.Vb o) (some ⟨b.heap.size,0,none⟩) 1 1 a M (by omega) (fun e=>by cases e) ?_ l (by omega) F ?_
 ·intro O e j u H
  cases e
  rw[bL,aa J];simpa using H
 ·intro f c k N p
  exact D f c k N ((bt.Vb o).trans p)
structure xG(w wr:World)(nm d:ByteArray)(h:Hd)(L:List Tk):Prop where
 f:wr.heap[w.heap.size]?=some (.cells #[.string nm,.string d] 68 (0,0))
 own:aw wr h (ir L)
 far:∀k,h.blk=some k->w.heap.size<k
 kept:ab [] w wr
theorem xG.Vb(b:xG f v i zt a d)(k:ab [] v zb):xG f zb i zt a d :=
 ⟨k.get b.f (by simp),b.own.Vb k,b.far,b.kept.trans k⟩
theorem xG.Vl(b:xG f v i zt a d)(c:bt v zb a g)(o:aw zb g (ir M)):xG f zb i zt g M:=by
 have l:=ae b.f;refine⟨c.kept.get b.f (fun j=>by have:=b.far _ (aN j);omega),o,fun k h=>?_,⟨c.kept.os.trans b.kept.os,c.kept.tape.trans b.kept.tape,c.kept.output.trans b.kept.output,Q3 b.kept.size c.kept.size,fun k h _=>?_⟩⟩
 ·rcases c.blk with e | ⟨q,e,j⟩
  ·exact b.far k (by rw[<-e];exact h)
  ·rw[e]at h;cases h;omega
 ·rw[c.kept.block k (QX h b.kept.size) (fun j=>by have:=b.far _ (aN j);omega),b.kept.block k h (by simp)]
theorem wL{c:Int}(h:Hid (f.alloc (.cells #[.string i,.int .i64 yz,.int .i64 c] 36)=v)):ab [] f v/\f.heap.size<v.heap.size/\v.cell? ⟨f.heap.size,0,none⟩=some (.string i)/\v.cell? ⟨f.heap.size,1,none⟩=some (.int .i64 yz)/\v.cell? ⟨f.heap.size,2,none⟩=some (.int .i64 c):=by
 have a:v.heap[f.heap.size]?=some (.cells #[.string i,.int .i64 yz,.int .i64 c] 36 (0,0)):=by rw[<-h.out];exact QS _ _
 exact⟨by rw[<-h.out];exact(ab.refl [] _).alloc _,ae a,by rw[aa a];rfl,by rw[aa a];rfl,by rw[aa a];rfl⟩
theorem OO(c:S<i.size)(h:qH (aF i S)=true)(a:∀j,j<S->qH (aF i j)=false):jF i=some S:=by
 unfold jF;rw[Sj];exact⟨h,Ra.2 c,fun j b=>by rw[a j b];rfl⟩
theorem KD(a:∀j,j<i.size->qH (aF i j)=false):jF i=none:=by
 unfold jF;rw[Sk];intro j b;rw[a j (Ra.1 b)];simp
theorem FJ(hd:w.size<=10000) :
  Calls prog 115 #[.agg #[.string H,.string w]] b fun e v=>∃l,e=.returned (.slice l.ao (ij H w).length l.cap)/\aw v l (ir (ij H w))/\ab [] b v/\∀k,l.blk=some k->b.heap.size<k:=by
 have Z:Hid (xG b (b.alloc (.cells #[.string H,.string w] 68)) H w ⟨none,0⟩ []):=⟨QS _ _,QZ _ _ _ _,(by intro k X;cases X),(ab.refl [] _).alloc _⟩;obtain⟨i0,hi,af,ag,ai⟩:=Re Ek;go_enter func115,ntmps115;go_wp2
 go_loopg [3,4,5] w.size (fun g o f i wr=>∃(k:Nat) (h:Hd),k<=w.size/\g=w.size-k/\o=.slice h.ao (jd H w k).length h.cap/\f=.int .i64 (di w k)/\i=.int .i64 k/\Hid (∀j,j<k->qH (aF w j)=false)/\Hid (xG b wr H w h (jd H w k)))
 case atStart=>exact⟨0,⟨none,0⟩,by omega,rfl,rfl,rfl,rfl,(fun j V=>by omega),Z⟩
 case round =>
  obtain⟨k,h,X,hg,rfl,rfl,rfl,J,s⟩:=hrel;have K:wr.cell? ⟨b.heap.size,0,none⟩=some (.string H):=by rw[aa s.out.f];rfl
  have L:wr.cell? ⟨b.heap.size,1,none⟩=some (.string w):=by rw[aa s.out.f];rfl
  have Y:=ae s.out.f;have ad:=xu H w k;have C:=oh w k
  by_cases D:k<w.size
  ·have ac:(k:Int)<(w.size:Int):=by omega
   have c:Hid _:=bP w k D
   cases z:cO (w[k].toNat:Int)
   ·cases S:fn (w[k].toNat:Int)
    ·have M:Hid (jF w=some k):=OO D (by rw[c.out];unfold qH;rw[z,S];rfl) J.out
     go_upto_region 10 with (first | (go_at_call 78;refine(lu _ _).mono ?_;rintro e u ⟨rfl,a⟩;rw[a];clear a) | (go_at_call 164;refine(rk _ _).mono ?_;rintro e u ⟨rfl,a⟩;rw[a];clear a) | (go_at_call 165;refine(rI H w k _ (by omega) (by omega)).mono ?_;rintro e u ⟨rfl,F⟩))
     obtain⟨W,d⟩:∃W,Hid (u.alloc (.cells #[.string H,.int .i64 (aP w k),.int .i64 (bm w k)] 36)=W):=⟨_,rfl⟩
     obtain⟨G,y1,p0,p1,p2⟩:=wL d;rw[d.out];have A:Hid _:=s.out.Vb (F.trans G);have R:=A.out.own;have y:Hid (ij H w=jd H w k++[me H w ⟨#[]⟩ 1 k]):=by show _=_;unfold ij;rw[M.out]
     clear G F K L d;go_wp2_with (at_builtin;refine bY W rfl (.tmp 36) (.tmp 39) rfl h (jd H w k) (me H w ⟨#[]⟩ 1 k) rfl R (by omega) rfl ?_;intro Q w5 q p;have n:Hid _:=A.out.Vl p q;clear q p);go_ret;exact⟨Q,by rw[y.out];simp,by rw[y.out];exact n.out.own,n.out.kept,n.out.far⟩
    ·have n:Hid (∀j,j<k+1->qH (aF w j)=false):=fun j V=>by
      by_cases e:j=k
      ·subst e;rw[c.out];unfold qH;rw[S];rfl
      ·exact J.out j (by omega)
     have x:Hid (jd H w (k+1)=jd H w k/\di w (k+1)=di w k):=by
      constructor
      ·rw[jd,QT (by rw[c.out,z];simp)]
      ·rw[di,QT (by rw[c.out,z];simp)]
     go_wp2_with (first | (go_at_call 78;refine(lu _ _).mono ?_;rintro e u ⟨rfl,a⟩;rw[a];clear a) | (go_at_call 164;refine(rk _ _).mono ?_;rintro e u ⟨rfl,a⟩;rw[a];clear a))
     go_roundg (w.size-(k+1))
     case measure=>omega
     case rel=>exact⟨k+1,h,by omega,rfl,by rw[x.out.1],by rw[x.out.2],by go_num,n,by rw[x.out.1];exact s⟩
   ·have n:Hid (∀j,j<k+1->qH (aF w j)=false):=fun j V=>by
     by_cases e:j=k
     ·subst e;rw[c.out];unfold qH;rw[z];simp
     ·exact J.out j (by omega)
    have x:Hid (jd H w (k+1)=je H w (di w k) k (jd H w k)/\di w (k+1)=k+1):=by
     constructor
     ·rw[jd,QW (by rw[c.out,z])]
     ·rw[di,QW (by rw[c.out,z])]
    have t:Hid (∀r,xG b r H w h (jd H w k)->Calls prog 166 #[.agg #[.string H,.string w],.int .i64 (di w k),.int .i64 k,.slice h.ao (jd H w k).length h.cap] r fun e v=>∃l,e=.returned (.slice l.ao (je H w (di w k) k (jd H w k)).length l.cap)/\aw v l (ir (je H w (di w k) k (jd H w k)))/\bt r v h l):=fun r T=>zs H w _ k _ h r C (by omega) (by omega) (by omega) T.own
    cases S:fn (w[k].toNat:Int)
    all_goals
     go_wp2_with (first | (go_at_call 78;refine(lu _ _).mono ?_;rintro e u ⟨rfl,a⟩;rw[a];clear a) | (go_at_call 164;refine(rk _ _).mono ?_;rintro e u ⟨rfl,a⟩;rw[a];clear a) | (go_at_call 166;refine(t.out _ s.out).mono ?_;rintro e U ⟨P,rfl,I,B⟩;have m:Hid _:=s.out.Vl B I;clear B I))
     go_roundg (w.size-(k+1))
     case measure=>omega
     case rel=>exact⟨k+1,P,by omega,rfl,by rw[x.out.1],by rw[x.out.2];go_num,by go_num,n,by rw[x.out.1];exact m⟩
  ·have e:k=w.size:=by omega
   subst e;have M:Hid (jF w=none):=KD J.out;have y:Hid (ij H w=je H w (di w w.size) w.size (jd H w w.size)++[me H w ⟨#[]⟩ 0 w.size]):=by show _=_;unfold ij;rw[M.out]
   have E:=uv H w (di w w.size) w.size (jd H w w.size);obtain⟨O,N⟩:∃O,Hid (je H w (di w w.size) w.size (jd H w w.size)=O):=⟨_,rfl⟩
   have t:Hid (∀r,xG b r H w h (jd H w w.size)->Calls prog 166 #[.agg #[.string H,.string w],.int .i64 (di w w.size),.int .i64 w.size,.slice h.ao (jd H w w.size).length h.cap] r fun e v=>∃l,e=.returned (.slice l.ao (je H w (di w w.size) w.size (jd H w w.size)).length l.cap)/\aw v l (ir (je H w (di w w.size) w.size (jd H w w.size)))/\bt r v h l):=fun r T=>zs H w _ w.size _ h r C (by omega) (by omega) (by omega) T.own
   rw[N.out]at t E y
   go_upto_region 15 with (go_at_call 166;refine(t.out _ s.out).mono ?_;rintro e U ⟨P,rfl,I,B⟩;have m:Hid _:=s.out.Vl B I;clear B I)
   clear K L Y;have K:U.cell? ⟨b.heap.size,0,none⟩=some (.string H):=by rw[aa m.out.f];rfl
   have L:U.cell? ⟨b.heap.size,1,none⟩=some (.string w):=by rw[aa m.out.f];rfl
   have Y:=ae m.out.f
   go_upto_region 16 with (go_at_call 165;refine(rI H w w.size _ (by omega) (by omega)).mono ?_;rintro e u ⟨rfl,F⟩)
   obtain⟨W,d⟩:∃W,Hid (u.alloc (.cells #[.string H,.int .i64 (aP w w.size),.int .i64 (bm w w.size)] 36)=W):=⟨_,rfl⟩
   obtain⟨G,y1,p0,p1,p2⟩:=wL d;rw[d.out];have A:Hid _:=m.out.Vb (F.trans G);have R:=A.out.own;clear G F K L d;go_wp2_with (at_builtin;refine bY W rfl (.tmp 61) (.tmp 64) rfl P O (me H w ⟨#[]⟩ 0 w.size) rfl R (by omega) rfl ?_;intro Q w5 q p;have n:Hid _:=A.out.Vl p q;clear q p);go_ret;exact⟨Q,by rw[y.out];simp,by rw[y.out];exact n.out.own,n.out.kept,n.out.far⟩
theorem pZ(o:aw f a (ir d))(g:a.ao=some ⟨S,0,none⟩)(k:Nat)(t:Tk)(h:d[k]?=some t) :
  f.cell? ⟨S,k*5,none⟩=some (.string t.s)/\f.cell? ⟨S,k*5+1,none⟩=some (.int .i64 t.rule)/\f.cell? ⟨S,k*5+2,none⟩=some (.string t.file)/\f.cell? ⟨S,k*5+3,none⟩=some (.int .i64 t.line)/\f.cell? ⟨S,k*5+4,none⟩=some (.int .i64 t.col):=by
 have e:∀c,c<5->∀u,(AV t)[c]?=some u->f.cell? ⟨S,k*5+c,none⟩=some u:=fun c b u i=>o.cell g (k*5+c) u (by show(PI d)[k*5+c]?=some u;rw[Py d k t h c b];exact i)
 exact⟨e 0 (by omega) _ rfl,e 1 (by omega) _ rfl,e 2 (by omega) _ rfl,e 3 (by omega) _ rfl,e 4 (by omega) _ rfl⟩
theorem qq(o:aw f a yy)(i:0<yy.n):∃g,a.ao=some ⟨g,0,none⟩/\g<f.heap.size/\yy.n<=a.cap:=by
 rcases o.Vm with ⟨_,h,_⟩ | ⟨g,b,c,d,e,-⟩
 ·omega
 ·exact⟨g,c,ae d,e⟩
structure MU(w wr:World)(h:Hd)(O:List Tk):Prop where
 own:aw wr h (ir O)
 far:∀k,h.blk=some k->w.heap.size<=k
 kept:ab [] w wr
theorem MU.Vb(b:MU f v a d)(k:ab [] v zb):MU f zb a d:=⟨b.own.Vb k,b.far,b.kept.trans k⟩
theorem MU.Vl(b:MU f v a d)(c:bt v zb a g)(o:aw zb g (ir M)):MU f zb g M:=by
 refine⟨o,fun k h=>?_,⟨c.kept.os.trans b.kept.os,c.kept.tape.trans b.kept.tape,c.kept.output.trans b.kept.output,Q3 b.kept.size c.kept.size,fun k h _=>?_⟩⟩
 ·rcases c.blk with e | ⟨q,e,i⟩
  ·exact b.far k (by rw[<-e];exact h)
  ·rw[e]at h;cases h
   exact Q3 b.kept.size i
 ·rw[c.kept.block k (QX h b.kept.size) (fun i=>by have:=b.far _ (aN i);omega),b.kept.block k h (by simp)]
def lj(w:World)(ao:Option Addr)(cap:Nat)(L:List Tk):Prop:=L.length<=cap/\∀k t,L[k]?=some t->∃g,ao=some ⟨g,0,none⟩/\g<w.heap.size /\
  w.cell? ⟨g,k*5,none⟩=some (.string t.s)/\w.cell? ⟨g,k*5+1,none⟩=some (.int .i64 t.rule)/\w.cell? ⟨g,k*5+2,none⟩=some (.string t.file)/\w.cell? ⟨g,k*5+3,none⟩=some (.int .i64 t.line)/\w.cell? ⟨g,k*5+4,none⟩=some (.int .i64 t.col)
theorem aw.src(o:aw f a (ir d)):lj f a.ao a.cap d:=by
 refine⟨?_,fun k t h=>?_⟩
 ·rcases o.Vm with ⟨e,c,_⟩ | ⟨g,i,m,n,j,-⟩
  ·have c:d.length=0:=c
   omega
  ·exact j
 ·have p:=(Q8.1 h).1
  obtain⟨g,b,l,-⟩:=qq o (show 0<d.length by omega);exact⟨g,b,l,pZ o b k t h⟩
theorem lj.Vb(h:lj f z7 S d)(k:ab [] f v):lj v z7 S d:=by
 refine⟨h.1,fun j t p=>?_⟩;obtain⟨g,e,a,c⟩:=h.2 j t p;obtain⟨b,i,l,m,n⟩:=c;have q:∀o,v.cell? ⟨g,o,none⟩=f.cell? ⟨g,o,none⟩:=fun o=>Q6 (k.block g a (by simp))
 exact⟨g,e,QX a k.size,by rw[q];exact b,by rw[q];exact i,by rw[q];exact l,by rw[q];exact m,by rw[q];exact n⟩
theorem G1(hL:l.length<=100000)(K:lj b D n l)(hs:∀t∈l,t.s.size<=1073741824) :
  Calls prog 116 #[.slice D l.length n] b fun e w'=>∃j,e=.returned (.slice j.ao (bQ false l).length j.cap)/\MU b w' j (bQ false l):=by
 have S0:Hid (MU b b ⟨none,0⟩ []):=⟨QZ _ _ _ _,(by intro k R;cases R),ab.refl _ _⟩;have Q:=K.1;have HO:Hid _:=K;clear K;go_enter func116,ntmps116;go_wp2
 go_loopg [3,4,5] l.length (fun g o P i wr=>∃(k:Nat) (j:Hd) (O:List Tk) (C:Bool),k<=l.length/\g=l.length-k/\o=.slice j.ao O.length j.cap/\P=.bool C/\i=.int .i64 k/\O.length<=k/\Hid (O++bQ C (l.drop k)=bQ false l)/\Hid (MU b wr j O))
 case atStart=>exact⟨0,⟨none,0⟩,[],false,by omega,rfl,rfl,rfl,rfl,QR _,rfl,S0⟩
 case round =>
  obtain⟨k,j,O,C,R,hg,rfl,rfl,rfl,ac,v,H⟩:=hrel
  by_cases B:k<l.length
  ·obtain⟨gs,rfl,ad,T,U,V,X,Y⟩:=(lj.Vb HO.out H.out.kept).2 k l[k] (QP B)
   have Z:Hid _:=Rf B;have N:=hs l[k] (Rb B);have af:(k:Int)<(l.length:Int):=by omega
   rw[Z.out]at v;generalize l[k]=t at *;obtain⟨d,u,p,q,m⟩:=t;simp only at T U V X Y N;obtain⟨W,x⟩:∃W,Hid (wr.alloc (.cells #[.string d,.int .i64 u,.string p,.int .i64 q,.int .i64 m] 138)=W):=⟨_,rfl⟩
   have A:W.heap[wr.heap.size]?=some (.cells #[.string d,.int .i64 u,.string p,.int .i64 q,.int .i64 m] 138 (0,0)):=by rw[<-x.out];exact QS _ _
   have p0:W.cell? ⟨wr.heap.size,0,none⟩=some (.string d):=by rw[aa A];rfl
   have p1:W.cell? ⟨wr.heap.size,1,none⟩=some (.int .i64 u):=by rw[aa A];rfl
   have p2:W.cell? ⟨wr.heap.size,2,none⟩=some (.string p):=by rw[aa A];rfl
   have p3:W.cell? ⟨wr.heap.size,3,none⟩=some (.int .i64 q):=by rw[aa A];rfl
   have p4:W.cell? ⟨wr.heap.size,4,none⟩=some (.int .i64 m):=by rw[aa A];rfl
   have y1:=ae A;have h:Hid (MU b W j O):=H.out.Vb (by rw[<-x.out];exact(ab.refl [] _).alloc _);have r:=h.out.own
   go_upto_region 7 with fail
   rw[x.out];clear T U V X Y x A
   go_upto_region 9 with (go_at_call 120;refine(fF d _ _ (by omega) (by show 2<=_;omega)).mono ?_;rintro e w1 ⟨rfl,E⟩;rw[E];clear E)
   cases C
   ·cases S:(d.toList == [36,40])
    ·have f:Hid ((O++[⟨d,u,p,q,m⟩])++bQ false (l.drop (k+1))=bQ false l):=by
      show _=_
      rw[<-v.out,bQ,QT (by show ¬(d.toList == [36,40])=true;rw[S];simp)];simp
     go_wp2_with (at_builtin;refine bY W rfl (.tmp 41) (.tmp 43) rfl j O ⟨d,u,p,q,m⟩ rfl r (by omega) rfl ?_;intro z G c a;have w:Hid _:=h.out.Vl a c;clear c a)
     go_roundg (l.length-(k+1))
     case measure=>omega
     case rel=>exact⟨k+1,z,O++[⟨d,u,p,q,m⟩],false,by omega,rfl,by simp,rfl,by go_num,by simp;omega,f,w⟩
    ·have f:Hid (O++bQ true (l.drop (k+1))=bQ false l):=by
      show _=_
      rw[<-v.out,bQ,QW (by show(d.toList == [36,40])=true;exact S)]
     go_wp2
     go_roundg (l.length-(k+1))
     case measure=>omega
     case rel=>exact⟨k+1,j,O,true,by omega,rfl,rfl,rfl,by go_num,by omega,f,h⟩
   ·cases L:(u==0)
    ·have f:Hid ((O++[⟨d,u,p,q,m⟩])++bQ true (l.drop (k+1))=bQ false l):=by
      show _=_
      rw[<-v.out,bQ,QW (by exact L)];simp
     go_wp2_with (at_builtin;refine bY W rfl (.tmp 41) (.tmp 43) rfl j O ⟨d,u,p,q,m⟩ rfl r (by omega) rfl ?_;intro z G c a;have w:Hid _:=h.out.Vl a c;clear c a)
     go_roundg (l.length-(k+1))
     case measure=>omega
     case rel=>exact⟨k+1,z,O++[⟨d,u,p,q,m⟩],true,by omega,rfl,by simp,rfl,by go_num,by simp;omega,f,w⟩
    ·have M:u=0:=by simpa using L
     subst M;clear L
     cases F:(d.toList == [36,41])
     ·cases I:(d.toList == [])
      ·cases y:(ii d ⟨#[36,40]⟩||ii d ⟨#[36,41]⟩)
       ·have f:Hid (O++bQ true (l.drop (k+1))=bQ false l):=by
         show _=_
         rw[<-v.out,bQ,QT (by simp),QT (by show ¬(d.toList == [36,41])=true;rw[F];simp),QT (by show ¬(d.toList == [])=true;rw[I];simp),QT (by rw[y];simp)]
        simp only[Bool.or_eq_false_iff]at y;obtain⟨y,J⟩:=y;rw[y,J];go_wp2
        go_roundg (l.length-(k+1))
        case measure=>omega
        case rel=>exact⟨k+1,j,O,true,by omega,rfl,rfl,rfl,by go_num,by omega,f,h⟩
       ·have f:Hid (bQ false l=O++[⟨⟨#[]⟩,2,p,q,m⟩]):=by
         show _=_
         rw[<-v.out,bQ,QT (by simp),QT (by show ¬(d.toList == [36,41])=true;rw[F];simp),QT (by show ¬(d.toList == [])=true;rw[I];simp),QW (by rw[y])]
        cases J:ii d ⟨#[36,40]⟩
        ·rw[J,Sp]at y
         rw[y];go_wp2_with (at_builtin;refine bY W rfl (.tmp 64) (.tmp 68) rfl j O ⟨⟨#[]⟩,2,p,q,m⟩ rfl r (by omega) rfl ?_;intro z G c a;have w:Hid _:=h.out.Vl a c;clear c a);go_ret;exact⟨z,by rw[f.out];simp,by rw[f.out];exact w.out⟩
        ·clear y
         go_wp2_with (at_builtin;refine bY W rfl (.tmp 64) (.tmp 68) rfl j O ⟨⟨#[]⟩,2,p,q,m⟩ rfl r (by omega) rfl ?_;intro z G c a;have w:Hid _:=h.out.Vl a c;clear c a);go_ret;exact⟨z,by rw[f.out];simp,by rw[f.out];exact w.out⟩
      ·have f:Hid ((O++[⟨⟨#[]⟩,3,p,q,m⟩])++bQ true (l.drop (k+1))=bQ false l):=by
        show _=_
        rw[<-v.out,bQ,QT (by simp),QT (by show ¬(d.toList == [36,41])=true;rw[F];simp),QW (by exact I)];simp
       go_wp2_with (at_builtin;refine bY W rfl (.tmp 53) (.tmp 57) rfl j O ⟨⟨#[]⟩,3,p,q,m⟩ rfl r (by omega) rfl ?_;intro z G c a;have w:Hid _:=h.out.Vl a c;clear c a)
       go_roundg (l.length-(k+1))
       case measure=>omega
       case rel=>exact⟨k+1,z,O++[⟨⟨#[]⟩,3,p,q,m⟩],true,by omega,rfl,by simp,rfl,by go_num,by simp;omega,f,w⟩
     ·have f:Hid (O++bQ false (l.drop (k+1))=bQ false l):=by
       show _=_
       rw[<-v.out,bQ,QT (by simp),QW (by exact F)]
      go_wp2
      go_roundg (l.length-(k+1))
      case measure=>omega
      case rel=>exact⟨k+1,j,O,false,by omega,rfl,rfl,rfl,by go_num,by omega,f,h⟩
  ·have e:l.drop k=[]:=Tz (by omega)
   have f:Hid (bQ false l=O):=by
    show _=_
    rw[<-v.out,e]
    cases C <;> simp[bQ]
   go_wp2;go_ret;exact⟨j,by rw[f.out];rfl,by rw[f.out];exact H.out⟩
def bS(s:ByteArray):Bool:=(s.toList == [36,46])||(s.toList == [36,123])||(s.toList == [36,125])
def aO(n:Int)(s:ByteArray):Int :=
 if(s.toList == [36,125])=true then(if(s.toList == [36,123])=true then n+1 else n)-1 else(if(s.toList == [36,123])=true then n+1 else n)
def jz(L:List Tk):Int:=L.foldl (fun n t=>aO n t.s) 0
def dg(L:List Tk):Bool:=match L.getLast? with
 | none=>true
 | some t=>bS t.s&&(jz L==0)
def eu(L:List Tk):Bool:=match L.getLast? with
 | none=>false
 | some t=>!(t.rule==0)
theorem DV(h:n<l.length):jz (l.take (n+1))=aO (jz (l.take n)) l[n].s:=by
 unfold jz;rw[RG h,Sw];rfl
set_option maxRecDepth 512
theorem tR :
  Calls prog 84 #[.string w] b fun e a=>e=.returned (.bool (bS w))/\a=b:=by
 go_enter func84,ntmps84;go_wp2
 all_goals go_ret
 all_goals (refine⟨?_,rfl⟩;simp[bS, *])
set_option maxRecDepth 100000
theorem DU(A:l.length<=100000)(p:lj b D n l) :
  Calls prog 167 #[.slice D l.length n] b fun e y=>e=.returned (.int .i64 (jz l))/\y=b:=by
 have q:=p.1;have r:Hid _:=p;clear p;go_enter func167,ntmps167;go_wp2
 go_loopg [3,4] l.length (fun g w i wr=>∃(k:Nat) (m:Int),k<=l.length/\g=l.length-k/\w=.int .i64 m/\i=.int .i64 k/\(-(k:Int)<=m/\m<=(k:Int))/\Hid (m=jz (l.take k))/\wr=b)
 case atStart=>exact⟨0,0,by omega,rfl,rfl,rfl,by omega,rfl,rfl⟩
 case round =>
  obtain⟨k,m,C,B,rfl,rfl,E,o,rfl⟩:=hrel
  by_cases f:k<l.length
  ·obtain⟨z,rfl,u,x,-⟩:=r.out.2 k l[k] (QP f)
   have d:Hid _:=DV l k f;have v:(k:Int)<(l.length:Int):=by omega
   rw[<-o.out]at d;generalize l[k]=t at *;obtain⟨j,I,G,H,F⟩:=t;simp only at x d
   cases h:(j.toList == [36,123])
   ·cases a:(j.toList == [36,125])
    ·have c:Hid (m=jz (l.take (k+1))):=by show _=_;rw[d.out,aO,h,a];simp
     go_wp2
     go_roundg (l.length-(k+1))
     case measure=>omega
     case rel=>exact⟨k+1,m,by omega,rfl,rfl,by go_num,by omega,c,rfl⟩
    ·have c:Hid (m-1=jz (l.take (k+1))):=by show _=_;rw[d.out,aO,h,a];simp
     go_wp2
     go_roundg (l.length-(k+1))
     case measure=>omega
     case rel=>exact⟨k+1,m-1,by omega,rfl,by go_num,by go_num,by omega,c,rfl⟩
   ·cases a:(j.toList == [36,125])
    ·have c:Hid (m+1=jz (l.take (k+1))):=by show _=_;rw[d.out,aO,h,a];simp
     go_wp2
     go_roundg (l.length-(k+1))
     case measure=>omega
     case rel=>exact⟨k+1,m+1,by omega,rfl,by go_num,by go_num,by omega,c,rfl⟩
    ·have s:j.toList=[36,123]:=by simpa using h
     rw[s]at a;exact absurd a (by decide)
  ·have e:k=l.length:=by omega
   subst e;rw[RK]at o;go_wp2;go_ret;exact⟨QN o.out,rfl⟩
theorem zJ(o:l.length<=100000)(j:lj b D n l) :
  Calls prog 117 #[.slice D l.length n] b fun e x=>e=.returned (.bool (dg l))/\x=b:=by
 have h:=j.1;have f:Hid _:=DU l D n b o j;obtain⟨a,d⟩:∃a,Hid (l.length=a):=⟨_,rfl⟩
 rw[d.out]at o h f ⊢
 by_cases k:a=0
 ·have g:Hid (dg l=true):=by
   show _=_
   have:l=[]:=Rk (by rw[d.out,k]);rw[this];rfl
  subst k;go_enter func117,ntmps117;go_wp2;go_ret;exact⟨aD g.out.symm,rfl⟩
 ·have i:a-1<l.length:=by rw[d.out];omega
  obtain⟨E,rfl,q,v,-⟩:=j.2 (a-1) l[a-1] (QP i)
  have g:Hid (dg l=(bS l[a-1].s&&(jz l==0))):=by
   show _=_
   unfold dg;rw[SO,d.out,QP i]
  generalize l[a-1]=t at *;obtain⟨w,I,G,H,F⟩:=t;simp only at v g;have u:IntKind.i64.wrap ((a:Int)-1)=(a:Int)-1:=by rw[R9];omega
  have r:((a:Int)-1).toNat=a-1:=by omega
  have z:(0:Int)<=(a:Int)-1:=by omega
  have A:(a:Int)-1<(a:Int):=by omega
  have B:(1:Int)<=(a:Int):=by omega
  have C:((a:Int)==0)=false:=by simpa using k
  obtain⟨m,p⟩:∃m,Hid (jz l=m):=⟨_,rfl⟩
  rw[p.out]at g f;go_enter func117,ntmps117;go_wp2_with (first | (go_at_call 167;refine(QU f.out ?_);rintro e y ⟨rfl,c⟩;rw[c];clear c) | (go_at_call 84;refine(tR w _).mono ?_;rintro e y ⟨rfl,c⟩;rw[c];clear c))
  all_goals go_ret
  all_goals (refine⟨aD ?_,rfl⟩;rw[g.out];simp[*])
theorem uC(j:l.length<=100000)(h:lj b D n l) :
  Calls prog 83 #[.slice D l.length n] b fun e q=>e=.returned (.bool (eu l))/\q=b:=by
 have d:=h.1;obtain⟨a,c⟩:∃a,Hid (l.length=a):=⟨_,rfl⟩
 rw[c.out]at j d ⊢
 by_cases i:a=0
 ·have g:Hid (eu l=false):=by
   show _=_
   have:l=[]:=Rk (by rw[c.out,i]);rw[this];rfl
  subst i;go_enter func83,ntmps83;go_wp2;go_ret;exact⟨aD g.out.symm,rfl⟩
 ·have f:a-1<l.length:=by rw[c.out];omega
  obtain⟨x,rfl,k,-,p,-⟩:=h.2 (a-1) l[a-1] (QP f)
  have g:Hid (eu l=!(l[a-1].rule==0)):=by
   show _=_
   unfold eu;rw[SO,c.out,QP f]
  generalize l[a-1]=t at *;obtain⟨C,B,z,A,y⟩:=t;simp only at p g;have o:IntKind.i64.wrap ((a:Int)-1)=(a:Int)-1:=by rw[R9];omega
  have m:((a:Int)-1).toNat=a-1:=by omega
  have r:(0:Int)<=(a:Int)-1:=by omega
  have s:(a:Int)-1<(a:Int):=by omega
  have u:(1:Int)<=(a:Int):=by omega
  have v:(0:Int)<(a:Int):=by omega
  have w:0<a:=by omega
  go_enter func83,ntmps83;go_wp2
  all_goals go_ret
  all_goals (refine⟨aD ?_,rfl⟩;rw[g.out];first | rfl | simp[*])
def mV(w:World)(ao:Option Addr)(cap:Nat)(fs:Fs):Prop:=fs.length<=cap/\∀k,k<fs.length->∃g,ao=some ⟨g,0,none⟩/\g<w.heap.size/\w.cell? ⟨g,k*2,none⟩=some (.string (aE fs k))/\w.cell? ⟨g,k*2+1,none⟩=some (.string (ak fs k))
theorem mV.Vb(h:mV f z7 S N)(k:ab [] f v):mV v z7 S N:=by
 refine⟨h.1,fun j d=>?_⟩;obtain⟨g,e,a,b,c⟩:=h.2 j d;have q:∀o,v.cell? ⟨g,o,none⟩=f.cell? ⟨g,o,none⟩:=fun o=>Q6 (k.block g a (by simp))
 exact⟨g,e,QX a k.size,by rw[q];exact b,by rw[q];exact c⟩
set_option maxRecDepth 512
theorem mu(q:T.length<=100000)(f:mV b yf y T) :
  Calls prog 35 #[.slice yf T.length y,.string w] b fun e o=>e=.returned (.int .i64 (bF T w))/\o=b:=by
 have j:=f.1;have l:Hid _:=f;clear f;go_enter func35,ntmps35;go_wp2
 go_loopg [5] T.length (fun g i wr=>∃k:Nat,k<=T.length/\g=T.length-k/\i=.int .i64 k/\Hid (bF T w=du w (T.drop k) k)/\wr=b)
 case atStart=>exact⟨0,by omega,by omega,rfl,rfl,rfl⟩
 case round =>
  obtain⟨k,s,r,rfl,a,rfl⟩:=hrel
  by_cases c:k<T.length
  ·obtain⟨p,rfl,m,t,u⟩:=l.out.2 k c
   have n:(k:Int)<(T.length:Int):=by omega
   cases h:((aE T k).toList==w.toList)
   ·have d:Hid (bF T w=du w (T.drop (k+1)) (k+1)):=yx T w k c a.out h
    clear a;go_wp2
    go_roundg (T.length-(k+1))
    case measure=>omega
    case rel=>exact⟨k+1,by omega,rfl,by go_num,d,rfl⟩
   ·have d:Hid (bF T w=k):=BD T w k c a.out h
    clear a;go_wp2;go_ret;exact⟨QN d.out.symm,rfl⟩
  ·have d:Hid (bF T w=-1):=yA T w k c a.out
   clear a;go_wp2;go_ret;exact⟨QN d.out.symm,rfl⟩
def dm(fs:Fs)(s:ByteArray)(r:Int):Int :=
 if(r==0)=false then r else if(s.toList == [])=true then 7 else if ii s ⟨#[36]⟩=true then 5 else if bF fs s<0 then 6 else 0
def dI(s:ByteArray)(r:Int):Int :=
 if(r==0)=false then r else if(s.toList == [])=true then 7 else if(s.toList == [36,93])=false then 5 else 0
set_option maxRecDepth 100000
theorem Bl :
  Calls prog 119 #[.agg #[.string H,.int .i64 y3,.string w,.int .i64 y5,.int .i64 z4]] b fun e h=>e=.returned (.agg #[.string ⟨#[]⟩,.int .i64 (dI H y3),.string w,.int .i64 y5,.int .i64 z4])/\ab [] b h:=by
 cases d:(y3==0)
 ·have a:Hid (dI H y3=y3):=by show _=_;unfold dI;rw[QW d]
  rw[a.out];go_enter func119,ntmps119;go_wp2;exact QY (v:=.agg #[.string ⟨#[]⟩,.int .i64 y3,.string w,.int .i64 y5,.int .i64 z4]) (by simp[results,results119,go_sem]) rfl ⟨rfl,((ab.refl _ _).alloc _).alloc _⟩
 ·have f:y3=0:=by simpa using d
  subst f;clear d
  cases c:(H.toList == [])
  ·cases g:(H.toList == [36,93])
   ·have a:Hid (dI H 0=5):=by show _=_;unfold dI;rw[QT (by simp),QT (by rw[c];simp),QW g]
    rw[a.out];go_enter func119,ntmps119;go_wp2;exact QY (v:=.agg #[.string ⟨#[]⟩,.int .i64 5,.string w,.int .i64 y5,.int .i64 z4]) (by simp[results,results119,go_sem]) rfl ⟨rfl,((ab.refl _ _).alloc _).alloc _⟩
   ·have a:Hid (dI H 0=0):=by show _=_;unfold dI;rw[QT (by simp),QT (by rw[c];simp),QT (by rw[g];simp)]
    rw[a.out];go_enter func119,ntmps119;go_wp2;exact QY (v:=.agg #[.string ⟨#[]⟩,.int .i64 0,.string w,.int .i64 y5,.int .i64 z4]) (by simp[results,results119,go_sem]) rfl ⟨rfl,((ab.refl _ _).alloc _).alloc _⟩
  ·have a:Hid (dI H 0=7):=by show _=_;unfold dI;rw[QT (by simp),QW c]
   rw[a.out];go_enter func119,ntmps119;go_wp2;exact QY (v:=.agg #[.string ⟨#[]⟩,.int .i64 7,.string w,.int .i64 y5,.int .i64 z4]) (by simp[results,results119,go_sem]) rfl ⟨rfl,((ab.refl _ _).alloc _).alloc _⟩
theorem EE(q:T.length<=100000)(r:mV b yf y T)(s:H.size<=1073741824) :
  Calls prog 118 #[.slice yf T.length y,.agg #[.string H,.int .i64 y3,.string w,.int .i64 y5,.int .i64 z4]] b fun e o=>e=.returned (.agg #[.string ⟨#[]⟩,.int .i64 (dm T H y3),.string w,.int .i64 y5,.int .i64 z4])/\ab [] b o:=by
 have c:Hid (∀h,ab [] b h->Calls prog 35 #[.slice yf T.length y,.string H] h fun e o=>e=.returned (.int .i64 (bF T H))/\o=h):=fun h k=>mu T yf y H h q (r.Vb k)
 obtain⟨j,g⟩:∃j,Hid (bF T H=j):=⟨_,rfl⟩
 rw[g.out]at c
 cases m:(y3==0)
 ·have d:Hid (dm T H y3=y3):=by show _=_;unfold dm;rw[QW m]
  rw[d.out];go_enter func118,ntmps118;go_wp2_with (first | (go_at_call 120;refine(fF H _ _ (by omega) (by show 1<=_;omega)).mono ?_;rintro e f ⟨rfl,a⟩;rw[a];clear a) | (go_at_call 35;refine(c.out _ (by exact((ab.refl [] b).alloc _).alloc _)).mono ?_;rintro e f ⟨rfl,a⟩;rw[a];clear a));exact QY (v:=.agg #[.string ⟨#[]⟩,.int .i64 y3,.string w,.int .i64 y5,.int .i64 z4]) (by simp[results,results118,go_sem]) rfl ⟨rfl,((ab.refl _ _).alloc _).alloc _⟩
 ·have n:y3=0:=by simpa using m
  subst n;clear m
  cases i:(H.toList == [])
  ·cases l:ii H ⟨#[36]⟩
   ·by_cases p:j<0
    ·have d:Hid (dm T H 0=6):=by show _=_;unfold dm;rw[QT (by simp),QT (by rw[i];simp),QT (by rw[l];simp),g.out,QW p]
     rw[d.out];go_enter func118,ntmps118;go_wp2_with (first | (go_at_call 120;refine(fF H _ _ (by omega) (by show 1<=_;omega)).mono ?_;rintro e f ⟨rfl,a⟩;rw[a];clear a) | (go_at_call 35;refine(c.out _ (by exact((ab.refl [] b).alloc _).alloc _)).mono ?_;rintro e f ⟨rfl,a⟩;rw[a];clear a));exact QY (v:=.agg #[.string ⟨#[]⟩,.int .i64 6,.string w,.int .i64 y5,.int .i64 z4]) (by simp[results,results118,go_sem]) rfl ⟨rfl,((ab.refl _ _).alloc _).alloc _⟩
    ·have d:Hid (dm T H 0=0):=by show _=_;unfold dm;rw[QT (by simp),QT (by rw[i];simp),QT (by rw[l];simp),g.out,QT p]
     rw[d.out];go_enter func118,ntmps118;go_wp2_with (first | (go_at_call 120;refine(fF H _ _ (by omega) (by show 1<=_;omega)).mono ?_;rintro e f ⟨rfl,a⟩;rw[a];clear a) | (go_at_call 35;refine(c.out _ (by exact((ab.refl [] b).alloc _).alloc _)).mono ?_;rintro e f ⟨rfl,a⟩;rw[a];clear a));exact QY (v:=.agg #[.string ⟨#[]⟩,.int .i64 0,.string w,.int .i64 y5,.int .i64 z4]) (by simp[results,results118,go_sem]) rfl ⟨rfl,((ab.refl _ _).alloc _).alloc _⟩
   ·have d:Hid (dm T H 0=5):=by show _=_;unfold dm;rw[QT (by simp),QT (by rw[i];simp),QW l]
    rw[d.out];go_enter func118,ntmps118;go_wp2_with (first | (go_at_call 120;refine(fF H _ _ (by omega) (by show 1<=_;omega)).mono ?_;rintro e f ⟨rfl,a⟩;rw[a];clear a) | (go_at_call 35;refine(c.out _ (by exact((ab.refl [] b).alloc _).alloc _)).mono ?_;rintro e f ⟨rfl,a⟩;rw[a];clear a));exact QY (v:=.agg #[.string ⟨#[]⟩,.int .i64 5,.string w,.int .i64 y5,.int .i64 z4]) (by simp[results,results118,go_sem]) rfl ⟨rfl,((ab.refl _ _).alloc _).alloc _⟩
  ·have d:Hid (dm T H 0=7):=by show _=_;unfold dm;rw[QT (by simp),QW i]
   rw[d.out];go_enter func118,ntmps118;go_wp2_with (first | (go_at_call 120;refine(fF H _ _ (by omega) (by show 1<=_;omega)).mono ?_;rintro e f ⟨rfl,a⟩;rw[a];clear a) | (go_at_call 35;refine(c.out _ (by exact((ab.refl [] b).alloc _).alloc _)).mono ?_;rintro e f ⟨rfl,a⟩;rw[a];clear a));exact QY (v:=.agg #[.string ⟨#[]⟩,.int .i64 7,.string w,.int .i64 y5,.int .i64 z4]) (by simp[results,results118,go_sem]) rfl ⟨rfl,((ab.refl _ _).alloc _).alloc _⟩
def uW(L:List Tk):Prop:=∃t,L.getLast?=some t/\(t.s.toList == [])=true
theorem uW.next(h:uW d)(i:Nat)(t:Tk)(b:d[i]?=some t)(c:(t.s.toList == [])=false):i+1<d.length:=by
 obtain⟨u,a,f⟩:=h;obtain⟨g,-⟩:=Q8.1 b;rw[SO]at a
 by_cases e:i=d.length-1
 ·rw[<-e,b]at a
  cases a
  rw[f]at c
  cases c
 ·omega
theorem tQ(h:uW d):uW (z5 :: d):=by
 obtain⟨u,b,c⟩:=h
 cases d with
 | nil=>cases b
 | cons a r=>exact⟨u,by rw[UP];exact b,c⟩
theorem oI:((⟨#[]⟩:ByteArray).toList == [])=true:=by decide +kernel
theorem Bw:uW [⟨⟨#[]⟩,y3,w,y5,z4⟩]:=⟨_,rfl,oI⟩
theorem Kf:uW (ij H w):=by
 unfold ij
 split
 ·exact⟨_,Tc,oI⟩
 ·exact⟨_,Tc,oI⟩
theorem G3(b:Bool)(L:List Tk)(h:uW L):uW (bQ b L):=by
 induction L generalizing b with
 | nil=>obtain⟨u,c,-⟩:=h;cases c
 | cons t r g =>
  cases r with
  | nil =>
   obtain⟨u,c,d⟩:=h;have e:u=t:=by simpa using c.symm
   subst e;have i:u.s.toList=[]:=by simpa using d
   cases b
   ·rw[bQ,QT (by unfold Dw;rw[i];decide)]
    exact⟨u,rfl,d⟩
   ·rw[bQ]
    split
    ·exact⟨u,rfl,d⟩
    ·rw[QT (by unfold Dw;rw[i];decide),QW (by unfold Dw;exact d)]
     exact Bw _ _ _ _
  | cons a r =>
   have f:uW (a :: r):=by
    obtain⟨u,c,d⟩:=h;exact⟨u,by rw[UP]at c;exact c,d⟩
   cases b
   ·rw[bQ]
    split
    ·exact g true f
    ·exact tQ (g false f)
   ·rw[bQ]
    split
    ·exact tQ (g true f)
    ·split
     ·exact g false f
     ·split
      ·exact tQ (g true f)
      ·split
       ·exact Bw _ _ _ _
       ·exact g true f
def qV(fs:Fs)(k:Nat):List Tk:=bQ false (ij (aE fs k) (ak fs k))
theorem MM:uW (qV T n):=G3 _ _ (Kf _ _)
theorem Df:(qV T n).length<=(ak T n).size+2:=Q3 (KH _ _) (zv _ _)
def qO(t:Tk)(r:Int):Tk:=⟨⟨#[]⟩,r,t.file,t.line,t.col⟩
def cv(rec:Nat->List Bool->List Tk->List Tk×List Bool)(fs:Fs):List Tk->List Bool->List Tk->List Tk×List Bool
 | [],sn,out=>(out,sn)
 | t :: r,sn,out =>
  if((t.rule==0)&&(t.s.toList == []))=true then((if dg out=true then out else out++[qO t 7]),sn)
  else if(t.s.toList == [36,91])=false then cv rec fs r sn (out++[t])
  else if dg out=false then(out++[qO t 4],sn)
  else match r with
   | a :: b :: r' =>
    if(dm fs a.s a.rule==0)=false then(out++[qO a (dm fs a.s a.rule)],sn)
    else if(dI b.s b.rule==0)=false then(out++[qO b (dI b.s b.rule)],sn)
    else if sn.getD (bF fs a.s).toNat true=true then cv rec fs r' sn out
    else if eu (rec (bF fs a.s).toNat sn out).1=true then rec (bF fs a.s).toNat sn out
    else cv rec fs r' (rec (bF fs a.s).toNat sn out).2 (rec (bF fs a.s).toNat sn out).1
   | [a]=>(out++[qO a (dm fs a.s a.rule)],sn)
   | []=>(out,sn)
def dQ(fs:Fs):Nat->Nat->List Bool->List Tk->List Tk×List Bool
 | 0,_,sn,out=>(out,sn)
 | n+1,k,sn,out=>cv (dQ fs n) fs (qV fs k) (sn.set k true) out
def aQ(sn:List Bool):Nat:=sn.countP (fun b=>!b)
theorem lC(a:List Bool)(k:Nat)(h:a[k]?=some false):aQ (a.set k true)+1=aQ a:=by
 unfold aQ
 induction a generalizing k with
 | nil=>cases h
 | cons b r c =>
  cases k with
  | zero =>
   simp at h;subst h;simp
  | succ k =>
   have:=c k (by simpa using h);rw[SB,List.countP_cons,List.countP_cons];omega
def jy(w:World)(g:Nat)(sn:List Bool):Prop:=w.heap[g]?=some (.cells (sn.map Value.bool).toArray 4 (0,0))
theorem jy.cell(h:jy f S z0)(k:Nat)(b:Bool)(a:z0[k]?=some b):f.cell? ⟨S,k,none⟩=some (.bool b):=by
 rw[aa h];simp[a]
theorem jy.kept(h:jy f S z0)(k:ab ys f v)(a:S∉ys):jy v S z0:=k.get h a
theorem jy.set(h:jy f S z0)(k:Nat):jy (f.setCell ⟨S,k,none⟩ (.bool true)) S (z0.set k true):=by
 unfold jy;rw[ah h];simp[List.map_set]
theorem Fx(a:List Bool)(k:Nat)(h:a[k]?=some false):0<aQ a:=by
 have:=lC a k h;omega
structure uY(w w':World)(gs:Nat)(h h':Hd):Prop where
 kept:ab (gs :: h.blk.toList) w w'
 blk:h'.blk=h.blk∨∃g,h'.blk=some g/\w.heap.size<=g
theorem uY.refl(a:Nat)(h:Hd):uY b b a h h:=⟨ab.refl _ _,Q1 rfl⟩
theorem uY.of(b:bt f v a g):uY f v S a g:=⟨b.kept.mono (fun _ c _=>Rm _ c),b.blk⟩
theorem uY.trans{w1:World}(c:uY f w1 S a g)(b:uY w1 v S g x4):uY f v S a x4:=by
 refine⟨⟨b.kept.os.trans c.kept.os,b.kept.tape.trans c.kept.tape,b.kept.output.trans c.kept.output,Q3 c.kept.size b.kept.size,fun k m j=>?_⟩,?_⟩
 ·rw[b.kept.block k (QX m c.kept.size) (fun l=>?_),c.kept.block k m j]
  rcases Rj.1 l with e | l
  ·exact j (by rw[e];simp)
  ·have e:=aN l
   rcases c.blk with d | ⟨h,d,i⟩
   ·exact j (Rm _ (by rw[<-d,e];simp))
   ·rw[d]at e;cases e;omega
 ·rcases b.blk with e | ⟨h,e,i⟩
  ·rcases c.blk with d | ⟨h,d,i⟩
   ·exact Q1 (e.trans d)
   ·exact QV ⟨h,e.trans d,i⟩
  ·exact QV ⟨h,e,Q3 c.kept.size i⟩
structure rg(w:World)(gf cap:Nat)(fs:Fs)(gs:Nat)(sn:List Bool)(h:Hd)(O:List Tk):Prop where
 own:aw w h (ir O)
 seen:jy w gs sn
 src:mV w (some ⟨gf,0,none⟩) cap fs
 a1:h.blk≠some gs
 a2:h.blk≠some gf
 a3:gf≠gs
 lt:gf<w.heap.size
theorem mV.kept(h:mV f (some ⟨S,0,none⟩) y2 N)(k:ab ys f v)(i:S∉ys):mV v (some ⟨S,0,none⟩) y2 N:=by
 refine⟨h.1,fun j l=>?_⟩;obtain⟨g,e,a,b,c⟩:=h.2 j l;have d:g=S:=by cases e;rfl
 subst d;have q:∀o,v.cell? ⟨g,o,none⟩=f.cell? ⟨g,o,none⟩:=fun o=>Q6 (k.block g a i)
 exact⟨g,rfl,QX a k.size,by rw[q];exact b,by rw[q];exact c⟩
section
variable {w w':World} {gf cap:Nat} {fs:Fs} {gs:Nat} {sn sn':List Bool} {h h':Hd} {O O':List Tk}
theorem rg.Vb(a:rg w gf cap fs gs sn h O)(k:ab [] w w'):rg w' gf cap fs gs sn h O :=
 ⟨a.own.Vb k,a.seen.kept k (by simp),a.src.kept k (by simp),a.a1,a.a2,a.a3,QX a.lt k.size⟩
theorem rg.far(a:rg w gf cap fs gs sn h O)(r:uY w w' gs h h'):h'.blk≠some gs/\h'.blk≠some gf:=by
 have c:=ae a.seen;have d:=a.lt
 rcases r.blk with e | ⟨g,e,b⟩
 ·rw[e];exact⟨a.a1,a.a2⟩
 ·rw[e];exact⟨fun q=>by cases q;omega,fun q=>by cases q;omega⟩
theorem rg.turn(a:rg w gf cap fs gs sn h O)(r:uY w w' gs h h')(o:aw w' h' (ir O'))(s:jy w' gs sn'):rg w' gf cap fs gs sn' h' O':=by
 obtain⟨c,d⟩:=a.far r;refine⟨o,s,a.src.kept r.kept (fun b=>?_),c,d,a.a3,QX a.lt r.kept.size⟩
 rcases Rj.1 b with e | b
 ·exact a.a3 e
 ·exact a.a2 (aN b)
theorem rg.Vl(a:rg w gf cap fs gs sn h O)(g:bt w w' h h')(o:aw w' h' (ir O')):rg w' gf cap fs gs sn h' O' :=
 a.turn (uY.of g) o (a.seen.kept g.kept (fun b=>a.a1 (aN b)))
end
theorem Kc:(w.extract k n).size<=w.size:=by rw[Tw];omega
theorem xv(h:∀t∈y4,t.s.size<=w.size):∀t∈je H w k n y4,t.s.size<=w.size:=by
 intro t a;unfold je at a
 split at a
 ·exact h t a
 ·rcases Rr.1 a with a | a
  ·exact h t a
  ·rw[Q9.1 a];exact Kc w k n
theorem zq(i:Nat):∀t∈jd H w i,t.s.size<=w.size:=by
 induction i with
 | zero=>intro t b;cases b
 | succ i a =>
  rw[jd]
  split
  ·exact xv H w _ _ _ a
  ·exact a
theorem xy:∀t∈ij H w,t.s.size<=w.size:=by
 intro t a;unfold ij at a
 split at a
 ·rcases Rr.1 a with a | a
  ·exact zq H w _ t a
  ·rw[Q9.1 a];exact Ro _
 ·rcases Rr.1 a with a | a
  ·exact xv H w _ _ _ (zq H w _) t a
  ·rw[Q9.1 a];exact Ro _
theorem G7(b:Bool)(L:List Tk)(h:∀t∈L,t.s.size<=n):∀t∈bQ b L,t.s.size<=n:=by
 induction L generalizing b with
 | nil=>intro t c;cases b <;> simp[bQ]at c
 | cons a r g =>
  have d:=fun b=>g b (fun t c=>h t (Rm _ c))
  have f:=h a (by simp);intro t c
  cases b
  ·rw[bQ]at c
   split at c
   ·exact d _ t c
   ·rcases Rj.1 c with e | c
    ·rw[e];exact f
    ·exact d _ t c
  ·rw[bQ]at c
   split at c
   ·rcases Rj.1 c with e | c
    ·rw[e];exact f
    ·exact d _ t c
   ·split at c
    ·exact d _ t c
    ·split at c
     ·rcases Rj.1 c with e | c
      ·rw[e];exact Ro _
      ·exact d _ t c
     ·split at c
      ·rw[Q9.1 c];exact Ro _
      ·exact d _ t c
theorem J1:∀t∈qV T n,t.s.size<=(ak T n).size:=G7 _ _ _ (xy _ _)
def Kr(w:World)(gs:Nat)(sn:List Bool)(h:Hd)(out:List Tk)(R:List Tk×List Bool)(e:Ending)(w':World):Prop :=
 ∃h',e=.returned (.slice h'.ao R.1.length h'.cap)/\aw w' h' (ir R.1)/\jy w' gs R.2/\uY w w' gs h h'/\R.2.length=sn.length/\R.1.length+2000*aQ R.2<=out.length+2000*aQ sn/\aQ R.2<=aQ sn
structure Kh(w wr:World)(gf cap:Nat)(fs:Fs)(gs:Nat)(sn:List Bool)(h h':Hd)(O:List Tk)(gT capT:Nat)(T:List Tk):Prop where
 i:rg wr gf cap fs gs sn h' O
 r:uY w wr gs h h'
 t:aw wr ⟨some ⟨gT,0,none⟩,capT⟩ (ir T)
 b1:h'.blk≠some gT
 b2:gT≠gs
section
variable {w wr wr':World} {gf cap:Nat} {fs:Fs} {gs:Nat} {sn sn':List Bool} {h h' h'':Hd} {O O':List Tk} {gT capT:Nat} {T:List Tk}
theorem Kh.turn(a:Kh w wr gf cap fs gs sn h h' O gT capT T)(r:uY wr wr' gs h' h'')(o:aw wr' h'' (ir O'))(s:jy wr' gs sn'):Kh w wr' gf cap fs gs sn' h h'' O' gT capT T:=by
 have f:gT<wr.heap.size:=a.t.lt rfl;refine⟨a.i.turn r o s,a.r.trans r,a.t.Vg (fun q c=>r.kept.block q (a.t.lt c) (fun b=>?_)),?_,a.b2⟩
 ·have e:q=gT:=by cases c;rfl
  subst e
  rcases Rj.1 b with e | b
  ·exact a.b2 e
  ·exact a.b1 (aN b)
 ·rcases r.blk with e | ⟨g,e,d⟩
  ·rw[e];exact a.b1
  ·rw[e];intro q;cases q;omega
theorem Kh.Vl(a:Kh w wr gf cap fs gs sn h h' O gT capT T)(g:bt wr wr' h' h'')(o:aw wr' h'' (ir O')):Kh w wr' gf cap fs gs sn h h'' O' gT capT T :=
 a.turn (uY.of g) o (a.i.seen.kept g.kept (fun b=>a.i.a1 (aN b)))
theorem Kh.Vb(a:Kh w wr gf cap fs gs sn h h' O gT capT T)(k:ab [] wr wr'):Kh w wr' gf cap fs gs sn h h' O gT capT T :=
 a.Vl (bt.Vb k) (a.i.own.Vb k)
end
theorem oM{b:List Bool}{j c:Nat}{T:List Tk}{R:List Tk×List Bool}(h:Kh f v S y2 N yg b a g M j c T)(e:R=(M,b))(n:b.length=z0.length)(k:M.length+2000*aQ b<=d.length+2000*aQ z0)(l:aQ b<=aQ z0){m:Nat}(o:m=M.length):Kr f yg z0 a d R (.returned (.slice g.ao m g.cap)) v:=by
 subst e;subst o;exact⟨g,rfl,h.i.own,h.i.seen,h.r,n,k,l⟩
theorem yZ(h:((z5.rule==0)&&(z5.s.toList == []))=true):cv yt N (z5 :: d) z0 M=((if dg M=true then M else M++[qO z5 7]),z0):=by
 rw[cv.eq_def];simp only;rw[QW h]
theorem E1(h:((z5.rule==0)&&(z5.s.toList == []))=false)(a:(z5.s.toList == [36,91])=false):cv yt N (z5 :: d) z0 M=cv yt N d z0 (M++[z5]):=by
 rw[cv.eq_def];simp only;rw[QT (by rw[h];simp),QW a]
theorem Jr(h:((z5.rule==0)&&(z5.s.toList == []))=false)(a:(z5.s.toList == [36,91])=true)(b:dg M=false):cv yt N (z5 :: d) z0 M=(M++[qO z5 4],z0):=by
 rw[cv.eq_def];simp only;rw[QT (by rw[h];simp),QT (by rw[a];simp),QW b]
theorem CP{a:Tk}(h:((z5.rule==0)&&(z5.s.toList == []))=false)(c:(z5.s.toList == [36,91])=true)(e:dg M=true)(f:(dm N a.s a.rule==0)=false):cv yt N (z5 :: a :: d) z0 M=(M++[qO a (dm N a.s a.rule)],z0):=by
 rw[cv.eq_def];simp only;rw[QT (by rw[h];simp),QT (by rw[c];simp),QT (by rw[e];simp)]
 cases d with
 | nil=>rfl
 | cons b d=>simp only;rw[QW f]
theorem Jq{rec:Nat->List Bool->List Tk->List Tk×List Bool}{fs:Fs}{t a b:Tk}{r:List Tk}{sn:List Bool}(h:((t.rule==0)&&(t.s.toList == []))=false)(c:(t.s.toList == [36,91])=true)(e:dg d=true)(f:(dm fs a.s a.rule==0)=true):cv rec fs (t :: a :: b :: r) sn d =
  if(dI b.s b.rule==0)=false then(d++[qO b (dI b.s b.rule)],sn)
  else if sn.getD (bF fs a.s).toNat true=true then cv rec fs r sn d
  else if eu (rec (bF fs a.s).toNat sn d).1=true then rec (bF fs a.s).toNat sn d
  else cv rec fs r (rec (bF fs a.s).toNat sn d).2 (rec (bF fs a.s).toNat sn d).1:=by
 rw[cv.eq_def];simp only;rw[QT (by rw[h];simp),QT (by rw[c];simp),QT (by rw[e];simp),QT (by rw[f];simp)]
theorem BC(a:Fs)(i:Nat):du w a i<(i:Int)+a.length∨a.length=0:=by
 induction a generalizing i with
 | nil=>exact QV rfl
 | cons f r b =>
  left
  rw[du]
  split
  ·simp;omega
  ·rcases b (i+1) with h | h
   ·simp at h ⊢;omega
   ·rw[Rk h,du];simp;omega
theorem No(h:0<=bF N i):bF N i<N.length:=by
 unfold bF at h ⊢
 rcases BC i N 0 with e | e
 ·simpa using e
 ·rw[Rk e,du]at h;omega
theorem EG(h:(dm N i yz==0)=true):(i.toList == [])=false/\0<=bF N i:=by
 unfold dm at h
 cases a:(yz==0)
 ·rw[QW a,a]at h;cases h
 ·rw[QT (by rw[a];simp)]at h
  cases b:(i.toList == [])
  ·rw[QT (by rw[b];simp)]at h
   refine⟨rfl,?_⟩
   split at h
   ·cases h
   ·split at h
    ·cases h
    ·omega
  ·rw[QW b]at h;cases h
theorem Js(c8:T.length<=4)(cs:∀m,(ak T m).size<=1024)(W:Nat):∀(m:Nat) (p:List Bool) (f:List Tk) (h:Hd) (N H:Nat) (w:World),aQ p<=W->p.length=T.length->T.length<=H->m<T.length->p[m]?=some false->f.length+2000*aQ p<=100000->rg w k n T N p h f ->
  Calls prog 82 #[.slice (some ⟨k,0,none⟩) T.length n,.int .i64 m,.slice (some ⟨N,0,none⟩) T.length H,.slice h.ao f.length h.cap] w fun e w'=>Kr w N p h f (dQ T W m p f) e w':=by
 induction W with
 | zero=>intro m p f h N H w hn b5 b4 hk hs;have:=Fx p m hs;omega
 | succ W ih =>
  intro m p f h N H w hn b5 b4 hk hs hb hI;have ch:Hid _:=ih;clear ih;have dp:(m:Int)<(T.length:Int):=by omega
  have s0:=hI.seen.cell m false hs;have s1:=am hI.seen m;have dk:=ae hI.seen;have cP:=hI.src.1;have k1:ab [N] w (w.setCell ⟨N,m,none⟩ (.bool true)):=(ab.refl [N] w).setCell (Q1 (by simp)) _;obtain⟨w1,aS⟩:∃w1,Hid (w.setCell ⟨N,m,none⟩ (.bool true)=w1):=⟨_,rfl⟩
  rw[aS.out]at k1;have R1:uY w w1 N h h:=⟨k1.mono (fun x hx _=>by simp at hx;simp[hx]),Q1 rfl⟩;have a6:rg w1 k n T N (p.set m true) h f:=hI.turn R1 (hI.own.Vg (fun q hq=>k1.block q (hI.own.lt hq) (by simp;intro e;exact hI.a1 (by rw[<-e];exact hq)))) (by rw[<-aS.out];exact hI.seen.set m);have hu:=lC p m hs;have cy:(p.set m true).length=T.length:=by rw[Rv];exact b5
  obtain⟨c5,e1,cu,c0,c1⟩:=a6.src.2 m hk
  cases e1
  have c7:=cs m;have bp:Hid _:=Df T m;have an:Hid _:=MM T m;have bv:Hid _:=J1 T m;have HT:Hid (qV T m=bQ false (ij (aE T m) (ak T m))):=rfl;have HR:Hid (dQ T (W+1) m p f=cv (dQ T W) T (qV T m) (p.set m true) f):=rfl;have bx:Hid _:=xy (aE T m) (ak T m);have cH:=zv (aE T m) (ak T m);obtain⟨R,ck⟩:∃R,Hid (dQ T (W+1) m p f=R):=⟨_,rfl⟩
  rw[ck.out]at HR ⊢;have ai:Hid _:=a6;have bg:Hid _:=R1;clear a6 R1 k1 hI;go_enter func82,ntmps82
  go_upto_region 2 with fail
  rw[aS.out]
  go_upto_region 3 with (go_at_call 115;refine(FJ _ _ _ (by omega)).mono ?_;rintro e w2 ⟨hW,rfl,oW,kW,fW⟩)
  have K:Hid _:=(G1 (ij (aE T m) (ak T m)) hW.ao hW.cap w2 (by omega) oW.src (fun t ht=>by have:=bx.out t ht;omega));rw[<-HT.out]at K
  go_upto_region 4 with (go_at_call 116;refine(QU K.out ?_);rintro e w3 ⟨hT,rfl,bT⟩)
  obtain⟨l,co⟩:∃l,Hid (qV T m=l):=⟨_,rfl⟩
  rw[co.out]at bp an bv HR bT ⊢
  have cq:0<l.length:=by
   obtain⟨u,e1,-⟩:=an.out
   cases l with
   | nil=>cases e1
   | cons _ _=>simp
  obtain⟨gT,eT,db,b0⟩:=qq bT.own cq;obtain⟨cX,Y⟩:=hT;simp only at eT;subst eT;have b0:l.length<=Y:=b0;have c6:l.length<=1026:=by have:=bp.out;omega
  have cl:Hid (Kh w w3 k n T N (p.set m true) h h f gT Y l):=by
   have f1:=bT.far gT rfl;have f2:=kW.size;have f3:=ae ai.out.seen;refine⟨(ai.out.Vb kW).Vb bT.kept,bg.out.trans (uY.of (bt.Vb (kW.trans bT.kept))),bT.own,fun e=>?_,by omega⟩;have:=ai.out.own.lt e;omega
  obtain⟨U1,a5⟩:∃U1,Hid (aQ (p.set m true)=U1):=⟨_,rfl⟩
  obtain⟨U,M⟩:∃U,Hid (aQ p=U):=⟨_,rfl⟩
  rw[a5.out]at hu;rw[M.out]at hu hn hb;clear c0 c1 s0 s1 cu ai bg aS oW kW fW K bT bx HT cH;go_wp2
  go_loopg [3,11] l.length (fun g o i wr=>∃(q:Nat) (Q:Hd) (O:List Tk) (c:List Bool),q<=l.length/\g=l.length-q/\o=.slice Q.ao O.length Q.cap/\i=.int .i64 q/\(O.length+2000*aQ c<=f.length+q+2000*U1/\aQ c<=U1/\c.length=T.length)/\Hid (cv (dQ T W) T (l.drop q) c O=R)/\Hid (Kh w wr k n T N c h Q O gT Y l))
  case atStart=>exact⟨0,h,f,p.set m true,by omega,rfl,rfl,rfl,⟨by rw[a5.out];omega,by rw[a5.out];omega,cy⟩,by show _=_;rw[U0];exact HR.out.symm,cl⟩
  case round =>
   obtain⟨q,Q,O,c,hq,hg,rfl,rfl,⟨z1,z2,z3⟩,HE,L⟩:=hrel;obtain⟨U2,d⟩:∃U2,Hid (aQ c=U2):=⟨_,rfl⟩
   rw[d.out]at z1 z2
   by_cases ba:q<l.length
   ·have ds:(q:Int)<(l.length:Int):=by omega
    obtain⟨c0,c1,c2,c3,c4⟩:=pZ L.out.t rfl q l[q] (QP ba);have HD:Hid _:=Rf ba;have bd:Hid ((l[q].s.toList == [])=false->q+1<l.length):=fun he=>uW.next an.out q _ (QP ba) he
    rw[HD.out]at HE;obtain⟨bw,P⟩:∃bw,Hid (dg O=bw):=⟨_,rfl⟩
    have a0:Hid _:=(zJ O Q.ao Q.cap wr (by omega) L.out.i.own.src);rw[P.out]at a0;have df:gT<wr.heap.size:=L.out.t.lt rfl;generalize l[q]=t at *;obtain⟨J,S,tf,tl,tc⟩:=t;simp only at c0 c1 c2 c3 c4 bd
    go_upto_region 8 with (go_at_call 117;refine QU a0.out ?_;rintro e w4 ⟨rfl,b6⟩;rw[b6];clear b6)
    clear a0
    go_cut [47] from 34 to 47 (fun cL wd=>cL=.bool ((S==0)&&(J.toList == []))/\wd=wr)
    case first =>
     cases hr:(S==0)
     ·go_wp2_with fail
      go_meet
      case rel=>exact⟨by rw[hr];rfl,rfl⟩
     ·cases he:(J.toList == [])
      ·go_wp2_with fail
       go_meet
       case rel=>exact⟨by rw[hr,he];rfl,rfl⟩
      ·go_wp2_with fail
       go_meet
       case rel=>exact⟨by rw[hr,he];rfl,rfl⟩
    case rest =>
     obtain⟨rfl,cF⟩:=hcut;subst cF
     cases hA:((S==0)&&(J.toList == []))
     ·cases hi:(J.toList == [36,91])
      ·have G:Hid (cv (dQ T W) T (l.drop (q+1)) c (O++[⟨J,S,tf,tl,tc⟩])=R):=by show _=_;rw[<-HE.out];exact(E1 hA hi).symm
       go_wp2_with (at_builtin;refine bY _ rfl (.tmp 66) (.tmp 71) rfl Q O ⟨J,S,tf,tl,tc⟩ rfl L.out.i.own (by omega) rfl ?_;intro h5 D z y;have HM:Hid _:=L.out.Vl y z;clear z y)
       go_roundg (l.length-(q+1))
       case measure=>omega
       case rel=>exact⟨q+1,h5,O++[⟨J,S,tf,tl,tc⟩],c,by omega,rfl,by simp,by go_num,⟨by rw[d.out];simp;omega,by rw[d.out];exact z2,z3⟩,G,HM⟩
      ·cases bw
       ·have G:Hid (R=(O++[qO ⟨J,S,tf,tl,tc⟩ 4],c)):=by show _=_;rw[<-HE.out];exact Jr hA hi P.out
        have B:(O++[qO ⟨J,S,tf,tl,tc⟩ 4]).length+2000*aQ c<=f.length+2000*aQ p:=by rw[d.out,M.out];simp;omega
        have j:aQ c<=aQ p:=by rw[d.out,M.out];omega
        go_wp2_with (at_builtin;refine bY _ rfl (.tmp 75) (.tmp 82) rfl Q O (qO ⟨J,S,tf,tl,tc⟩ 4) rfl L.out.i.own (by omega) rfl ?_;intro h5 D z y;have HM:Hid _:=L.out.Vl y z;clear z y);go_ret;exact oM HM.out G.out (by omega) B j (by simp)
       ·have he:(J.toList == [])=false:=by
         have e:J.toList=[36,91]:=by simpa using hi
         rw[e];rfl
        have Z:=bd.out he;obtain⟨d0,d1,d2,d3,d4⟩:=pZ L.out.t rfl (q+1) l[q+1] (QP Z);have cc:Hid _:=Rf Z;rw[cc.out]at HE;have cB:=bv.out l[q+1] (Rb Z);have aT:Hid ((l[q+1].s.toList == [])=false->q+1+1<l.length):=fun he=>uW.next an.out (q+1) _ (QP Z) he
        have ca:Hid (l[q+1]?=some l[q+1]):=QP Z;generalize l[q+1]=a at *;obtain⟨xs,ar,af,al,ac⟩:=a;simp only at d0 d1 d2 d3 d4 aT cB;have cT:(q:Int)+1<(l.length:Int):=by omega
        obtain⟨r1,az⟩:∃r1,Hid (dm T xs ar=r1):=⟨_,rfl⟩
        have a3:Hid _:=(EE T (some ⟨k,0,none⟩) n xs af ar al ac _ (by omega) L.out.i.src (by omega));rw[az.out]at a3
        go_upto_region 17 with (go_at_call 118;refine QU a3.out ?_;rintro e D ⟨rfl,k5⟩)
        obtain⟨W5,ap⟩:∃W5,Hid (D.alloc (.cells #[.string ⟨#[]⟩,.int .i64 r1,.string af,.int .i64 al,.int .i64 ac] 138)=W5):=⟨_,rfl⟩
        have F:W5.heap[D.heap.size]?=some (.cells #[.string ⟨#[]⟩,.int .i64 r1,.string af,.int .i64 al,.int .i64 ac] 138 (0,0)):=by rw[<-ap.out];exact QS _ _
        have K5:=k5.trans (show ab [] D W5 by rw[<-ap.out];exact(ab.refl [] _).alloc _);have a4:Hid _:=L.out.Vb K5;have dt:=ae F;have ad:=k5.size;rw[ap.out];clear c0 c1 c2 c3 c4 d0 d1 d2 d3 d4 ap a3 k5;have p0:W5.cell? ⟨D.heap.size,0,none⟩=some (.string ⟨#[]⟩):=by rw[aa F];rfl
        have p1:W5.cell? ⟨D.heap.size,1,none⟩=some (.int .i64 r1):=by rw[aa F];rfl
        have p2:W5.cell? ⟨D.heap.size,2,none⟩=some (.string af):=by rw[aa F];rfl
        have p3:W5.cell? ⟨D.heap.size,3,none⟩=some (.int .i64 al):=by rw[aa F];rfl
        have p4:W5.cell? ⟨D.heap.size,4,none⟩=some (.int .i64 ac):=by rw[aa F];rfl
        cases h1:(r1==0)
        ·have G:Hid (R=(O++[qO ⟨xs,ar,af,al,ac⟩ r1],c)):=by show _=_;rw[<-HE.out,CP hA hi P.out (by show(dm T xs ar==0)=false;rw[az.out];exact h1)];simp only;rw[az.out]
         have B:(O++[qO ⟨xs,ar,af,al,ac⟩ r1]).length+2000*aQ c<=f.length+2000*aQ p:=by rw[d.out,M.out];simp;omega
         have j:aQ c<=aQ p:=by rw[d.out,M.out];omega
         go_wp2_with (at_builtin;refine bY _ rfl (.tmp 103) (.tmp 105) rfl Q O (qO ⟨xs,ar,af,al,ac⟩ r1) rfl a4.out.i.own (by omega) rfl ?_;intro h5 w8 z y;have HM:Hid _:=a4.out.Vl y z;clear z y);go_ret;exact oM HM.out G.out (by omega) B j (by simp)
        ·have cz:r1=0:=by simpa using h1
         subst cz;clear h1;have be:Hid ((dm T xs ar==0)=true):=by show _=_;rw[az.out];rfl
         obtain⟨cE,b1⟩:=EG be.out;have b3:q+2<l.length:=aT.out cE;obtain⟨d0,d1,d2,d3,d4⟩:=pZ a4.out.t rfl (q+2) l[q+2] (QP b3);have cf:Hid (l.drop (q+1+1)=l[q+2] :: l.drop (q+3)):=Rf b3;rw[cf.out]at HE;generalize l[q+2]=b at *;obtain⟨bs,br,bf,bl,bc⟩:=b;simp only at d0 d1 d2 d3 d4;have cV:(q:Int)+2<(l.length:Int):=by omega
         obtain⟨r2,bz⟩:∃r2,Hid (dI bs br=r2):=⟨_,rfl⟩
         have a2:Hid _:=Bl bs bf br bl bc W5;rw[bz.out]at a2;have v:Hid _:=Jq (rec:=dQ T W) (fs:=T) (r:=l.drop (q+3)) (sn:=c) (t:=⟨J,S,tf,tl,tc⟩) (a:=⟨xs,ar,af,al,ac⟩) (b:=⟨bs,br,bf,bl,bc⟩) hA hi P.out be.out;rw[HE.out]at v;simp only at v;rw[bz.out]at v
         go_upto_region 19 with (go_at_call 119;refine QU a2.out ?_;rintro e w6 ⟨rfl,k6⟩;have A:=k6.get F (by simp);have f0:=am A 0;have f1:=am A 1;have f2:=am A 2;have f3:=am A 3;have f4:=am A 4;have o0:=aa A 0;have o1:=aa A 1;have o2:=aa A 2;have o3:=aa A 3;have o4:=aa A 4;have dv:=ae A)
         obtain⟨V,ax⟩:∃V,Hid (((((w6.setCell ⟨D.heap.size,0,none⟩ (.string ⟨#[]⟩)).setCell ⟨D.heap.size,1,none⟩ (.int .i64 r2)).setCell ⟨D.heap.size,2,none⟩ (.string bf)).setCell ⟨D.heap.size,3,none⟩ (.int .i64 bl)).setCell ⟨D.heap.size,4,none⟩ (.int .i64 bc)=V):=⟨_,rfl⟩
         have K6:=(show Hid (ab [] _ V) by rw[<-ax.out];exact(((((K5.trans k6).setCell (QV (by exact ad)) _).setCell (QV (by exact ad)) _).setCell (QV (by exact ad)) _).setCell (QV (by exact ad)) _).setCell (QV (by exact ad)) _);have E:Hid _:=L.out.Vb K6.out
         have BX:V.heap[D.heap.size]?=some (.cells #[.string ⟨#[]⟩,.int .i64 r2,.string bf,.int .i64 bl,.int .i64 bc] 138 (0,0)):=by
          rw[<-ax.out,ah (ah (ah (ah (ah A 0 _) 1 _) 2 _) 3 _) 4 _];rfl
         rw[ax.out];clear p0 p1 p2 p3 p4 d0 d1 d2 d3 d4 f0 f1 f2 f3 f4 o0 o1 o2 o3 o4 a2 ax F A K6 k6 K5;have p0:V.cell? ⟨D.heap.size,0,none⟩=some (.string ⟨#[]⟩):=by rw[aa BX];rfl
         have p1:V.cell? ⟨D.heap.size,1,none⟩=some (.int .i64 r2):=by rw[aa BX];rfl
         have p2:V.cell? ⟨D.heap.size,2,none⟩=some (.string bf):=by rw[aa BX];rfl
         have p3:V.cell? ⟨D.heap.size,3,none⟩=some (.int .i64 bl):=by rw[aa BX];rfl
         have p4:V.cell? ⟨D.heap.size,4,none⟩=some (.int .i64 bc):=by rw[aa BX];rfl
         have dz:=ae BX
         cases h2:(r2==0)
         ·have G:Hid (R=(O++[qO ⟨bs,br,bf,bl,bc⟩ r2],c)):=by show _=_;rw[v.out,QW h2]
          have B:(O++[qO ⟨bs,br,bf,bl,bc⟩ r2]).length+2000*aQ c<=f.length+2000*aQ p:=by rw[d.out,M.out];simp;omega
          have j:aQ c<=aQ p:=by rw[d.out,M.out];omega
          go_wp2_with (at_builtin;refine bY _ rfl (.tmp 103) (.tmp 105) rfl Q O (qO ⟨bs,br,bf,bl,bc⟩ r2) rfl E.out.i.own (by omega) rfl ?_;intro h5 w8 z y;have HM:Hid _:=E.out.Vl y z;clear z y);go_ret;exact oM HM.out G.out (by omega) B j (by simp)
         ·have cA:r2=0:=by simpa using h2
          subst cA;clear h2;rw[QT (by simp)]at v;obtain⟨jn,b2⟩:∃jn:Nat,bF T xs=(jn:Int):=⟨(bF T xs).toNat,by omega⟩
          have cx:jn<T.length:=by have:=No b1;omega
          have dl:(jn:Int)<(T.length:Int):=by omega
          have cS:(0:Int)<=(jn:Int):=by omega
          have ag:Hid _:=(mu T (some ⟨k,0,none⟩) n xs V (by omega) E.out.i.src);rw[b2]at ag v;rw[Sa]at v;obtain⟨e0,-⟩:=pZ E.out.t rfl (q+1) _ ca.out;simp only at e0;obtain⟨bj,a7⟩:∃bj,c[jn]?=some bj:=⟨_,QP (by omega)⟩
          have sj:=E.out.i.seen.cell jn bj a7;have ct:c.getD jn true=bj:=by rw[QQ,a7];rfl
          rw[ct]at v;have c9:=ae E.out.i.seen;have cR:gT<V.heap.size:=E.out.t.lt rfl;clear b2 b1
          cases bj
          ·rw[QT (by simp)]at v
           have X:Hid _:=(ch.out jn c O Q N H V (by rw[d.out];omega) z3 b4 cx a7 (by rw[d.out];omega) E.out.i);obtain⟨R7,cj⟩:∃R7,Hid (dQ T W jn c O=R7):=⟨_,rfl⟩
           rw[cj.out]at X v;obtain⟨O7,I⟩:=R7
           go_upto_region 24 with (first | (go_at_call 35;refine QU ag.out ?_;rintro e w9 ⟨rfl,C⟩;rw[C];clear C) | (go_at_call 82;refine QU X.out ?_;rintro e w7 ⟨h7,rfl,o7,s7,r7,l7,n7,u7⟩;have bo:Hid _:=E.out.turn r7 o7 s7))
           clear p0 p1 p2 p3 p4 e0 sj X ag BX;have l7:I.length=c.length:=l7;have n7:O7.length+2000*aQ I<=O.length+2000*aQ c:=n7;have u7:aQ I<=aQ c:=u7;obtain⟨bk,cb⟩:∃bk,Hid (eu O7=bk):=⟨_,rfl⟩
           have cp:O7.length<=100000:=by rw[d.out]at n7;omega
           have K:Hid _:=uC O7 h7.ao h7.cap w7 cp o7.src;rw[cb.out]at K v;rw[d.out]at n7 u7;clear o7 s7 r7
           cases bk
           ·have G:Hid (cv (dQ T W) T (l.drop (q+3)) I O7=R):=by show _=_;rw[v.out,QT (by simp)]
            go_wp2_with (go_at_call 83;refine QU K.out ?_;rintro e w9 ⟨rfl,C⟩;rw[C];clear C)
            go_roundg (l.length-(q+3))
            case measure=>omega
            case rel=>exact⟨q+3,h7,O7,I,by omega,rfl,rfl,by go_num,⟨by omega,by omega,by omega⟩,G,bo⟩
           ·have G:Hid (R=(O7,I)):=by show _=_;rw[v.out,QW rfl]
            have B:O7.length+2000*aQ I<=f.length+2000*aQ p:=by rw[M.out];omega
            have j:aQ I<=aQ p:=by rw[M.out];omega
            go_wp2_with (go_at_call 83;refine QU K.out ?_;rintro e w9 ⟨rfl,C⟩;rw[C];clear C);go_ret;exact oM bo.out G.out (by omega) B j rfl
          ·rw[QW rfl]at v
           go_wp2_with (go_at_call 35;refine QU ag.out ?_;rintro e w9 ⟨rfl,C⟩;rw[C];clear C)
           go_roundg (l.length-(q+3))
           case measure=>omega
           case rel=>exact⟨q+3,Q,O,c,by omega,rfl,rfl,by go_num,⟨by rw[d.out];omega,by rw[d.out];exact z2,z3⟩,v.out.symm,E⟩
     ·cases bw
      ·have G:Hid (R=(O++[qO ⟨J,S,tf,tl,tc⟩ 7],c)):=by show _=_;rw[<-HE.out];exact by rw[yZ hA,QT (by rw[P.out];simp)]
       have B:(O++[qO ⟨J,S,tf,tl,tc⟩ 7]).length+2000*aQ c<=f.length+2000*aQ p:=by rw[d.out,M.out];simp;omega
       have j:aQ c<=aQ p:=by rw[d.out,M.out];omega
       go_wp2_with (at_builtin;refine bY _ rfl (.tmp 50) (.tmp 57) rfl Q O (qO ⟨J,S,tf,tl,tc⟩ 7) rfl L.out.i.own (by omega) rfl ?_;intro h5 D z y;have HM:Hid _:=L.out.Vl y z;clear z y);go_ret;exact oM HM.out G.out (by omega) B j (by simp)
      ·have G:Hid (R=(O,c)):=by show _=_;rw[<-HE.out,yZ hA,QW P.out]
       have B:O.length+2000*aQ c<=f.length+2000*aQ p:=by rw[d.out,M.out];omega
       have j:aQ c<=aQ p:=by rw[d.out,M.out];omega
       go_wp2;go_ret;exact oM L.out G.out (by omega) B j rfl
   ·have e:q=l.length:=by omega
    subst e;have G:Hid (R=(O,c)):=by show _=_;rw[<-HE.out,List.drop_length,cv]
    have B:O.length+2000*aQ c<=f.length+2000*aQ p:=by rw[d.out,M.out];omega
    have j:aQ c<=aQ p:=by rw[d.out,M.out];omega
    go_wp2;go_ret;exact oM L.out G.out (by omega) B j rfl
theorem Ls:(prog.info? 4).map (fun i=>(i.zero,i.size,i.bytes))=some (some (.bool false),1,1):=by kernel_rfl
theorem wE:madeCells (Value.bool false).cells (n*1)=((List.replicate n false).map Value.bool).toArray:=by
 rw[UZ]
 apply Array.ext
 ·rw[Su];simp
 ·intro i a b
  have e:(Value.bool false).cells=#[.bool false]:=rfl;simp[madeCells,e,Nat.mod_one]
def pt(fs:Fs)(k:Nat):List Tk:=(dQ fs fs.length k (List.replicate fs.length false) []).1
def jf:Tk:=⟨⟨#[]⟩,0,⟨#[]⟩,0,0⟩
def cC(fs:Fs)(k:Nat):List Tk×Tk:=if eu (pt fs k)=true then((pt fs k).dropLast,(pt fs k).getLast?.getD jf) else(pt fs k,jf)
theorem mP:aQ (List.replicate n false)=n:=by
 unfold aQ;rw[List.countP_replicate];simp
theorem lj.drop(h:lj f z7 S d):lj f z7 S d.dropLast:=by
 refine⟨by rw[SF];have:=h.1;omega,fun k t a=>h.2 k t ?_⟩;rw[List.getElem?_dropLast]at a
 split at a
 ·exact a
 ·cases a
theorem lj.keptS(h:lj f z7 S d)(k:ab ys f v)(n:∀g,z7=some ⟨g,0,none⟩->g∉ys):lj v z7 S d:=by
 refine⟨h.1,fun j t p=>?_⟩;obtain⟨g,e,a,b,c,i,l,m⟩:=h.2 j t p;have q:∀o,v.cell? ⟨g,o,none⟩=f.cell? ⟨g,o,none⟩:=fun o=>Q6 (k.block g a (n g e))
 exact⟨g,e,QX a k.size,by rw[q];exact b,by rw[q];exact c,by rw[q];exact i,by rw[q];exact l,by rw[q];exact m⟩
theorem sI{j k l m:Value}(h:f.heap[S]?=some (.cells #[j,k,l,m] 87 (0,0)))(a b c d:Value) :
  (f.setCell ⟨S,0,none⟩ a).cell? ⟨S,0,none⟩=some a/\((f.setCell ⟨S,0,none⟩ a).setCell ⟨S,1,none⟩ b).cell? ⟨S,1,none⟩=some b/\(((f.setCell ⟨S,0,none⟩ a).setCell ⟨S,1,none⟩ b).setCell ⟨S,2,none⟩ c).cell? ⟨S,2,none⟩=some c/\((((f.setCell ⟨S,0,none⟩ a).setCell ⟨S,1,none⟩ b).setCell ⟨S,2,none⟩ c).setCell ⟨S,3,none⟩ d).cell? ⟨S,3,none⟩=some d:=by
 have e:=ah h 0 a;have g:=ah e 1 b;have i:=ah g 2 c;have n:=ah i 3 d;exact⟨by rw[aa e];rfl,by rw[aa g];rfl,by rw[aa i];rfl,by rw[aa n];rfl⟩
theorem Ij(ap:T.length<=4)(an:∀n,(ak T n).size<=1024)(hk:n<T.length)(hO:mV b (some ⟨x,0,none⟩) k T)(hg:x<b.heap.size) :
  Calls prog 54 #[.slice (some ⟨x,0,none⟩) T.length k,.int .i64 n] b fun e w'=>∃ao c,e=.returned (.tuple #[.slice ao (cC T n).1.length c,.agg #[.int .i64 (cC T n).2.rule,.string (cC T n).2.file,.int .i64 (cC T n).2.line,.int .i64 (cC T n).2.col]])/\lj w' ao c (cC T n).1/\ab [] b w'/\∀g,ao=some ⟨g,0,none⟩->b.heap.size<=g/\g<w'.heap.size:=by
 obtain⟨i1,ar,az,aS,aT⟩:=Re Ls;have m2:=fun b=>dB (P:=prog) b 134 4 i1 _ underlying134 ar az T.length 1 aS (by rw[aT];omega) (by omega)
 obtain⟨mc,O⟩:∃mc,Hid (madeCells (Value.bool false).cells (T.length*1)=mc):=⟨_,rfl⟩
 have af:Hid (mc=((List.replicate T.length false).map Value.bool).toArray):=by show _=_;rw[<-O.out,wE]
 rw[O.out]at m2;have a1:=hO.1;obtain⟨W,N⟩:∃W,Hid ((b.alloc (.cells #[.int .i64 0,.string ⟨#[]⟩,.int .i64 0,.int .i64 0] 87)).alloc (.cells mc 4)=W):=⟨_,rfl⟩
 have X:ab [] b W:=by rw[<-N.out];exact((ab.refl [] _).alloc _).alloc _
 have SW:jy W (b.heap.size+1) (List.replicate T.length false):=by
  rw[<-N.out,af.out];have:=QS (b.alloc (.cells #[.int .i64 0,.string ⟨#[]⟩,.int .i64 0,.int .i64 0] 87)) (.cells ((List.replicate T.length false).map Value.bool).toArray 4);simpa [jy] using this
 have V:W.heap[b.heap.size]?=some (.cells #[.int .i64 0,.string ⟨#[]⟩,.int .i64 0,.int .i64 0] 87 (0,0)):=by
  rw[<-N.out];exact((ab.refl [] _).alloc _).get (QS _ _) (by simp)
 have hI:rg W x k T (b.heap.size+1) (List.replicate T.length false) ⟨none,0⟩ []:=⟨QZ _ _ _ _,SW,hO.kept X (by simp),(by intro e;cases e),(by intro e;cases e),by omega,QX hg X.size⟩;have C:Hid _:=(Js T x k ap an T.length n (List.replicate T.length false) [] ⟨none,0⟩ (b.heap.size+1) T.length W (by rw[mP];omega) (by simp) (by omega) hk (by rw[Sf];simp[hk]) (by rw[mP];simp;omega) hI);have f:Hid _:=X;clear hI SW X hO;go_enter func54,ntmps54
 go_upto_region 2 with fail
 rw[N.out];obtain⟨Y,M⟩:∃Y,Hid (dQ T T.length n (List.replicate T.length false) []=Y):=⟨_,rfl⟩
 rw[M.out]at C;have y:Hid (pt T n=Y.1):=by show _=_;unfold pt;rw[M.out]
 obtain⟨L,a0⟩:=Y;have y:Hid (pt T n=L):=y.out
 go_upto_region 3 with (go_at_call 82;refine QU C.out ?_;rintro e d ⟨h,rfl,U,s7,r7,l7,n7,u7⟩)
 have n7:L.length+2000*aQ a0<=0+2000*aQ (List.replicate T.length false):=n7;rw[mP]at n7;have U:aw d h (ir L):=U;have hL:L.length<=100000:=by omega
 have D:ab [b.heap.size+1] W d:=r7.kept;have m:=D.get V (by simp)
 have A:Hid (∀g,h.ao=some ⟨g,0,none⟩->g∉[b.heap.size]):=fun g s Z=>by
  have E:h.blk=some g:=by unfold Hd.blk;rw[s];rfl
  have e3:=ae V;simp at Z
  rcases r7.blk with e | ⟨q,e,ax⟩
  ·rw[E]at e;cases e
  ·rw[E]at e;cases e;omega
 have p:Hid (∀g,h.ao=some ⟨g,0,none⟩->b.heap.size<=g/\g<d.heap.size):=fun g s=>by
  have E:h.blk=some g:=by unfold Hd.blk;rw[s];rfl
  have e3:=ae V;have e4:=U.lt E
  rcases r7.blk with e | ⟨q,e,ax⟩
  ·rw[E]at e;cases e
  ·rw[E]at e;cases e;omega
 have B:Hid (ab [] b d):=⟨D.os.trans f.out.os,D.tape.trans f.out.tape,D.output.trans f.out.output,Q3 f.out.size D.size,fun q Z _=>by rw[D.block q (QX Z f.out.size) (by simp;omega),f.out.block q Z (by simp)]⟩;obtain⟨bk,o⟩:∃bk,Hid (eu L=bk):=⟨_,rfl⟩
 have j:Hid _:=uC L h.ao h.cap d hL U.src;rw[o.out]at j;have f0:=am m 0;have f1:=am m 1;have f2:=am m 2;have f3:=am m 3;have g0:d.cell? ⟨b.heap.size,0,none⟩=some (.int .i64 0):=by rw[aa m];rfl
 have g1:d.cell? ⟨b.heap.size,1,none⟩=some (.string ⟨#[]⟩):=by rw[aa m];rfl
 have g2:d.cell? ⟨b.heap.size,2,none⟩=some (.int .i64 0):=by rw[aa m];rfl
 have g3:d.cell? ⟨b.heap.size,3,none⟩=some (.int .i64 0):=by rw[aa m];rfl
 have y7:=ae m;have l:Hid _:=U.src;clear C V N m2 r7 s7 l7 u7 f D
 cases bk
 ·have K:Hid (cC T n=(L,jf)):=by show _=_;unfold cC;rw[y.out,o.out,QT (by simp)]
  go_wp2_with (go_at_call 83;refine QU j.out ?_;rintro e w9 ⟨rfl,u⟩;rw[u];clear u);obtain⟨x0,x1,x2,x3⟩:=sI m (.int .i64 0) (.string ⟨#[]⟩) (.int .i64 0) (.int .i64 0);have Q:ab [b.heap.size] d ((((d.setCell ⟨b.heap.size,0,none⟩ (.int .i64 0)).setCell ⟨b.heap.size,1,none⟩ (.string ⟨#[]⟩)).setCell ⟨b.heap.size,2,none⟩ (.int .i64 0)).setCell ⟨b.heap.size,3,none⟩ (.int .i64 0)):=((((ab.refl _ _).setCell (Q1 (by simp)) _).setCell (Q1 (by simp)) _).setCell (Q1 (by simp)) _).setCell (Q1 (by simp)) _;exact QY (v:=.tuple #[.slice h.ao L.length h.cap,.agg #[.int .i64 0,.string ⟨#[]⟩,.int .i64 0,.int .i64 0]]) (by simp[results,results54,go_sem,x0,x1,x2,x3]) rfl ⟨h.ao,h.cap,by rw[K.out];rfl,by rw[K.out];exact lj.keptS l.out Q A.out,(((B.out.setCell (QV (by simp)) _).setCell (QV (by simp)) _).setCell (QV (by simp)) _).setCell (QV (by simp)) _,fun g s=>⟨(p.out g s).1,QX (p.out g s).2 Q.size⟩⟩
 ·have hn:0<L.length:=by
   cases al:L with
   | nil=>rw[al]at o;cases o.out
   | cons _ _=>simp
  obtain⟨a,r⟩:∃a,Hid (L.length=a):=⟨_,rfl⟩
  have R:a-1<L.length:=by rw[<-r.out];omega
  rw[r.out]at hn hL j ⊢;obtain⟨gs,s,a3,c0,c1,c2,c3,c4⟩:=l.out.2 (a-1) L[a-1] (QP R)
  have K:Hid (cC T n=(L.dropLast,L[a-1])):=by
   show _=_
   unfold cC;rw[y.out,o.out,QW rfl,SO,r.out,QP R];rfl
  have ac:Hid (L.dropLast.length=a-1):=by show _=_;rw[SF,r.out]
  have a2:a<=h.cap:=by have:=l.out.1;rw[r.out]at this;exact this
  generalize L[a-1]=t at *;obtain⟨ts,I,G,H,F⟩:=t;simp only at c0 c1 c2 c3 c4;have a5:IntKind.i64.wrap ((a:Int)-1)=(a:Int)-1:=by rw[R9];omega
  have a4:((a:Int)-1).toNat=a-1:=by omega
  have b1:(0:Int)<=(a:Int)-1:=by omega
  have b2:(a:Int)-1<(a:Int):=by omega
  have b3:(1:Int)<=(a:Int):=by omega
  have b4:(a:Int)-1<=(h.cap:Int):=by omega
  have b5:(0:Int)<(a:Int):=by omega
  rw[s]at j l A p ⊢;obtain⟨i,z⟩:∃i,Hid (d.alloc (.cells #[.string ts,.int .i64 I,.string G,.int .i64 H,.int .i64 F] 138)=i):=⟨_,rfl⟩
  go_upto_region 7 with (go_at_call 83;refine QU j.out ?_;rintro e w9 ⟨rfl,u⟩;rw[u];clear u)
  rw[z.out];have S:ab [] d i:=by rw[<-z.out];exact(ab.refl [] _).alloc _
  have J:i.heap[d.heap.size]?=some (.cells #[.string ts,.int .i64 I,.string G,.int .i64 H,.int .i64 F] 138 (0,0)):=by rw[<-z.out];exact QS _ _
  have w:=S.get m (by simp);have ag:Hid _:=lj.drop (lj.Vb l.out S);have ad:Hid _:=B.out.trans S;have ai:Hid _:=S.size;clear c0 c1 c2 c3 c4 f0 f1 f2 f3 g0 g1 g2 g3 j z m S B l;have p1:i.cell? ⟨d.heap.size,1,none⟩=some (.int .i64 I):=by rw[aa J];rfl
  have p2:i.cell? ⟨d.heap.size,2,none⟩=some (.string G):=by rw[aa J];rfl
  have p3:i.cell? ⟨d.heap.size,3,none⟩=some (.int .i64 H):=by rw[aa J];rfl
  have p4:i.cell? ⟨d.heap.size,4,none⟩=some (.int .i64 F):=by rw[aa J];rfl
  have f0:=am w 0;have f1:=am w 1;have f2:=am w 2;have f3:=am w 3;have g0:i.cell? ⟨b.heap.size,0,none⟩=some (.int .i64 0):=by rw[aa w];rfl
  have g1:i.cell? ⟨b.heap.size,1,none⟩=some (.string ⟨#[]⟩):=by rw[aa w];rfl
  have g2:i.cell? ⟨b.heap.size,2,none⟩=some (.int .i64 0):=by rw[aa w];rfl
  have g3:i.cell? ⟨b.heap.size,3,none⟩=some (.int .i64 0):=by rw[aa w];rfl
  have y8:=ae J;have y9:=ae w
  go_region
  go_wp2;obtain⟨x0,x1,x2,x3⟩:=sI w (.int .i64 I) (.string G) (.int .i64 H) (.int .i64 F);have Q:ab [b.heap.size] i ((((i.setCell ⟨b.heap.size,0,none⟩ (.int .i64 I)).setCell ⟨b.heap.size,1,none⟩ (.string G)).setCell ⟨b.heap.size,2,none⟩ (.int .i64 H)).setCell ⟨b.heap.size,3,none⟩ (.int .i64 F)).drew:=(((((ab.refl _ _).setCell (Q1 (by simp)) _).setCell (Q1 (by simp)) _).setCell (Q1 (by simp)) _).setCell (Q1 (by simp)) _).drew;exact QY (v:=.tuple #[.slice (some ⟨gs,0,none⟩) (a-1) h.cap,.agg #[.int .i64 I,.string G,.int .i64 H,.int .i64 F]]) (by simp[results,results54,go_sem,x0,x1,x2,x3]) rfl ⟨some ⟨gs,0,none⟩,h.cap,by rw[K.out,ac.out],by rw[K.out];exact lj.keptS ag.out Q A.out,((((ad.out.setCell (QV (by simp)) _).setCell (QV (by simp)) _).setCell (QV (by simp)) _).setCell (QV (by simp)) _).drew,fun g s=>⟨(p.out g s).1,QX (p.out g s).2 (Q3 ai.out Q.size)⟩⟩
structure Sm where
 a:Nat
 z:Nat
 h:Nat
 k:ByteArray
def A6(w:World)(ao:Option Addr)(cap:Nat)(S:List Sm):Prop:=S.length<=cap/\∀k s,S[k]?=some s->∃g,ao=some ⟨g,0,none⟩/\g<w.heap.size /\
  w.cell? ⟨g,k*4,none⟩=some (.int .i64 s.a)/\w.cell? ⟨g,k*4+1,none⟩=some (.int .i64 s.z)/\w.cell? ⟨g,k*4+2,none⟩=some (.int .i64 s.h)/\w.cell? ⟨g,k*4+3,none⟩=some (.string s.k)
theorem A6.Vb{a:List Sm}(h:A6 f z7 S a)(k:ab [] f v):A6 v z7 S a:=by
 refine⟨h.1,fun j t m=>?_⟩;obtain⟨g,e,b,c,d,i,l⟩:=h.2 j t m;have q:∀o,v.cell? ⟨g,o,none⟩=f.cell? ⟨g,o,none⟩:=fun o=>Q6 (k.block g b (by simp))
 exact⟨g,e,QX b k.size,by rw[q];exact c,by rw[q];exact d,by rw[q];exact i,by rw[q];exact l⟩
structure fz(w:World)(b:Nat)(T:List Tk)(aoT:Option Addr)(cT:Nat)(S:List Sm)(aoS:Option Addr)(cS:Nat):Prop where
 d:w.heap[b]?=some (.cells #[.slice aoT T.length cT,.slice aoS S.length cS] 141 (0,0))
 t:lj w aoT cT T
 s:A6 w aoS cS S
theorem fz.Vb{a:List Sm}(h:fz f S d z7 y2 a x6 yg)(k:ab [] f v):fz v S d z7 y2 a x6 yg :=
 ⟨k.get h.d (by simp),h.t.Vb k,h.s.Vb k⟩
theorem fz.cells{a:List Sm}(h:fz f S d z7 y2 a x6 yg):f.cell? ⟨S,0,none⟩=some (.slice z7 d.length y2)/\f.cell? ⟨S,1,none⟩=some (.slice x6 a.length yg)/\S<f.heap.size :=
 ⟨by rw[aa h.d];rfl,by rw[aa h.d];rfl,ae h.d⟩
def aC(k:ByteArray):Bool:=(k.toList == [36,97])||(k.toList == [36,112])
def aG(k:ByteArray):Bool:=(k.toList == [36,102])||(k.toList == [36,101])
set_option maxRecDepth 512
theorem fT :
  Calls prog 122 #[.string w] b fun e a=>e=.returned (.bool (aC w))/\a=b:=by
 go_enter func122,ntmps122;go_wp2
 all_goals go_ret
 all_goals (refine⟨?_,rfl⟩;simp[aC, *])
theorem lJ :
  Calls prog 123 #[.string w] b fun e a=>e=.returned (.bool (aG w))/\a=b:=by
 go_enter func123,ntmps123;go_wp2
 all_goals go_ret
 all_goals (refine⟨?_,rfl⟩;simp[aG, *])
def ge(w:World)(ao:Option Addr)(L:List ByteArray):Prop:=∀k x,L[k]?=some x->∃g,ao=some ⟨g,0,none⟩/\g<w.heap.size/\w.cell? ⟨g,k,none⟩=some (.string x)
theorem aw.srcX(o:aw f a (aB yu)):ge f a.ao yu:=by
 intro k x d
 rcases o.Vm with ⟨_,c,_⟩ | ⟨g,e,b,h,i,-⟩
 ·have c:yu.length=0:=c
  have:=(Q8.1 d).1;omega
 ·exact⟨g,b,ae h,o.cell b k (.string x) (by simp[aB,cN,d])⟩
theorem Nv(a:n<o.length)(h:(o[n].toList==w.toList)=true):aJ o w=true:=by
 unfold aJ;exact RC.2 ⟨o[n],Rb a,h⟩
theorem Nw(h:∀k (a:k<o.length),(o[k].toList==w.toList)=false):aJ o w=false:=by
 unfold aJ;rw[TH];intro y b;obtain⟨k,a,e⟩:=R0 b;have:=h k a;rw[e]at this;rw[this];simp
theorem j9(l:ge b yf o)(z:o.length<=1000000000) :
  Calls prog 93 #[.slice yf o.length y,.string w] b fun e t=>e=.returned (.bool (aJ o w))/\t=b:=by
 have n:Hid _:=l;clear l;go_enter func93,ntmps93;go_wp2
 go_loopg [5] o.length (fun g i wr=>∃k:Nat,k<=o.length/\g=o.length-k/\i=.int .i64 k/\Hid (∀j (a:j<o.length),j<k->(o[j].toList==w.toList)=false)/\wr=b)
 case atStart=>exact⟨0,by omega,by omega,rfl,(fun j _ h=>by omega),rfl⟩
 case round =>
  obtain⟨k,B,A,rfl,f,rfl⟩:=hrel
  by_cases d:k<o.length
  ·obtain⟨v,rfl,r,C⟩:=n.out k o[k] (QP d)
   have s:(k:Int)<(o.length:Int):=by omega
   have q:Hid ((o[k].toList==w.toList)=true->aJ o w=true):=Nv o w k d
   have p:Hid ((o[k].toList==w.toList)=false->∀j (a:j<o.length),j<k+1->(o[j].toList==w.toList)=false):=fun h j a x=>by
    by_cases e:j=k
    ·subst e;exact h
    ·exact f.out j a (by omega)
   generalize o[k]=u at *
   cases m:(u.toList==w.toList)
   ·have c:Hid (∀j (a:j<o.length),j<k+1->(o[j].toList==w.toList)=false):=p.out m
    go_wp2
    go_roundg (o.length-(k+1))
    case measure=>omega
    case rel=>exact⟨k+1,by omega,rfl,by go_num,c,rfl⟩
   ·have c:Hid (aJ o w=true):=q.out m
    go_wp2;go_ret;exact⟨aD c.out.symm,rfl⟩
  ·have c:Hid (aJ o w=false):=Nw o w (fun j a=>f.out j a (by omega))
   go_wp2;go_ret;exact⟨aD c.out.symm,rfl⟩
def tS(T:List Tk)(i:Nat):ByteArray:=(T.getD i jf).s
theorem iw(h:n<l.length):l[n]?=some (l.getD n jf):=by
 rw[QQ,QP h];rfl
def ew(T:List Tk)(b:Nat):ByteArray×Nat:=if(ii (tS T b) ⟨#[36]⟩||decide (T.length<=b+1))=true then(tS T b,b+1) else(tS T (b+1),b+2)
set_option maxRecDepth 100000
theorem Gq(S:List Sm)(j:Option Addr)(B:Nat)(w:World)(o:fz w y l D n S j B)(I:x<l.length)(G:l.length<=100000)(J:∀i,(tS l i).size<=1073741824) :
  Calls prog 85 #[.pointer (some ⟨y,0,none⟩),.int .i64 x] w fun e K=>e=.returned (.tuple #[.string (ew l x).1,.int .i64 ((ew l x).2:Nat)])/\K=w:=by
 obtain⟨A,-,N⟩:=o.cells;obtain⟨u,rfl,H,s,-⟩:=o.t.2 x _ (iw l x I);replace s:w.cell? ⟨u,x*5,none⟩=some (.string (tS l x)):=s;have q:(x:Int)<(l.length:Int):=by omega
 have r:=J x;have f:((x+1:Nat):Int)=(x:Int)+1:=by omega
 have p:((x+2:Nat):Int)=(x:Int)+2:=by omega
 obtain⟨b,h⟩:∃b,Hid (tS l x=b):=⟨_,rfl⟩
 rw[h.out]at s r;obtain⟨c,g⟩:∃c,Hid (l.length=c):=⟨_,rfl⟩
 rw[g.out]at A q G
 cases k:ii b ⟨#[36]⟩
 ·by_cases M:c<=x+1
  ·have d:Hid (ew l x=(b,x+1)):=by show _=_;unfold ew;rw[h.out,k,g.out,QW (by simp;omega)]
   have m:(c:Int)<=(x:Int)+1:=by omega
   go_enter func85,ntmps85;go_wp2_with (go_at_call 120;refine(fF b _ _ (by omega) (by show 1<=_;omega)).mono ?_;rintro e z ⟨rfl,a⟩;rw[a];clear a);go_ret2;exact⟨by rw[d.out];show _=Ending.returned (.tuple #[.string b,.int .i64 ((x+1:Nat):Int)]);rw[f];rfl,rfl⟩
  ·have d:Hid (ew l x=(tS l (x+1),x+2)):=by show _=_;unfold ew;rw[h.out,k,g.out,QT (by simp;omega)]
   have m:¬(c:Int)<=(x:Int)+1:=by omega
   have F:(x:Int)+1<(c:Int):=by omega
   obtain⟨E,C,-,v,-⟩:=o.t.2 (x+1) _ (iw l (x+1) (by rw[g.out];omega))
   cases C
   replace v:w.cell? ⟨u,(x+1)*5,none⟩=some (.string (tS l (x+1))):=v;generalize tS l (x+1)=L at *;go_enter func85,ntmps85;go_wp2_with (go_at_call 120;refine(fF b _ _ (by omega) (by show 1<=_;omega)).mono ?_;rintro e z ⟨rfl,a⟩;rw[a];clear a);go_ret2;exact⟨by rw[d.out];show _=Ending.returned (.tuple #[.string L,.int .i64 ((x+2:Nat):Int)]);rw[p];rfl,rfl⟩
 ·have d:Hid (ew l x=(b,x+1)):=by show _=_;unfold ew;rw[h.out,k,QW (by simp)]
  go_enter func85,ntmps85;go_wp2_with (go_at_call 120;refine(fF b _ _ (by omega) (by show 1<=_;omega)).mono ?_;rintro e z ⟨rfl,a⟩;rw[a];clear a);go_ret2;exact⟨by rw[d.out];show _=Ending.returned (.tuple #[.string b,.int .i64 ((x+1:Nat):Int)]);rw[f];rfl,rfl⟩
def qE:Int->List Sm->Bool
 | _,[]=>true
 | o,s :: r=>if aO o s.k<0 then false else qE (aO o s.k) r
def aV(S:List Sm)(j n:Nat):Bool:=qE 0 ((S.drop j).take (n-j))
def bb(S:List Sm)(n:Nat):Int:=(S.take n).foldl (fun o s=>aO o s.k) 0
theorem uG(S:List Sm)(k:Nat)(h:k<S.length):bb S (k+1)=aO (bb S k) S[k].k:=by
 unfold bb;rw[RG h,Sw];rfl
theorem Di(c:(i.toList == [36,123])=true)(a:(i.toList == [36,125])=true):False:=by
 have b:i.toList=[36,123]:=by simpa using c
 rw[b]at a;exact absurd a (by decide)
theorem DT(S:List Sm)(h:Option Addr)(v:Nat)(w:World)(j:fz w y l D n S h v)(M:x<=S.length)(H:S.length<=100000) :
  Calls prog 168 #[.pointer (some ⟨y,0,none⟩),.int .i64 x] w fun e E=>e=.returned (.int .i64 (bb S x))/\E=w:=by
 obtain⟨-,F,I⟩:=j.cells;have u:Hid _:=j.s.2;clear j;go_enter func168,ntmps168;go_wp2
 go_loopg [5,6] x (fun g o i wr=>∃(k:Nat) (m:Int),k<=x/\g=x-k/\o=.int .i64 m/\i=.int .i64 k/\(-(k:Int)<=m/\m<=(k:Int))/\Hid (m=bb S k)/\wr=w)
 case atStart=>exact⟨0,0,by omega,rfl,rfl,rfl,by omega,rfl,rfl⟩
 case round =>
  obtain⟨k,m,K,J,rfl,rfl,L,q,rfl⟩:=hrel
  by_cases B:k<x
  ·have d:k<S.length:=by omega
   obtain⟨G,rfl,z,-,-,-,C⟩:=u.out k S[k] (QP d);have b:Hid _:=uG S k d;have A:(k:Int)<(x:Int):=by omega
   have r:(k:Int)<(S.length:Int):=by omega
   rw[<-q.out]at b;generalize S[k]=t at *;obtain⟨N,P,O,p⟩:=t;simp only at C b
   cases f:(p.toList == [36,123])
   ·cases c:(p.toList == [36,125])
    ·have a:Hid (m=bb S (k+1)):=by show _=_;rw[b.out,aO,f,c];simp
     go_wp2
     go_roundg (x-(k+1))
     case measure=>omega
     case rel=>exact⟨k+1,m,by omega,rfl,rfl,by go_num,by omega,a,rfl⟩
    ·have a:Hid (m-1=bb S (k+1)):=by show _=_;rw[b.out,aO,f,c];simp
     go_wp2
     go_roundg (x-(k+1))
     case measure=>omega
     case rel=>exact⟨k+1,m-1,by omega,rfl,by go_num,by go_num,by omega,a,rfl⟩
   ·cases c:(p.toList == [36,125])
    ·have a:Hid (m+1=bb S (k+1)):=by show _=_;rw[b.out,aO,f,c];simp
     go_wp2
     go_roundg (x-(k+1))
     case measure=>omega
     case rel=>exact⟨k+1,m+1,by omega,rfl,by go_num,by go_num,by omega,a,rfl⟩
    ·exact(Di f c).elim
  ·have e:k=x:=by omega
   subst e;go_wp2;go_ret;exact⟨QN q.out,rfl⟩
theorem Kw(S:List Sm)(k n:Nat)(h:k<n)(a:n<=S.length):(S.drop k).take (n-k)=S[k]'(by omega) :: (S.drop (k+1)).take (n-(k+1)):=by
 rw[Rf (by omega),show n-k=(n-(k+1))+1 by omega,List.take_succ_cons]
theorem lk(S:List Sm)(j:Option Addr)(C:Nat)(w:World)(p:fz w z6 l D n S j C)(P:y<=x)(H:x<=S.length)(M:S.length<=100000) :
  Calls prog 92 #[.pointer (some ⟨z6,0,none⟩),.int .i64 y,.int .i64 x] w fun e J=>e=.returned (.bool (aV S y x))/\J=w:=by
 obtain⟨-,K,N⟩:=p.cells;have B:Hid _:=p.s.2;clear p;go_enter func92,ntmps92;go_wp2
 go_loopg [7,8] (x-y) (fun g o i wr=>∃(k:Nat) (m:Int),(y<=k/\k<=x)/\g=x-k/\o=.int .i64 m/\i=.int .i64 k/\(0<=m/\m<=(k:Int))/\Hid (aV S y x=qE m ((S.drop k).take (x-k)))/\wr=w)
 case atStart=>exact⟨y,0,⟨by omega,by omega⟩,rfl,rfl,rfl,by omega,rfl,rfl⟩
 case round =>
  obtain⟨k,m,⟨F,Q⟩,O,rfl,rfl,R,b,rfl⟩:=hrel
  by_cases r:k<x
  ·have q:k<S.length:=by omega
   obtain⟨L,rfl,E,-,-,-,I⟩:=B.out k S[k] (QP q);have A:Hid _:=Kw S k x r H;rw[A.out,qE]at b;have G:(k:Int)<(x:Int):=by omega
   have v:(k:Int)<(S.length:Int):=by omega
   generalize S[k]=t at *;obtain⟨T,V,U,c⟩:=t;simp only at I b
   cases h:(c.toList == [36,123])
   ·cases d:(c.toList == [36,125])
    ·have a:Hid (aV S y x=qE m ((S.drop (k+1)).take (x-(k+1)))):=by
      have f:aO m c=m:=by unfold aO;rw[h,d];simp
      have:=b.out;rw[f,QT (by omega)]at this;exact this
     have u:¬m<0:=by omega
     go_wp2
     go_roundg (x-(k+1))
     case measure=>omega
     case rel=>exact⟨k+1,m,⟨by omega,by omega⟩,rfl,rfl,by go_num,by omega,a,rfl⟩
    ·have f:aO m c=m-1:=by unfold aO;rw[h,d];simp
     rw[f]at b
     by_cases z:m-1<0
     ·have a:Hid (aV S y x=false):=by
       have:=b.out;rw[QW z]at this;exact this
      go_wp2;go_ret;exact⟨aD a.out.symm,rfl⟩
     ·have a:Hid (aV S y x=qE (m-1) ((S.drop (k+1)).take (x-(k+1)))):=by
       have:=b.out;rw[QT z]at this;exact this
      go_wp2
      go_roundg (x-(k+1))
      case measure=>omega
      case rel=>exact⟨k+1,m-1,⟨by omega,by omega⟩,rfl,by go_num,by go_num,by omega,a,rfl⟩
   ·cases d:(c.toList == [36,125])
    ·have a:Hid (aV S y x=qE (m+1) ((S.drop (k+1)).take (x-(k+1)))):=by
      have f:aO m c=m+1:=by unfold aO;rw[h,d];simp
      have:=b.out;rw[f,QT (by omega)]at this;exact this
     have u:¬m+1<0:=by omega
     go_wp2
     go_roundg (x-(k+1))
     case measure=>omega
     case rel=>exact⟨k+1,m+1,⟨by omega,by omega⟩,rfl,by go_num,by go_num,by omega,a,rfl⟩
    ·exact(Di h d).elim
  ·have e:k=x:=by omega
   subst e;have a:Hid (aV S y k=true):=by show _=_;rw[b.out,RY,Tq,qE]
   go_wp2;go_ret;exact⟨aD a.out.symm,rfl⟩
def mM(s:ByteArray):Bool:=(s.toList == [36,61])||(s.toList == [36,46])
def ke:List Tk->List ByteArray
 | []=>[]
 | t :: r=>if mM t.s=true then [] else t.s :: ke r
def bu(T:List Tk)(h:Nat):List ByteArray:=ke (T.drop h)
def cU(T:List Tk)(h:Nat):Prop:=∃e,h<=e/\e<T.length/\mM (tS T e)=true
theorem Ge(h:n<l.length):l.drop n=l.getD n jf :: l.drop (n+1):=by
 rw[Rf h,QQ,QP h];rfl
theorem Hh(L:List Tk):(ke L).length<=L.length:=by
 induction L with
 | nil=>exact QR _
 | cons t r a=>rw[ke];split <;> simp <;> omega
theorem kg:(bu l n).length<=l.length:=by
 have:=Hh (l.drop n);rw[RT]at this;unfold bu;omega
structure vj(w wr:World)(h:Hd)(O:List ByteArray):Prop where
 own:aw wr h (aB O)
 far:∀k,h.blk=some k->w.heap.size<=k
 kept:ab [] w wr
theorem vj.nil:vj b b ⟨none,0⟩ []:=⟨QZ _ _ _ _,(by intro k a;cases a),ab.refl _ _⟩
theorem vj.Vb(b:vj f v a yu)(k:ab [] v zb):vj f zb a yu:=⟨b.own.Vb k,b.far,b.kept.trans k⟩
theorem vj.Vl{i:List ByteArray}(b:vj f v a yu)(c:bt v zb a g)(o:aw zb g (aB i)):vj f zb g i:=by
 refine⟨o,fun k d=>?_,⟨c.kept.os.trans b.kept.os,c.kept.tape.trans b.kept.tape,c.kept.output.trans b.kept.output,Q3 b.kept.size c.kept.size,fun k d _=>?_⟩⟩
 ·rcases c.blk with e | ⟨q,e,h⟩
  ·exact b.far k (by rw[<-e];exact d)
  ·rw[e]at d;cases d
   exact Q3 b.kept.size h
 ·rw[c.kept.block k (QX d b.kept.size) (fun h=>by have:=b.far _ (aN h);omega),b.kept.block k d (by simp)]
theorem pq(v:L.guard=none)(s x:Operand)(k:L.op=Op.call { callee:=Callee.builtin Builtin.append,args:=#[s,x],argTypes:=#[61,61] })(h:Hd)(a:List ByteArray)(t:ByteArray)(A:I.eval s=.slice h.ao a.length h.cap)(e:aw b h (aB a))(F:a.length<=1000000)(C:I.eval x=.slice (some ⟨b.heap.size,0,none⟩) 1 1)(r:∀g o,aw o g (aB (a++[t]))->bt b o h g->wpList prog ya yd yr (I.put L.dst (.slice g.ao (a.length+1) g.cap)) o) :
  wpList prog ya yd (L :: yr) I (b.alloc (.cells #[.string t] 9)):=by
 obtain⟨D,w,l,m,n⟩:=Re js;have p:ab [] b (b.alloc (.cells #[.string t] 9)):=(ab.refl [] _).alloc _;have z:(b.alloc (.cells #[.string t] 9)).heap[b.heap.size]?=some (.cells #[.string t] 9 (0,0)):=QS _ _;refine aM _ v s x 61 k D (.string ⟨#[]⟩) 16 h (aB a) underlying61 w l m n rfl Rc A (e.Vb p) ⟨b.heap.size,0,none⟩ 1 1 [.string t] C rfl ?_ ?_ Rc (by simp only[aB];unfold maxLen;omega) (by simp only[aB];omega) ?_
 ·intro j u y
  rw[bL,aa z];simpa using y
 ·intro u B
  rw[Q9.1 B];rfl
 ·intro q c E f d i
  rw[dr]at f;exact r ⟨some ⟨q,0,none⟩,c⟩ E f ((bt.Vb p).trans (bt.made d i))
theorem kD(S:List Sm)(A:Option Addr)(N:Nat)(w:World)(q:fz w y l D n S A N)(hj:x<S.length)(hT:l.length<=100000)(W:cU l S[x].h) :
  Calls prog 72 #[.pointer (some ⟨y,0,none⟩),.int .i64 x] w fun e w'=>∃a,e=.returned (.slice a.ao (bu l S[x].h).length a.cap)/\vj w w' a (bu l S[x].h):=by
 obtain⟨gS,rfl,Y,-,-,q2,-⟩:=q.s.2 x S[x] (QP hj);generalize S[x].h=b at *;obtain⟨e,e1,P,Q⟩:=W;obtain⟨T,rfl,Z,-⟩:=q.t.2 e _ (iw l e P);have I:Hid _:=q;obtain⟨G,M,hb⟩:=q.cells;have ad:(x:Int)<(S.length:Int):=by omega
 have K:Hid _:=vj.nil w;clear q;go_enter func72,ntmps72;go_wp2;clear G M q2
 go_loopg [5,6] (l.length-b) (fun g o i wr=>∃(k:Nat) (a:Hd) (O:List ByteArray),(b<=k/\k<=e)/\g=l.length-k/\o=.slice a.ao O.length a.cap/\i=.int .i64 k/\O.length<=k/\Hid (O++ke (l.drop k)=bu l b)/\Hid (vj w wr a O))
 case atStart=>exact⟨b,⟨none,0⟩,[],⟨by omega,by omega⟩,rfl,rfl,rfl,Ro _,rfl,K⟩
 case round =>
  obtain⟨k,a,O,⟨af,ag⟩,hg,rfl,rfl,hO,c,p⟩:=hrel;have u:k<l.length:=by omega
  have j:Hid _:=fz.Vb I.out p.out.kept;obtain⟨G,-,X⟩:=j.out.cells;obtain⟨U,R,ac,F,-⟩:=j.out.t.2 k _ (iw l k u)
  cases R
  replace F:wr.cell? ⟨T,k*5,none⟩=some (.string (tS l k)):=F;have al:(k:Int)<(l.length:Int):=by omega
  have J:Hid _:=Ge l k u;rw[J.out,ke]at c;have c:Hid (O++(if mM (tS l k)=true then [] else tS l k :: ke (l.drop (k+1)))=bu l b):=c.out;have m:Hid (k=e->mM (tS l k)=true):=fun h=>by rw[h];exact Q
  obtain⟨f,L⟩:∃f,Hid (tS l k=f):=⟨_,rfl⟩
  rw[L.out]at F c m;have E:=p.out.own;obtain⟨H,Hn⟩:∃H,Hid (l.length=H):=⟨_,rfl⟩
  cases B:(f.toList == [36,61])
  ·cases C:(f.toList == [36,46])
   ·have ai:k<e:=by
     have:¬k=e:=fun h=>by have:=m.out h;unfold mM at this;rw[B,C]at this;cases this
     omega
    have d:Hid ((O++[f])++ke (l.drop (k+1))=bu l b):=by
     have:=c.out;rw[QT (by unfold mM;rw[B,C];simp)]at this
     show _=_
     rw[<-this];simp
    go_wp2_with (at_builtin;refine pq _ rfl (.tmp 37) (.tmp 46) rfl a O f rfl E (by omega) rfl ?_;intro V w5 v r;have z:Hid _:=p.out.Vl r v;clear v r)
    go_roundg (l.length-(k+1))
    case measure=>omega
    case rel=>exact⟨k+1,V,O++[f],⟨by omega,by omega⟩,rfl,by simp,by go_num,by simp;omega,d,z⟩
   ·have d:Hid (bu l b=O):=by
     have:=c.out;rw[QW (by unfold mM;rw[C];simp)]at this
     show _=_
     rw[<-this];simp
    go_wp2;go_ret;exact⟨a,by rw[d.out];rfl,by rw[d.out];exact p.out⟩
  ·have d:Hid (bu l b=O):=by
    have:=c.out;rw[QW (by unfold mM;rw[B];simp)]at this
    show _=_
    rw[<-this];simp
   go_wp2;go_ret;exact⟨a,by rw[d.out];rfl,by rw[d.out];exact p.out⟩
def bG(T:List Tk)(s:Sm):ByteArray:=if(aC s.k||aG s.k)=true then tS T s.a else⟨#[]⟩
theorem nQ(S:List Sm)(m:Option Addr)(z:Nat)(w:World)(h:fz w y l D n S m z)(F:x<S.length)(r:S[x].a<l.length) :
  Calls prog 87 #[.pointer (some ⟨y,0,none⟩),.int .i64 x] w fun e J=>e=.returned (.string (bG l S[x]))/\ab [] w J:=by
 obtain⟨M,rfl,C,H,-,-,I⟩:=h.s.2 x S[x] (QP F);obtain⟨A,rfl,E,i,-⟩:=h.t.2 S[x].a _ (iw l _ r);have f:Hid (bG l S[x]=if(aC S[x].k||aG S[x].k)=true then tS l S[x].a else⟨#[]⟩):=rfl;replace i:w.cell? ⟨A,S[x].a*5,none⟩=some (.string (tS l S[x].a)):=i;generalize bG l S[x]=R at *;generalize S[x]=s at *;obtain⟨p,P,O,c⟩:=s;simp only at H I i f r;obtain⟨j,v⟩:∃j,Hid (tS l p=j):=⟨_,rfl⟩
 rw[v.out]at i f;obtain⟨K,L,N⟩:=h.cells;have G:(x:Int)<(S.length:Int):=by omega
 have B:(p:Int)<(l.length:Int):=by omega
 have u:(0:Int)<=(p:Int):=by omega
 clear h
 cases o:aC c
 ·cases q:aG c
  ·have d:Hid (R=⟨#[]⟩):=by show _=_;rw[f.out,o,q];rfl
   go_enter func87,ntmps87;go_wp2_with (first | (go_at_call 122;refine(fT c _).mono ?_;rintro e g ⟨rfl,b⟩;rw[b];clear b) | (go_at_call 123;refine(lJ c _).mono ?_;rintro e g ⟨rfl,b⟩;rw[b];clear b));go_ret;exact⟨by rw[d.out];rfl,ab.refl _ _⟩
  ·have d:Hid (R=j):=by show _=_;rw[f.out,o,q];rfl
   go_enter func87,ntmps87
   go_upto_region 4 with (first | (go_at_call 122;refine(fT c _).mono ?_;rintro e g ⟨rfl,b⟩;rw[b];clear b) | (go_at_call 123;refine(lJ c _).mono ?_;rintro e g ⟨rfl,b⟩;rw[b];clear b))
   go_region
   all_goals
    go_wp2;go_ret;exact⟨by rw[d.out];rfl,(ab.refl [] w).drew⟩
 ·have d:Hid (R=j):=by show _=_;rw[f.out,o];rfl
  go_enter func87,ntmps87
  go_upto_region 4 with (first | (go_at_call 122;refine(fT c _).mono ?_;rintro e g ⟨rfl,b⟩;rw[b];clear b) | (go_at_call 123;refine(lJ c _).mono ?_;rintro e g ⟨rfl,b⟩;rw[b];clear b))
  go_region
  all_goals
   go_wp2;go_ret;exact⟨by rw[d.out];rfl,(ab.refl [] w).drew⟩
def QM:Sm:=⟨0,0,0,⟨#[]⟩⟩
def au(S:List Sm)(j:Nat):Sm:=S.getD j QM
theorem bM(S:List Sm)(j:Nat)(h:j<S.length):S[j]'h=au S j:=by
 unfold au;rw[QQ,QP h];rfl
def pG(T:List Tk)(S:List Sm)(key x:ByteArray)(n:Nat)(act:Bool)(j:Nat):Bool:=((au S j).k.toList==key.toList)&&(aJ (bu T (au S j).h) x&&(aV S j n || !act))
def jq(T:List Tk)(S:List Sm)(key x:ByteArray)(n:Nat)(act:Bool):Bool:=(List.range n).any (pG T S key x n act)
theorem dU{p:Nat->Bool}(h:∀j,j<S->p j=false)(a:p S=false):∀j,j<S+1->p j=false:=fun j b=>by
 by_cases e:j=S
 ·rw[e];exact a
 ·exact h j (by omega)
theorem oq(b:Bool)(T:List Tk)(p:Option Addr)(O:Nat)(S:List Sm)(M:Option Addr)(N:Nat)(t:World)(V:fz t z6 T p O S M N)(hn:y<=S.length)(hS:S.length<=100000)(hT:T.length<=100000)(hE:∀j,j<y->((au S j).k.toList==H.toList)=true->cU T (au S j).h) :
  Calls prog 212 #[.pointer (some ⟨z6,0,none⟩),.string H,.string w,.int .i64 y,.bool b] t fun e C=>e=.returned (.bool (jq T S H w y b))/\ab [] t C:=by
 have I:Hid _:=V;clear V;go_enter func212,ntmps212;go_wp2
 go_loopg [11] y (fun g i wr=>∃k:Nat,k<=y/\g=y-k/\i=.int .i64 k/\Hid (∀j,j<k->pG T S H w y b j=false)/\Hid (ab [] t wr))
 case atStart=>exact⟨0,by omega,rfl,rfl,(fun j hj=>by omega),ab.refl _ _⟩
 case round =>
  obtain⟨k,hk,hg,rfl,D,A⟩:=hrel
  by_cases q:k<y
  ·have m:k<S.length:=by omega
   have x:Hid _:=fz.Vb I.out A.out;obtain⟨-,c1,hb⟩:=x.out.cells;obtain⟨gs,rfl,ad,-,-,-,q3⟩:=x.out.s.2 k S[k] (QP m);have af:(k:Int)<(y:Int):=by omega
   have W:(k:Int)<(S.length:Int):=by omega
   have o:Hid (pG T S H w y b k=((S[k].k.toList==H.toList)&&(aJ (bu T S[k].h) w&&(aV S k y || !b)))):=by show _=_;unfold pG;rw[bM S k m]
   have z:Hid ((S[k].k.toList==H.toList)=true->cU T S[k].h):=by have:=hE k q;rw[<-bM S k m]at this;exact this
   have G:Hid ((S[k].k.toList==H.toList)=true->∀l,ab [] t l->Calls prog 72 #[.pointer (some ⟨z6,0,none⟩),.int .i64 k] l fun e C=>∃P,e=.returned (.slice P.ao (bu T S[k].h).length P.cap)/\vj l C P (bu T S[k].h)):=fun h l R=>kD z6 k T p O S _ N l (fz.Vb I.out R) m hT (z.out h)
   have Y:=kg T S[k].h;have v:Hid (∀l,ab [] t l->Calls prog 92 #[.pointer (some ⟨z6,0,none⟩),.int .i64 k,.int .i64 y] l fun e C=>e=.returned (.bool (aV S k y))/\C=l):=fun l R=>lk z6 k y T p O S _ N l (fz.Vb I.out R) (by omega) hn hS
   clear z;generalize bu T S[k].h=B at *;generalize S[k].k=sk at *;obtain⟨L,J⟩:∃L,Hid (aV S k y=L):=⟨_,rfl⟩
   rw[J.out]at o v
   cases r:(sk.toList==H.toList)
   ·have f:Hid _:=dU D.out (by rw[o.out,r];rfl)
    go_wp2
    go_roundg (y-(k+1))
    case measure=>omega
    case rel=>exact⟨k+1,by omega,rfl,by go_num,f,A⟩
   ·have F:Hid _:=G.out r
    go_upto_region 6 with (go_at_call 72;refine(F.out _ (by exact A.out)).mono ?_;rintro e X ⟨U,rfl,E⟩)
    have Z:Hid _:=E;have d:Hid _:=A.out.trans E.kept;have c:Hid _:=(j9 B U.ao U.cap w X E.own.srcX (by omega));clear E c1 q3;obtain⟨Q,K⟩:∃Q,Hid (aJ B w=Q):=⟨_,rfl⟩
    rw[K.out]at c o
    cases Q
    ·have f:Hid _:=dU D.out (by rw[o.out,r];rfl)
     go_wp2_with (go_at_call 93;refine QU c.out ?_;rintro e u ⟨rfl,a⟩;rw[a];clear a)
     go_roundg (y-(k+1))
     case measure=>omega
     case rel=>exact⟨k+1,by omega,rfl,by go_num,f,d⟩
    ·have n:Hid _:=v.out X d.out
     cases L
     ·cases b
      ·have f:Hid (jq T S H w y false=true):=mZ k q (by rw[o.out,r];rfl)
       go_wp2_with (first | (go_at_call 93;refine QU c.out ?_;rintro e u ⟨rfl,a⟩;rw[a];clear a) | (go_at_call 92;refine QU n.out ?_;rintro e u ⟨rfl,a⟩;rw[a];clear a));go_ret;exact⟨aD f.out.symm,d.out⟩
      ·have f:Hid _:=dU D.out (by rw[o.out,r];rfl)
       go_wp2_with (first | (go_at_call 93;refine QU c.out ?_;rintro e u ⟨rfl,a⟩;rw[a];clear a) | (go_at_call 92;refine QU n.out ?_;rintro e u ⟨rfl,a⟩;rw[a];clear a))
       go_roundg (y-(k+1))
       case measure=>omega
       case rel=>exact⟨k+1,by omega,rfl,by go_num,f,d⟩
     ·have f:Hid (jq T S H w y b=true):=mZ k q (by rw[o.out,r];simp)
      go_wp2_with (first | (go_at_call 93;refine QU c.out ?_;rintro e u ⟨rfl,a⟩;rw[a];clear a) | (go_at_call 92;refine QU n.out ?_;rintro e u ⟨rfl,a⟩;rw[a];clear a));go_ret;exact⟨aD f.out.symm,d.out⟩
  ·have f:Hid (jq T S H w y b=false):=vH (fun j hj=>D.out j (by omega))
   go_wp2;go_ret;exact⟨aD f.out.symm,A.out⟩
def vi(T:List Tk)(S:List Sm)(n:Nat)(key:List UInt8):Prop:=∀j,j<n->((au S j).k.toList==key)=true->cU T (au S j).h
theorem nR:(⟨#[36,99]⟩:ByteArray).toList=[36,99]/\(⟨#[36,118]⟩:ByteArray).toList=[36,118]:=by decide +kernel
def eF(T:List Tk)(S:List Sm)(x:ByteArray)(n:Nat):Bool:=jq T S ⟨#[36,99]⟩ x n false
def kZ(T:List Tk)(S:List Sm)(x:ByteArray)(n:Nat):Bool:=jq T S ⟨#[36,118]⟩ x n true
set_option maxRecDepth 512
theorem tM(S:List Sm)(a:Option Addr)(c:Nat)(b:World)(d:fz b z6 l D n S a c)(i:y<=S.length)(g:S.length<=100000)(h:l.length<=100000)(f:vi l S y [36,99]) :
  Calls prog 172 #[.pointer (some ⟨z6,0,none⟩),.string w,.int .i64 y] b fun e k=>e=.returned (.bool (eF l S w y))/\ab [] b k:=by
 have H:Hid _:=(oq z6 y ⟨#[36,99]⟩ w false l D n S a c b d i g h (by rw[nR.1];exact f));go_enter func172,ntmps172;go_wp2_with fail;refine QU H.out ?_;rintro e m ⟨rfl,j⟩;go_wp2;go_ret;exact⟨rfl,j⟩
theorem AJ(S:List Sm)(a:Option Addr)(c:Nat)(b:World)(d:fz b z6 l D n S a c)(i:y<=S.length)(g:S.length<=100000)(h:l.length<=100000)(f:vi l S y [36,118]) :
  Calls prog 173 #[.pointer (some ⟨z6,0,none⟩),.string w,.int .i64 y] b fun e k=>e=.returned (.bool (kZ l S w y))/\ab [] b k:=by
 have H:Hid _:=(oq z6 y ⟨#[36,118]⟩ w true l D n S a c b d i g h (by rw[nR.2];exact f));go_enter func173,ntmps173;go_wp2_with fail;refine QU H.out ?_;rintro e m ⟨rfl,j⟩;go_wp2;go_ret;exact⟨rfl,j⟩
def qL(T:List Tk)(S:List Sm)(x:ByteArray)(j:Nat):Bool:=!((bG T (au S j)).toList == [])&&((bG T (au S j)).toList==x.toList)
def bE(T:List Tk)(S:List Sm)(x:ByteArray)(n:Nat):Int:=match (List.range n).find? (qL T S x) with
 | some j=>j
 | none=>-1
theorem Af{a:List Sm}(f:y2<S)(h:qL d a i y2=true)(b:∀j,j<y2->qL d a i j=false):bE d a i S=y2:=by
 have e:(List.range S).find? (qL d a i)=some y2:=by
  rw[Sj];exact⟨h,Ra.2 f,fun j c=>by rw[b j c];rfl⟩
 unfold bE;rw[e]
theorem Ci{a:List Sm}(b:∀j,j<S->qL d a i j=false):bE d a i S=-1:=by
 have e:(List.range S).find? (qL d a i)=none:=by
  rw[Sk];intro j c;rw[b j (Ra.1 c)];simp
 unfold bE;rw[e]
set_option maxRecDepth 100000
theorem oC(S:List Sm)(m:Option Addr)(t:Nat)(r:World)(x:fz r z6 l D n S m t)(K:y<=S.length)(H:S.length<=100000)(C:∀j,j<y->(au S j).a<l.length) :
  Calls prog 171 #[.pointer (some ⟨z6,0,none⟩),.string w,.int .i64 y] r fun e G=>e=.returned (.int .i64 (bE l S w y))/\ab [] r G:=by
 have B:Hid _:=x;clear x;go_enter func171,ntmps171;go_wp2
 go_loopg [7] y (fun g i wr=>∃k:Nat,k<=y/\g=y-k/\i=.int .i64 k/\Hid (∀j,j<k->qL l S w j=false)/\Hid (ab [] r wr))
 case atStart=>exact⟨0,by omega,rfl,rfl,(fun j E=>by omega),ab.refl _ _⟩
 case round =>
  obtain⟨k,J,I,rfl,q,h⟩:=hrel
  by_cases o:k<y
  ·have f:k<S.length:=by omega
   have F:(k:Int)<(y:Int):=by omega
   have s:Hid (qL l S w k=(!((bG l S[k]).toList == [])&&((bG l S[k]).toList==w.toList))):=by show _=_;unfold qL;rw[bM S k f]
   have c:Hid _:=(nQ z6 k l D n S m t wr (fz.Vb B.out h.out) f (by rw[bM S k f];exact C k o));generalize bG l S[k]=z at *
   cases u:(z.toList == [])
   ·cases v:(z.toList==w.toList)
    ·have d:Hid _:=dU q.out (by rw[s.out,v];simp)
     go_wp2_with (go_at_call 87;refine QU c.out ?_;rintro e A ⟨rfl,p⟩;have b:Hid _:=h.out.trans p)
     go_roundg (y-(k+1))
     case measure=>omega
     case rel=>exact⟨k+1,by omega,rfl,by go_num,d,b⟩
    ·have d:Hid (bE l S w y=k):=Af o (by rw[s.out,u,v];rfl) q.out
     go_wp2_with (go_at_call 87;refine QU c.out ?_;rintro e A ⟨rfl,p⟩;have b:Hid _:=h.out.trans p);go_ret;exact⟨QN d.out.symm,b.out⟩
   ·have d:Hid _:=dU q.out (by rw[s.out,u];rfl)
    go_wp2_with (go_at_call 87;refine QU c.out ?_;rintro e A ⟨rfl,p⟩;have b:Hid _:=h.out.trans p)
    go_roundg (y-(k+1))
    case measure=>omega
    case rel=>exact⟨k+1,by omega,rfl,by go_num,d,b⟩
  ·have d:Hid (bE l S w y=-1):=Ci (fun j E=>q.out j (by omega))
   go_wp2;go_ret;exact⟨QN d.out.symm,h.out⟩
end Go.Proofs.YtpddjjabfbfifaaGreat
