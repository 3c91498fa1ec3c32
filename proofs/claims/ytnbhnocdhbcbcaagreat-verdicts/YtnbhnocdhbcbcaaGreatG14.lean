import Derived.Deep.RegionHeld3
import Derived.Laws.OwnMore
import Derived.Test.YtnbhnocdhbcbcaaGreatG03
namespace Go.Proofs.YtnbhnocdhbcbcaaGreat
open Go.RowKit Tryz
open Value IntKind Ending
set_option maxHeartbeats 0
variable{f S z1:World}{o M:ByteArray}{x y8:Nat}{y s zt:Hd}{zb:eB}{z3:Array Oper}{y2:List Oper}{D:Oper}{L:Act}{z4:Exit->Act->World->Prop}{z0:Program}{y3:Act->World->Prop}{a y4:List Tk}{y5:Option Addr}{y6:Fs}{z5:List Bool}{y7:List Nat}(d:Fs)(n:List Tk)(I:Option Addr)(z6:Nat)(l b:ByteArray)(N m i:Int)(k T:Nat)(g:List Tk)(H:World)(z7:Tk)
theorem rM :
  Calls prog 165 #[int u8 i] H fun e a=>e=returned (bool (da i))/\a=H:=by
 go_enter func165,ntmps165;go_wp2
 all_goals go_ret
 all_goals (refine⟨?_,rfl⟩;first | (simp[da, *];done) | (simp[da, *,Bool.or_assoc];rw[Bool.or_comm (i==13)]))
theorem lO :
  Calls prog 79 #[int u8 i] H fun e a=>e=returned (bool (fI i))/\a=H:=by
 go_enter func79,ntmps79;go_wp2
 all_goals go_ret
 all_goals (refine⟨?_,rfl⟩;first | (simp[fI, *];done) | (simp[fI];omega) | (rename_i h;simp only[fI];rw[show decide (33<=i)=true by simp;omega];simp;omega))
theorem fS(t:l.size<=4294967296)(u:b.size<=4294967296) :
  Calls prog 121 #[string l,string b] H fun e q=>e=returned (bool (gW l b))/\q=H:=by
 go_enter func121,ntmps121;go_wp2
 go_loopg [5] (l.size+1) (fun g i wr=>∃k:Nat,k<=l.size+1/\g=l.size+1-k/\i=int i64 k/\Hid (∀i,i<k->i+b.size<=l.size->sA l b i=false)/\wr=H)
 case atStart=>exact⟨0,by omega,by omega,rfl,fun i h=>by omega,rfl⟩
 case round =>
  obtain⟨k,s,r,rfl,a,rfl⟩:=hrel;by_cases f:k+b.size<=l.size
  ·have n:(k:Int)<=(k:Int)+(b.size:Int):=(by omega);have o:(k:Int)+(b.size:Int)<=(l.size:Int):=(by omega);have p:((k:Int)+(b.size:Int)).toNat=k+b.size:=(by omega);cases j:((l.extract k (k+b.size)).toList==b.toList)
   ·go_wp2;go_roundg (l.size+1-(k+1))
    case measure=>omega
    case rel =>
     refine⟨k+1,by omega,rfl,by go_num,?_,rfl⟩;intro i m c;by_cases e:i=k
     ·subst e;exact j
     ·exact a.out i (by omega) c
   ·have d:Hid (gW l b=true):=mK k (by omega) (by simp[f,sA,j]);go_wp2;go_ret;exact⟨aE d.out.symm,rfl⟩
  ·have d:Hid (gW l b=false):=uj (fun i m=>by
    by_cases c:i+b.size<=l.size
    ·simp[a.out i (by omega) c]
    ·simp[c])
   go_wp2;go_ret;exact⟨aE d.out.symm,rfl⟩
structure vD(w wr:World)(nm d:ByteArray)(j:Nat):Prop where
 f:wr.heap[w.heap.size]?=some (.cells #[string nm,string d] 68)
 r:wr.heap[w.heap.size+1]?=some (.cells #[string ⟨#[]⟩,int i64 0,int i64 0] 36)
 p:wr.heap[w.heap.size+2]?=some (.cells #[string nm,int i64 (aR d j),int i64 (bC d j)] 36)
 kept:aa [] w wr
theorem vD.start(a d:ByteArray):vD H (((H.alloc (.cells #[string a,string d] 68)).alloc (.cells #[string ⟨#[]⟩,int i64 0,int i64 0] 36)).alloc (.cells #[string a,int i64 1,int i64 1] 36)) a d 0:=by
 have i:=(aa.refl [] H).alloc (.cells #[string a,string d] 68);have c:=(aa.refl [] (H.alloc (.cells #[string a,string d] 68))).alloc (.cells #[string ⟨#[]⟩,int i64 0,int i64 0] 36);have b:=(aa.refl [] ((H.alloc (.cells #[string a,string d] 68)).alloc (.cells #[string ⟨#[]⟩,int i64 0,int i64 0] 36))).alloc (.cells #[string a,int i64 1,int i64 1] 36);have e:(H.alloc (.cells #[string a,string d] 68)).heap[H.heap.size]?=some (.cells #[string a,string d] 68):=R2 _ _;have f:=R2 (H.alloc (.cells #[string a,string d] 68)) (.cells #[string ⟨#[]⟩,int i64 0,int i64 0] 36);have g:=R2 ((H.alloc (.cells #[string a,string d] 68)).alloc (.cells #[string ⟨#[]⟩,int i64 0,int i64 0] 36)) (.cells #[string a,int i64 1,int i64 1] 36);refine⟨b.get (c.get e (by simp)) (by simp),b.get (by simpa using f) (by simp),by simpa [aR,bC] using g,(i.trans c).trans b⟩
theorem vD.other(h:vD f S o M x)(a:(aH M x==10)=false):vD f (S.setCell ⟨f.heap.size+1+1,2,none⟩ (int i64 (bC M x+1))) o M (x+1):=by
 have k:aa [f.heap.size+1+1] S (S.setCell ⟨f.heap.size+1+1,2,none⟩ (int i64 (bC M x+1))):=(aa.refl _ _).setCell (R4 (by simp)) _;refine⟨k.get h.f (by simp;omega),k.get h.r (by simp),?_,h.kept.setCell (RZ (by show _<=f.heap.size+1+1;omega)) _⟩;rw[ah h.p];simp[aR,bC,a]
theorem vD.lf(h:vD f S o M x)(a:(aH M x==10)=true):vD f (((S.setCell ⟨f.heap.size+1+1,2,none⟩ (int i64 (bC M x+1))).setCell ⟨f.heap.size+1+1,1,none⟩ (int i64 (aR M x+1))).setCell ⟨f.heap.size+1+1,2,none⟩ (int i64 1)) o M (x+1):=by
 have k:aa [f.heap.size+1+1] S (((S.setCell ⟨f.heap.size+1+1,2,none⟩ (int i64 (bC M x+1))).setCell ⟨f.heap.size+1+1,1,none⟩ (int i64 (aR M x+1))).setCell ⟨f.heap.size+1+1,2,none⟩ (int i64 1)):=(((aa.refl _ _).setCell (R4 (by simp)) _).setCell (R4 (by simp)) _).setCell (R4 (by simp)) _;refine⟨k.get h.f (by simp;omega),k.get h.r (by simp),?_,((h.kept.setCell (RZ (by show _<=f.heap.size+1+1;omega)) _).setCell (RZ (by show _<=f.heap.size+1+1;omega)) _).setCell (RZ (by show _<=f.heap.size+1+1;omega)) _⟩;rw[ah (ah (ah h.p 2 _) 1 _) 2 _];simp[aR,bC,a]
theorem si(Q:T<=b.size)(N:b.size<=1073741824) :
  Calls prog 166 #[agg #[string l,string b],int i64 T] H fun e x=>e=returned (agg #[string l,int i64 (aR b T),int i64 (bC b T)])/\aa [] H x:=by
 go_enter func166,ntmps166;go_wp2
 go_loopg [6] T (fun g i wr=>∃j:Nat,j<=T/\g=T-j/\i=int i64 j/\Hid (vD H wr l b j))
 case atStart=>exact⟨0,by omega,rfl,rfl,vD.start H l b⟩
 case round =>
  obtain⟨j,P,O,rfl,d⟩:=hrel;have s:=d.out.f;have a:=d.out.r;have c:=d.out.p;have V:=ae c;have D:wr.cell? ⟨H.heap.size,1,none⟩=some (string b):=by rw[aj s];rfl
  have E:wr.cell? ⟨H.heap.size+2,0,none⟩=some (string l):=by rw[aj c];rfl
  have F:wr.cell? ⟨H.heap.size+2,1,none⟩=some (int i64 (aR b j)):=by rw[aj c];rfl
  have G:wr.cell? ⟨H.heap.size+2,2,none⟩=some (int i64 (bC b j)):=by rw[aj c];rfl
  have I:=am c 1;have J:=am c 2;have K:=am a 0;have L:=am a 1;have M:=am a 2;have R:wr.cell? ⟨H.heap.size+1,0,none⟩=some (string ⟨#[]⟩):=by rw[aj a];rfl
  have S:wr.cell? ⟨H.heap.size+1,1,none⟩=some (int i64 0):=by rw[aj a];rfl
  have U:wr.cell? ⟨H.heap.size+1,2,none⟩=some (int i64 0):=by rw[aj a];rfl
  have C:=AH b j;have B:=Am b j;by_cases w:j<T
  ·have k:j<b.size:=(by omega);cases q:((b[j].toNat:Int)==10)
   ·have m:Hid (vD H _ l b (j+1)):=d.out.other (by rw[bU b j k];exact q);go_wp2;go_roundg (T-(j+1))
    case measure=>omega
    case rel=>exact⟨j+1,by omega,rfl,by go_num,m.out⟩
   ·have m:Hid (vD H _ l b (j+1)):=d.out.lf (by rw[bU b j k];exact q);go_wp2;go_roundg (T-(j+1))
    case measure=>omega
    case rel=>exact⟨j+1,by omega,rfl,by go_num,m.out⟩
  ·have e:j=T:=(by omega);subst e;have t:Hid _:=d.out.kept;go_wp2;have n:=ah a 0 (string l);have o:=ah n 1 (int i64 (aR b j));have u:=ah o 2 (int i64 (bC b j));have y:(wr.setCell ⟨H.heap.size+1,0,none⟩ (string l)).cell? ⟨H.heap.size+1,0,none⟩=some (string l):=by rw[aj n];rfl
   have z:((wr.setCell ⟨H.heap.size+1,0,none⟩ (string l)).setCell ⟨H.heap.size+1,1,none⟩ (int i64 (aR b j))).cell? ⟨H.heap.size+1,1,none⟩=some (int i64 (aR b j)):=(by rw[aj o];rfl);have A:(((wr.setCell ⟨H.heap.size+1,0,none⟩ (string l)).setCell ⟨H.heap.size+1,1,none⟩ (int i64 (aR b j))).setCell ⟨H.heap.size+1,2,none⟩ (int i64 (bC b j))).cell? ⟨H.heap.size+1,2,none⟩=some (int i64 (bC b j)):=(by rw[aj u];rfl);exact Sa (v:=agg #[string l,int i64 (aR b j),int i64 (bC b j)]) (by simp[results,results166,go_sem,y,z,A]) rfl ⟨rfl,((t.out.setCell (RZ (by simp)) _).setCell (RZ (by simp)) _).setCell (RZ (by simp)) _⟩
structure bI(w w':World)(h h':Hd):Prop where
 kept:aa h.blk.toList w w'
 blk:h'.blk=h.blk∨∃g,h'.blk=some g/\w.heap.size<=g
theorem aQ(a:x∈y.blk.toList):y.blk=some x:=by
 cases e:y.blk with
 | none=>rw[e]at a;simp at a
 | some b=>rw[e]at a;simp at a;rw[a]
theorem bI.Wj(k:aa [] f S):bI f S y y:=⟨k.mono (by simp),R4 rfl⟩
theorem bI.trans{w1:World}(a:bI f w1 y s)(b:bI w1 S s zt):bI f S y zt:=by
 refine⟨⟨b.kept.os.trans a.kept.os,b.kept.tape.trans a.kept.tape,b.kept.output.trans a.kept.output,Sc a.kept.size b.kept.size,fun k i j=>?_⟩,?_⟩
 ·rw[b.kept.block k (R6 i a.kept.size) (fun l=>?_),a.kept.block k i j];have e:=aQ l;rcases a.blk with c | ⟨g,c,d⟩
  ·exact j (by rw[<-c,e];simp)
  ·rw[c]at e;cases e;omega
 ·rcases b.blk with e | ⟨g,e,d⟩
  ·rcases a.blk with c | ⟨g,c,d⟩
   ·exact R4 (e.trans c)
   ·exact RZ ⟨g,e.trans c,d⟩
  ·exact RZ ⟨g,e,Sc a.kept.size d⟩
theorem bI.made(a:f.grownBy S y.blk)(b:y.blk=some x∨f.heap.size<=x):bI f S y ⟨some ⟨x,0,none⟩,y8⟩ :=
 ⟨⟨a.os,a.tape,a.output,a.size,fun k c d=>a.block k c (fun e=>d (by rw[<-e];simp))⟩,by
  rcases b with e | e
  ·exact R4 e.symm
  ·exact RZ ⟨x,rfl,e⟩⟩
theorem aC.Wj(o:aC f y zb)(k:aa [] f S):aC S y zb:=o.Wo (fun q a=>k.block q (o.lt a) (by simp))
theorem EE:(prog.info? 138).map (fun i=>(i.zero,i.size,i.bytes))=some (some (agg #[string ⟨#[]⟩,int i64 0,string ⟨#[]⟩,int i64 0,int i64 0]),5,56):=by kernel_rfl
theorem Nv:∀j u,(Bv z7)[j]?=some u->(H.alloc (.cells (Bv z7).toArray 138)).cell? ((⟨H.heap.size,0,none⟩:Addr).add j)=some u:=by
 intro j u a;rw[bS];have b:(H.alloc (.cells (Bv z7).toArray 138)).heap[H.heap.size]?=some (.cells (Bv z7).toArray 138):=R2 _ _;rw[aj b];simpa using a
theorem Nw:∀u∈Bv z7,u.oneCell'=true:=by
 intro u a;simp only[Bv,List.mem_cons,List.not_mem_nil,or_false]at a;rcases a with rfl | rfl | rfl | rfl | rfl <;> rfl
set_option maxRecDepth 100000
theorem zR(h:Hd)(w:World)(J:k<=T)(hz:T<=b.size)(N:b.size<=1073741824)(Z:g.length<=100000)(v:aC w h (iV g)) :
  Calls prog 167 #[agg #[string l,string b],int i64 k,int i64 T,slice h.ao g.length h.cap] w fun e E=>∃p,e=returned (slice p.ao (jA l b k T g).length p.cap)/\aC E p (iV (jA l b k T g))/\bI w E h p:=by
 have q:aa [] w (w.alloc (.cells #[string l,string b] 68)):=(aa.refl [] _).alloc _;have C:(w.alloc (.cells #[string l,string b] 68)).heap[w.heap.size]?=some (.cells #[string l,string b] 68):=R2 _ _;by_cases e:k=T
 ·subst e;have o:Hid (jA l b k k g=g):=by show _=_;unfold jA;rw[RY rfl]
  have t:Hid _:=v.Wj q;rw[o.out];go_enter func167,ntmps167;go_wp2;go_ret;exact⟨h,rfl,t.out,bI.Wj q⟩
 ·have o:Hid (jA l b k T g=g++[mJ l b (b.extract k T) 0 k]):=by show _=_;unfold jA;rw[RU e]
  have O:¬((k:Int)=(T:Int)):=by omega
  obtain⟨Q,P,x,y,z⟩:=Sr EE;have L:(k:Int)<=(T:Int):=by omega
  have M:(T:Int)<=(b.size:Int):=by omega
  go_enter func167,ntmps167;go_upto_region 4 with (go_at_call 166;refine(si l b k _ (by omega) N).mono ?_;rintro e X ⟨rfl,A⟩)
  obtain⟨W,a⟩:∃W,Hid (X.alloc (.cells #[string l,int i64 (aR b k),int i64 (bC b k)] 36)=W):=⟨_,rfl⟩
  have B:=fN a.out;have s:=fY a.out;have K:=(q.trans A).trans B;have r:=B.get (A.get C (by simp)) (by simp);have Y:W.cell? ⟨w.heap.size,1,none⟩=some (string b):=by rw[aj r];rfl
  obtain⟨p0,p1,p2⟩:=vH s;have y0:=ae r;have y1:=ae s;rw[a.out];have H:Hid _:=K;have I:Hid (aC (W.alloc (.cells #[string (b.extract k T),int i64 0,string l,int i64 (aR b k),int i64 (bC b k)] 138)).drew h (iV g)):=(v.Wj K).Wj ((aa.refl [] W).alloc _).drew;have R:Hid (∀j u,([string (b.extract k T),int i64 0,string l,int i64 (aR b k),int i64 (bC b k)]:List Value)[j]?=some u->(W.alloc (.cells #[string (b.extract k T),int i64 0,string l,int i64 (aR b k),int i64 (bC b k)] 138)).drew.cell? ((⟨W.heap.size,0,none⟩:Addr).add j)=some u):=Nv W (mJ l b (b.extract k T) 0 k);have S:Hid (∀u∈([string (b.extract k T),int i64 0,string l,int i64 (aR b k),int i64 (bC b k)]:List Value),u.oneCell'=true):=Nw (mJ l b (b.extract k T) 0 k);have U:Hid ((iV g).n+1<=maxLen):=by show _<=_;simp only[iV];unfold maxLen;omega
  have V:Hid (((iV g).n+1)*56<=140737488355328):=by show _<=_;simp only[iV];omega
  clear B s K r C q A a v;go_region_law (refine cO rfl (.tmp 17) (.tmp 25) 101 rfl Q (agg #[string ⟨#[]⟩,int i64 0,string ⟨#[]⟩,int i64 0,int i64 0]) 56 h (iV g) underlying101 P x y z rfl (show 0<5 by omega) (by simp[Act.eval] <;> rfl) I.out ⟨W.heap.size,0,none⟩ 1 1 [string (b.extract k T),int i64 0,string l,int i64 (aR b k),int i64 (bC b k)] (by simp[Act.eval]) rfl R.out S.out So U.out V.out ?_;intro D c F i d f)
  all_goals
   have m:aC F ⟨some ⟨D,0,none⟩,c⟩ (iV (g++[mJ l b (b.extract k T) 0 k])):=(by rw[<-zx];exact i);have G:Hid (bI w F h ⟨some ⟨D,0,none⟩,c⟩):=(bI.Wj (H.out.trans ((aa.refl [] W).alloc _).drew)).trans (bI.made d (by simpa using f));have t:Hid _:=m;clear i d f m;go_wp2;go_ret;exact⟨_,by rw[o.out];simp[iV],by rw[o.out];exact t.out,G.out⟩
theorem b9(q:D.guard=none)(s x:Operand)(i:D.op=Op.call { callee:=Callee.builtin Builtin.append,args:=#[s,x],argTypes:=#[101,101] })(h:Hd)(a:List Tk)(t:Tk)(u:L.eval s=slice h.ao a.length h.cap)(d:aC H h (iV a))(z:a.length<=1000000)(v:L.eval x=slice (some ⟨H.heap.size,0,none⟩) 1 1)(p:∀f m,aC m f (iV (a++[t]))->bI H m h f->wpList prog z3 z4 y2 (L.put D.dst (slice f.ao (a.length+1) f.cap)) m) :
  wpList prog z3 z4 (D :: y2) L (H.alloc (.cells (Bv t).toArray 138)):=by
 obtain⟨w,r,j,k,l⟩:=Sr EE;have n:aa [] H (H.alloc (.cells (Bv t).toArray 138)):=(aa.refl [] _).alloc _;refine aO _ q s x 101 i w (agg #[string ⟨#[]⟩,int i64 0,string ⟨#[]⟩,int i64 0,int i64 0]) 56 h (iV a) underlying101 r j k l rfl (show 0<5 by omega) u (d.Wj n) ⟨H.heap.size,0,none⟩ 1 1 (Bv t) v rfl (Nv H t) (Nw t) So (by simp only[iV];unfold maxLen;omega) (by simp only[iV];omega) ?_;intro o b y e c g;rw[zx]at e;exact p ⟨some ⟨o,0,none⟩,b⟩ y e ((bI.Wj n).trans (bI.made c g))
theorem sS{P:Program}(t E:TypeId)(i:TypeInfo)(z:Value)(d:Nat)(h:Hd)(r:eB)(A:P.underlying t=some (.slice r.e))(B:P.info? r.e=some i)(N:i.zero=some z)(I:i.size=r.size)(O:i.bytes=d)(Q:z.cells.size=r.size)(R:0<r.size)(b:aC H h r)(y:Option Addr)(m c:Nat)(a:List Value)(D:a.length=m*r.size)(l:y=none->m=0/\c=0)(C:∀p,y=some p->∀j u,a[j]?=some u->H.cell? (p.add j)=some u)(v:∀u∈a,u.oneCell'=true)(J:r.n+m<=maxLen)(K:(r.n+m)*d<=140737488355328) :
  ∃f o,(Builtin.append_ #[t,t] E #[slice h.ao r.n h.cap,slice y m c]).run P H=.ok (slice f.ao (r.n+m) f.cap) o /\
   aC o f ⟨r.e,r.size,r.n+m,r.xs++a⟩/\bI H o h f:=by
 cases y with
 | none =>
  obtain⟨rfl,rfl⟩:=l rfl;have k:a=[]:=Sw (by simpa using D);subst k;have T:=run_append_owned_none (P:=P) H 0 t E r.e i r.size A B (slice h.ao r.n h.cap) r.n r.xs b;exact⟨h,H,T,by rw[Su];exact b,bI.Wj (aa.refl _ _)⟩
 | some p =>
  have C:=C p rfl;by_cases S:0<m
  ·obtain⟨g,q,o,V,W,X,Y⟩:=qt H t E i z d h r A B N I O Q R b p m c a D C v S J K;exact⟨⟨some ⟨g,0,none⟩,q⟩,o,V,W,bI.made X Y⟩
  ·have e:m=0:=(by omega);subst e;have k:a=[]:=Sw (by simpa using D);subst k;rcases b.Wu with ⟨s,G,M⟩ | ⟨g,L,s,G,M,Z,e5,e6⟩
   ·refine⟨h,H,?_,?_,bI.Wj (aa.refl _ _)⟩
    ·rw[s,G];simp[Builtin.append_,run_underlying A,sizeOf,typeInfo,B,Builtin.lenOf,Builtin.firstCells,loadCells,loadCellsFrom]
    ·rw[Su,Ui];exact b
   ·obtain⟨o,x,U,F⟩:=run_append_fits (P:=P) H 0 t E r.e i r.size A B I g r.n h.cap r.xs (by have:=b;unfold aC at this;rw[s]at this;exact this) p 0 c [] D C v (by omega);have w:h.blk=some g:=(by unfold Hd.blk;rw[s];rfl);exact⟨⟨some ⟨g,0,none⟩,h.cap⟩,o,by rw[s,x],U,bI.made (by rw[w];exact F) (R4 w)⟩
theorem eN(P:D.guard=none)(s x:Operand)(t:TypeId)(w:D.op=Op.call { callee:=Callee.builtin Builtin.append,args:=#[s,x],argTypes:=#[t,t] })(i:TypeInfo)(z:Value)(b:Nat)(h:Hd)(r:eB)(B:z0.underlying t=some (.slice r.e))(C:z0.info? r.e=some i)(E:i.zero=some z)(F:i.size=r.size)(G:i.bytes=b)(I:z.cells.size=r.size)(J:0<r.size)(R:L.eval s=slice h.ao r.n h.cap)(f:aC H h r)(l:Option Addr)(m c:Nat)(a:List Value)(S:L.eval x=slice l m c)(Q:a.length=m*r.size)(d:l=none->m=0/\c=0)(O:∀y,l=some y->∀j u,a[j]?=some u->H.cell? (y.add j)=some u)(p:∀u∈a,u.oneCell'=true)(A:r.n+m<=1000000000)(N:b<=1000)(M:∀o k,aC k o ⟨r.e,r.size,r.n+m,r.xs++a⟩->bI H k h o->wpList z0 z3 z4 y2 (L.put D.dst (slice o.ao (r.n+m) o.cap)) k) :
  wpList z0 z3 z4 (D :: y2) L H:=by
 obtain⟨v,k,g,T,U⟩:=sS (P:=z0) H t D.type i z b h r B C E F G I J f l m c a Q d O p (by unfold maxLen;omega) (Sc (Uy A N) (by omega));refine wpList_plain P fun K q=>?_;unfold Oper.wp;simp[execOp,w,resolve,invoke,builtin,R,S,g,Result.andThen];exact q _ _ (M v k T U)
theorem xN{E:Prop}(P:D.guard=none)(s x:Operand)(t:TypeId)(y:D.op=Op.call { callee:=Callee.builtin Builtin.append,args:=#[s,x],argTypes:=#[t,t] })(i:TypeInfo)(z:Value)(b:Nat)(h:Hd)(r:eB)(C:z0.underlying t=some (.slice r.e))(F:z0.info? r.e=some i)(G:i.zero=some z)(H:i.size=r.size)(I:i.bytes=b)(J:z.cells.size=r.size)(K:0<r.size)(R:L.eval s=slice h.ao r.n h.cap)(o:aC f h r)(v:Option Addr)(m c:Nat)(a:List Value)(T:L.eval x=slice v m c)(Q:a.length=m*r.size)(k:v=none->m=0/\c=0)(O:∀A,v=some A->∀j u,a[j]?=some u->f.cell? (A.add j)=some u)(w:∀u∈a,u.oneCell'=true)(B:r.n+m<=1000000000)(N:b<=1000)(M:∀g d q,aC q ⟨g,d⟩ ⟨r.e,r.size,r.n+m,r.xs++a⟩->bI f q h ⟨g,d⟩->y3 (L.put D.dst (slice g (r.n+m) d)) q) :
  if Region.wanted D (yielded z3 L.tmps)=true then Oper.wp z0 D L f y3 z4 else E:=by
 have S:Region.wanted D (yielded z3 L.tmps)=true:=by simp[Region.wanted,P]
 rw[RY S];obtain⟨l,q,p,U,V⟩:=sS (P:=z0) f t D.type i z b h r C F G H I J K o v m c a Q k O w (by unfold maxLen;omega) (Sc (Uy B N) (by omega));unfold Oper.wp;simp[execOp,y,resolve,invoke,builtin,R,T,p,Result.andThen];exact M l.ao l.cap q U V
theorem bR{E:Prop}(G:D.guard=none)(s x:Operand)(t:TypeId)(l:D.op=Op.call { callee:=Callee.builtin Builtin.append,args:=#[s,x],argTypes:=#[t,t] })(i:TypeInfo)(z:Value)(c:Nat)(h:Hd)(r:eB)(a:List Value)(p:z0.underlying t=some (.slice r.e))(q:z0.info? r.e=some i)(v:i.zero=some z)(w:i.size=r.size)(y:i.bytes=c)(A:z.cells.size=r.size)(B:0<r.size)(K:L.eval s=slice h.ao r.n h.cap)(f:aC H h r)(P:r.n<=900000000)(F:c<=1000)(M:L.eval x=slice (some ⟨H.heap.size,0,none⟩) 1 1)(Q:a.length=r.size)(k:∀u∈a,u.oneCell'=true)(C:∀d b g,aC g ⟨d,b⟩ ⟨r.e,r.size,r.n+1,r.xs++a⟩->bI H g h ⟨d,b⟩->y3 (L.put D.dst (slice d (r.n+1) b)) g) :
  if Region.wanted D (yielded z3 L.tmps)=true then Oper.wp z0 D L (H.alloc (.cells a.toArray r.e)).drew y3 z4 else E:=by
 have m:aa [] H (H.alloc (.cells a.toArray r.e)).drew:=((aa.refl [] _).alloc _).drew;have J:(H.alloc (.cells a.toArray r.e)).drew.heap[H.heap.size]?=some (.cells a.toArray r.e):=R2 _ _;refine xN G s x t l i z c h r p q v w y A B K (f.Wj m) (some ⟨H.heap.size,0,none⟩) 1 1 a M (by omega) (fun e=>by cases e) ?_ k (by omega) F ?_
 ·intro O e j u I;cases e
  rw[bS,aj J];simpa using I
 ·intro d b g N o;exact C d b g N ((bI.Wj m).trans o)
structure yo(w wr:World)(nm d:ByteArray)(h:Hd)(L:List Tk):Prop where
 f:wr.heap[w.heap.size]?=some (.cells #[string nm,string d] 68)
 own:aC wr h (iV L)
 far:∀k,h.blk=some k->w.heap.size<k
 kept:aa [] w wr
theorem yo.Wj(b:yo f S o M y a)(k:aa [] S z1):yo f z1 o M y a :=
 ⟨k.get b.f (by simp),b.own.Wj k,b.far,b.kept.trans k⟩
theorem yo.Wt(b:yo f S o M y a)(g:bI S z1 y s)(i:aC z1 s (iV y4)):yo f z1 o M s y4:=by
 have j:=ae b.f;refine⟨g.kept.get b.f (fun d=>by have:=b.far _ (aQ d);omega),i,fun k c=>?_,⟨g.kept.os.trans b.kept.os,g.kept.tape.trans b.kept.tape,g.kept.output.trans b.kept.output,Sc b.kept.size g.kept.size,fun k c _=>?_⟩⟩
 ·rcases g.blk with e | ⟨q,e,d⟩
  ·exact b.far k (by rw[<-e];exact c)
  ·rw[e]at c;cases c;omega
 ·rw[g.kept.block k (R6 c b.kept.size) (fun d=>by have:=b.far _ (aQ d);omega),b.kept.block k c (by simp)]
theorem xq{l c:Int}(h:Hid (f.alloc (.cells #[string o,int i64 l,int i64 c] 36)=S)):aa [] f S/\f.heap.size<S.heap.size/\S.cell? ⟨f.heap.size,0,none⟩=some (string o)/\S.cell? ⟨f.heap.size,1,none⟩=some (int i64 l)/\S.cell? ⟨f.heap.size,2,none⟩=some (int i64 c):=by
 have a:S.heap[f.heap.size]?=some (.cells #[string o,int i64 l,int i64 c] 36):=by rw[<-h.out];exact R2 _ _
 exact⟨by rw[<-h.out];exact(aa.refl [] _).alloc _,ae a,by rw[aj a];rfl,by rw[aj a];rfl,by rw[aj a];rfl⟩
theorem PH(c:x<o.size)(h:rg (aH o x)=true)(a:∀j,j<x->rg (aH o j)=false):jZ o=some x:=by
 unfold jZ;rw[Tx];exact⟨h,Sd.2 c,fun j b=>by rw[a j b];rfl⟩
theorem Lp(a:∀j,j<o.size->rg (aH o j)=false):jZ o=none:=by
 unfold jZ;rw[Tn];intro j b;rw[a j (Sd.1 b)];simp
theorem Ge(hd:b.size<=10000) :
  Calls prog 116 #[agg #[string l,string b]] H fun e w=>∃m,e=returned (slice m.ao (iA l b).length m.cap)/\aC w m (iV (iA l b))/\aa [] H w/\∀k,m.blk=some k->H.heap.size<k:=by
 have Z:Hid (yo H (H.alloc (.cells #[string l,string b] 68)) l b ⟨none,0⟩ []):=⟨R2 _ _,Sb _ _ _ _,(by intro k X;cases X),(aa.refl [] _).alloc _⟩;obtain⟨i0,hi,af,ag,ai⟩:=Sr EE;go_enter func116,ntmps116;go_wp2
 go_loopg [3,4,5] b.size (fun g o f i wr=>∃(k:Nat) (h:Hd),k<=b.size/\g=b.size-k/\o=slice h.ao (jz l b k).length h.cap/\f=int i64 (dx b k)/\i=int i64 k/\Hid (∀j,j<k->rg (aH b j)=false)/\Hid (yo H wr l b h (jz l b k)))
 case atStart=>exact⟨0,⟨none,0⟩,by omega,rfl,rfl,rfl,rfl,(fun j V=>by omega),Z⟩
 case round =>
  obtain⟨k,h,X,hg,rfl,rfl,rfl,J,t⟩:=hrel;have K:wr.cell? ⟨H.heap.size,0,none⟩=some (string l):=by rw[aj t.out.f];rfl
  have L:wr.cell? ⟨H.heap.size,1,none⟩=some (string b):=by rw[aj t.out.f];rfl
  have Y:=ae t.out.f;have ad:=x9 l b k;have C:=oI b k;by_cases D:k<b.size
  ·have ac:(k:Int)<(b.size:Int):=(by omega);have c:Hid _:=bU b k D;cases z:da (b[k].toNat:Int)
   ·cases S:fI (b[k].toNat:Int)
    ·have M:Hid (jZ b=some k):=PH D (by rw[c.out];unfold rg;rw[z,S];rfl) J.out;(go_upto_region 10 with (first | (go_at_call 79;refine(lO _ _).mono ?_;rintro e v ⟨rfl,a⟩;rw[a];clear a) | (go_at_call 165;refine(rM _ _).mono ?_;rintro e v ⟨rfl,a⟩;rw[a];clear a) | (go_at_call 166;refine(si l b k _ (by omega) (by omega)).mono ?_;rintro e v ⟨rfl,F⟩)));obtain⟨W,d⟩:∃W,Hid (v.alloc (.cells #[string l,int i64 (aR b k),int i64 (bC b k)] 36)=W):=⟨_,rfl⟩
     obtain⟨G,y1,p0,p1,p2⟩:=xq d;rw[d.out];have A:Hid _:=t.out.Wj (F.trans G);have R:=A.out.own;have y:Hid (iA l b=jz l b k++[mJ l b ⟨#[]⟩ 1 k]):=(by show _=_;unfold iA;rw[M.out]);clear G F K L d;go_wp2_with (at_builtin;refine b9 W rfl (.tmp 36) (.tmp 39) rfl h (jz l b k) (mJ l b ⟨#[]⟩ 1 k) rfl R (by omega) rfl ?_;intro Q w5 r q;have p:Hid _:=A.out.Wt q r;clear r q);go_ret;exact⟨Q,by rw[y.out];simp,by rw[y.out];exact p.out.own,p.out.kept,p.out.far⟩
    ·have p:Hid (∀j,j<k+1->rg (aH b j)=false):=fun j V=>by
      by_cases e:j=k
      ·subst e;rw[c.out];unfold rg;rw[S];rfl
      ·exact J.out j (by omega)
     have x:Hid (jz l b (k+1)=jz l b k/\dx b (k+1)=dx b k):=by
      constructor
      ·rw[jz,RU (by rw[c.out,z];simp)]
      ·rw[dx,RU (by rw[c.out,z];simp)]
     go_wp2_with (first | (go_at_call 79;refine(lO _ _).mono ?_;rintro e v ⟨rfl,a⟩;rw[a];clear a) | (go_at_call 165;refine(rM _ _).mono ?_;rintro e v ⟨rfl,a⟩;rw[a];clear a));go_roundg (b.size-(k+1))
     case measure=>omega
     case rel=>exact⟨k+1,h,by omega,rfl,by rw[x.out.1],by rw[x.out.2],by go_num,p,by rw[x.out.1];exact t⟩
   ·have p:Hid (∀j,j<k+1->rg (aH b j)=false):=fun j V=>by
     by_cases e:j=k
     ·subst e;rw[c.out];unfold rg;rw[z];simp
     ·exact J.out j (by omega)
    have x:Hid (jz l b (k+1)=jA l b (dx b k) k (jz l b k)/\dx b (k+1)=k+1):=by
     constructor
     ·rw[jz,RY (by rw[c.out,z])]
     ·rw[dx,RY (by rw[c.out,z])]
    have u:Hid (∀s,yo H s l b h (jz l b k)->Calls prog 167 #[agg #[string l,string b],int i64 (dx b k),int i64 k,slice h.ao (jz l b k).length h.cap] s fun e w=>∃m,e=returned (slice m.ao (jA l b (dx b k) k (jz l b k)).length m.cap)/\aC w m (iV (jA l b (dx b k) k (jz l b k)))/\bI s w h m):=fun s T=>zR l b _ k _ h s C (by omega) (by omega) (by omega) T.own;cases S:fI (b[k].toNat:Int)
    all_goals
     go_wp2_with (first | (go_at_call 79;refine(lO _ _).mono ?_;rintro e v ⟨rfl,a⟩;rw[a];clear a) | (go_at_call 165;refine(rM _ _).mono ?_;rintro e v ⟨rfl,a⟩;rw[a];clear a) | (go_at_call 167;refine(u.out _ t.out).mono ?_;rintro e U ⟨P,rfl,I,B⟩;have n:Hid _:=t.out.Wt B I;clear B I));go_roundg (b.size-(k+1))
     case measure=>omega
     case rel=>exact⟨k+1,P,by omega,rfl,by rw[x.out.1],by rw[x.out.2];go_num,by go_num,p,by rw[x.out.1];exact n⟩
  ·have e:k=b.size:=(by omega);subst e;have M:Hid (jZ b=none):=Lp J.out;have y:Hid (iA l b=jA l b (dx b b.size) b.size (jz l b b.size)++[mJ l b ⟨#[]⟩ 0 b.size]):=by show _=_;unfold iA;rw[M.out]
   have E:=uW l b (dx b b.size) b.size (jz l b b.size);obtain⟨O,N⟩:∃O,Hid (jA l b (dx b b.size) b.size (jz l b b.size)=O):=⟨_,rfl⟩
   have u:Hid (∀s,yo H s l b h (jz l b b.size)->Calls prog 167 #[agg #[string l,string b],int i64 (dx b b.size),int i64 b.size,slice h.ao (jz l b b.size).length h.cap] s fun e w=>∃m,e=returned (slice m.ao (jA l b (dx b b.size) b.size (jz l b b.size)).length m.cap)/\aC w m (iV (jA l b (dx b b.size) b.size (jz l b b.size)))/\bI s w h m):=fun s T=>zR l b _ b.size _ h s C (by omega) (by omega) (by omega) T.own;rw[N.out]at u E y;(go_upto_region 15 with (go_at_call 167;refine(u.out _ t.out).mono ?_;rintro e U ⟨P,rfl,I,B⟩;have n:Hid _:=t.out.Wt B I;clear B I));clear K L Y;have K:U.cell? ⟨H.heap.size,0,none⟩=some (string l):=by rw[aj n.out.f];rfl
   have L:U.cell? ⟨H.heap.size,1,none⟩=some (string b):=(by rw[aj n.out.f];rfl);have Y:=ae n.out.f;(go_upto_region 16 with (go_at_call 166;refine(si l b b.size _ (by omega) (by omega)).mono ?_;rintro e v ⟨rfl,F⟩));obtain⟨W,d⟩:∃W,Hid (v.alloc (.cells #[string l,int i64 (aR b b.size),int i64 (bC b b.size)] 36)=W):=⟨_,rfl⟩
   obtain⟨G,y1,p0,p1,p2⟩:=xq d;rw[d.out];have A:Hid _:=n.out.Wj (F.trans G);have R:=A.out.own;clear G F K L d;go_wp2_with (at_builtin;refine b9 W rfl (.tmp 61) (.tmp 64) rfl P O (mJ l b ⟨#[]⟩ 0 b.size) rfl R (by omega) rfl ?_;intro Q w5 r q;have p:Hid _:=A.out.Wt q r;clear r q);go_ret;exact⟨Q,by rw[y.out];simp,by rw[y.out];exact p.out.own,p.out.kept,p.out.far⟩
theorem qx(o:aC f y (iV a))(d:y.ao=some ⟨x,0,none⟩)(k:Nat)(t:Tk)(g:a[k]?=some t) :
  f.cell? ⟨x,k*5,none⟩=some (string t.s)/\f.cell? ⟨x,k*5+1,none⟩=some (int i64 t.rule)/\f.cell? ⟨x,k*5+2,none⟩=some (string t.file)/\f.cell? ⟨x,k*5+3,none⟩=some (int i64 t.line)/\f.cell? ⟨x,k*5+4,none⟩=some (int i64 t.col):=by
 have e:∀c,c<5->∀u,(Bv t)[c]?=some u->f.cell? ⟨x,k*5+c,none⟩=some u:=fun c b u i=>o.cell d (k*5+c) u (by show(QF a)[k*5+c]?=some u;rw[QA a k t g c b];exact i);exact⟨e 0 (by omega) _ rfl,e 1 (by omega) _ rfl,e 2 (by omega) _ rfl,e 3 (by omega) _ rfl,e 4 (by omega) _ rfl⟩
theorem qK(o:aC f y zb)(i:0<zb.n):∃g,y.ao=some ⟨g,0,none⟩/\g<f.heap.size/\zb.n<=y.cap:=by
 rcases o.Wu with ⟨_,e,_⟩ | ⟨g,a,b,c,d,-⟩
 ·omega
 ·exact⟨g,b,ae c,d⟩
structure NJ(w wr:World)(h:Hd)(O:List Tk):Prop where
 own:aC wr h (iV O)
 far:∀k,h.blk=some k->w.heap.size<=k
 kept:aa [] w wr
theorem NJ.Wj(b:NJ f S y a)(k:aa [] S z1):NJ f z1 y a:=⟨b.own.Wj k,b.far,b.kept.trans k⟩
theorem NJ.Wt(b:NJ f S y a)(g:bI S z1 y s)(o:aC z1 s (iV y4)):NJ f z1 s y4:=by
 refine⟨o,fun k c=>?_,⟨g.kept.os.trans b.kept.os,g.kept.tape.trans b.kept.tape,g.kept.output.trans b.kept.output,Sc b.kept.size g.kept.size,fun k c _=>?_⟩⟩
 ·rcases g.blk with e | ⟨q,e,d⟩
  ·exact b.far k (by rw[<-e];exact c)
  ·rw[e]at c;cases c;exact Sc b.kept.size d
 ·rw[g.kept.block k (R6 c b.kept.size) (fun d=>by have:=b.far _ (aQ d);omega),b.kept.block k c (by simp)]
def lF(w:World)(ao:Option Addr)(cap:Nat)(L:List Tk):Prop:=L.length<=cap/\∀k t,L[k]?=some t->∃g,ao=some ⟨g,0,none⟩/\g<w.heap.size /\
  w.cell? ⟨g,k*5,none⟩=some (string t.s)/\w.cell? ⟨g,k*5+1,none⟩=some (int i64 t.rule)/\w.cell? ⟨g,k*5+2,none⟩=some (string t.file)/\w.cell? ⟨g,k*5+3,none⟩=some (int i64 t.line)/\w.cell? ⟨g,k*5+4,none⟩=some (int i64 t.col)
theorem aC.src(o:aC f y (iV a)):lF f y.ao y.cap a:=by
 refine⟨?_,fun k t d=>?_⟩
 ·rcases o.Wu with ⟨e,c,_⟩ | ⟨g,i,m,n,j,-⟩
  ·have c:a.length=0:=c;omega
  ·exact j
 ·have p:=(R8.1 d).1;obtain⟨g,b,l,-⟩:=qK o (show 0<a.length by omega);exact⟨g,b,l,qx o b k t d⟩
theorem lF.Wj(h:lF f y5 x a)(k:aa [] f S):lF S y5 x a:=by
 refine⟨h.1,fun j t p=>?_⟩;obtain⟨g,e,b,c⟩:=h.2 j t p;obtain⟨d,i,l,m,n⟩:=c;have q:∀o,S.cell? ⟨g,o,none⟩=f.cell? ⟨g,o,none⟩:=fun o=>Sh (k.block g b (by simp));exact⟨g,e,R6 b k.size,by rw[q];exact d,by rw[q];exact i,by rw[q];exact l,by rw[q];exact m,by rw[q];exact n⟩
theorem Iw(hL:n.length<=100000)(K:lF H I T n)(hs:∀t∈n,t.s.size<=1073741824) :
  Calls prog 117 #[slice I n.length T] H fun e w'=>∃l,e=returned (slice l.ao (bV false n).length l.cap)/\NJ H w' l (bV false n):=by
 have S0:Hid (NJ H H ⟨none,0⟩ []):=⟨Sb _ _ _ _,(by intro k R;cases R),aa.refl _ _⟩;have Q:=K.1;have HO:Hid _:=K;clear K;go_enter func117,ntmps117;go_wp2
 go_loopg [3,4,5] n.length (fun g o P i wr=>∃(k:Nat) (l:Hd) (O:List Tk) (b:Bool),k<=n.length/\g=n.length-k/\o=slice l.ao O.length l.cap/\P=bool b/\i=int i64 k/\O.length<=k/\Hid (O++bV b (n.drop k)=bV false n)/\Hid (NJ H wr l O))
 case atStart=>exact⟨0,⟨none,0⟩,[],false,by omega,rfl,rfl,rfl,rfl,RV _,rfl,S0⟩
 case round =>
  obtain⟨k,l,O,b,R,hg,rfl,rfl,rfl,ac,u,F⟩:=hrel;by_cases A:k<n.length
  ·obtain⟨gs,rfl,ad,U,V,X,Y,Z⟩:=(lF.Wj HO.out F.out.kept).2 k n[k] (RQ A);have HD:Hid _:=Sq A;have N:=hs n[k] (Sj A);have af:(k:Int)<n.length:=(by omega);rw[HD.out]at u;generalize n[k]=t at *;obtain⟨d,z,p,q,m⟩:=t;simp only at U V X Y Z N;obtain⟨W,w⟩:∃W,Hid (wr.alloc (.cells #[string d,int i64 z,string p,int i64 q,int i64 m] 138)=W):=⟨_,rfl⟩
   have E:=fY w.out;obtain⟨p0,p1,p2,p3,p4⟩:=nR E;have y1:=ae E;have j:Hid (NJ H W l O):=F.out.Wj (by rw[<-w.out];exact(aa.refl [] _).alloc _);have r:=j.out.own;(go_upto_region 7 with fail);rw[w.out];clear U V X Y Z w E;(go_upto_region 9 with (go_at_call 121;refine(fS d _ _ (by omega) (by show 2<=_;omega)).mono ?_;rintro e w1 ⟨rfl,B⟩;rw[B];clear B));cases b
   ·cases S:(d.toList == [36,40])
    ·have f:Hid ((O++[⟨d,z,p,q,m⟩])++bV false (n.drop (k+1))=bV false n):=by
      show _=_;rw[<-u.out,bV,RU (by show ¬(d.toList == [36,40])=true;rw[S];simp)];simp
     go_wp2_with (at_builtin;refine b9 W rfl (.tmp 41) (.tmp 43) rfl l O ⟨d,z,p,q,m⟩ rfl r (by omega) rfl ?_;intro y D c a;have v:Hid _:=j.out.Wt a c;clear c a);go_roundg (n.length-(k+1))
     case measure=>omega
     case rel=>exact⟨k+1,y,O++[⟨d,z,p,q,m⟩],false,by omega,rfl,by simp,rfl,by go_num,by simp;omega,f,v⟩
    ·have f:Hid (O++bV true (n.drop (k+1))=bV false n):=by
      show _=_;rw[<-u.out,bV,RY (by show(d.toList == [36,40])=true;exact S)]
     go_wp2;go_roundg (n.length-(k+1))
     case measure=>omega
     case rel=>exact⟨k+1,l,O,true,by omega,rfl,rfl,rfl,by go_num,by omega,f,j⟩
   ·cases L:(z==0)
    ·have f:Hid ((O++[⟨d,z,p,q,m⟩])++bV true (n.drop (k+1))=bV false n):=by
      show _=_;rw[<-u.out,bV,RY (by exact L)];simp
     go_wp2_with (at_builtin;refine b9 W rfl (.tmp 41) (.tmp 43) rfl l O ⟨d,z,p,q,m⟩ rfl r (by omega) rfl ?_;intro y D c a;have v:Hid _:=j.out.Wt a c;clear c a);go_roundg (n.length-(k+1))
     case measure=>omega
     case rel=>exact⟨k+1,y,O++[⟨d,z,p,q,m⟩],true,by omega,rfl,by simp,rfl,by go_num,by simp;omega,f,v⟩
    ·have M:z=0:=(by simpa using L);subst M;clear L;cases C:(d.toList == [36,41])
     ·cases G:(d.toList == [])
      ·cases x:(gW d ⟨#[36,40]⟩||gW d ⟨#[36,41]⟩)
       ·have f:Hid (O++bV true (n.drop (k+1))=bV false n):=by
         show _=_;rw[<-u.out,bV,RU (by simp),RU (by show ¬(d.toList == [36,41])=true;rw[C];simp),RU (by show ¬(d.toList == [])=true;rw[G];simp),RU (by rw[x];simp)]
        simp only[Bool.or_eq_false_iff]at x;obtain⟨x,J⟩:=x;rw[x,J];go_wp2;go_roundg (n.length-(k+1))
        case measure=>omega
        case rel=>exact⟨k+1,l,O,true,by omega,rfl,rfl,rfl,by go_num,by omega,f,j⟩
       ·have f:Hid (bV false n=O++[⟨⟨#[]⟩,2,p,q,m⟩]):=by
         show _=_;rw[<-u.out,bV,RU (by simp),RU (by show ¬(d.toList == [36,41])=true;rw[C];simp),RU (by show ¬(d.toList == [])=true;rw[G];simp),RY (by rw[x])]
        cases J:gW d ⟨#[36,40]⟩
        ·rw[J,Ts]at x;rw[x];go_wp2_with (at_builtin;refine b9 W rfl (.tmp 64) (.tmp 68) rfl l O ⟨⟨#[]⟩,2,p,q,m⟩ rfl r (by omega) rfl ?_;intro y D c a;have v:Hid _:=j.out.Wt a c;clear c a);go_ret;exact⟨y,by rw[f.out];simp,by rw[f.out];exact v.out⟩
        ·clear x;go_wp2_with (at_builtin;refine b9 W rfl (.tmp 64) (.tmp 68) rfl l O ⟨⟨#[]⟩,2,p,q,m⟩ rfl r (by omega) rfl ?_;intro y D c a;have v:Hid _:=j.out.Wt a c;clear c a);go_ret;exact⟨y,by rw[f.out];simp,by rw[f.out];exact v.out⟩
      ·have f:Hid ((O++[⟨⟨#[]⟩,3,p,q,m⟩])++bV true (n.drop (k+1))=bV false n):=by
        show _=_;rw[<-u.out,bV,RU (by simp),RU (by show ¬(d.toList == [36,41])=true;rw[C];simp),RY (by exact G)];simp
       go_wp2_with (at_builtin;refine b9 W rfl (.tmp 53) (.tmp 57) rfl l O ⟨⟨#[]⟩,3,p,q,m⟩ rfl r (by omega) rfl ?_;intro y D c a;have v:Hid _:=j.out.Wt a c;clear c a);go_roundg (n.length-(k+1))
       case measure=>omega
       case rel=>exact⟨k+1,y,O++[⟨⟨#[]⟩,3,p,q,m⟩],true,by omega,rfl,by simp,rfl,by go_num,by simp;omega,f,v⟩
     ·have f:Hid (O++bV false (n.drop (k+1))=bV false n):=by
       show _=_;rw[<-u.out,bV,RU (by simp),RY (by exact C)]
      go_wp2;go_roundg (n.length-(k+1))
      case measure=>omega
      case rel=>exact⟨k+1,l,O,false,by omega,rfl,rfl,rfl,by go_num,by omega,f,j⟩
  ·have e:n.drop k=[]:=UM (by omega);have f:Hid (bV false n=O):=by
    show _=_;rw[<-u.out,e];cases b <;> simp[bV]
   go_wp2;go_ret;exact⟨l,by rw[f.out];rfl,by rw[f.out];exact F.out⟩
def bY(s:ByteArray):Bool:=(s.toList == [36,46])||(s.toList == [36,123])||(s.toList == [36,125])
def aP(n:Int)(s:ByteArray):Int :=
 if(s.toList == [36,125])=true then(if(s.toList == [36,123])=true then n+1 else n)-1 else(if(s.toList == [36,123])=true then n+1 else n)
def jP(L:List Tk):Int:=L.foldl (fun n t=>aP n t.s) 0
def du(L:List Tk):Bool:=match L.getLast? with
 | none=>true
 | some t=>bY t.s&&(jP L==0)
def eO(L:List Tk):Bool:=match L.getLast? with
 | none=>false
 | some t=>!(t.rule==0)
theorem Ep(h:T<n.length):jP (n.take (T+1))=aP (jP (n.take T)) n[T].s:=by
 unfold jP;rw[Ta h,Uj];rfl
set_option maxRecDepth 512
theorem uu :
  Calls prog 85 #[string b] H fun e a=>e=returned (bool (bY b))/\a=H:=by
 go_enter func85,ntmps85;go_wp2
 all_goals go_ret
 all_goals (refine⟨?_,rfl⟩;simp[bY, *])
set_option maxRecDepth 100000
theorem Eo(z:n.length<=100000)(o:lF H I T n) :
  Calls prog 168 #[slice I n.length T] H fun e x=>e=returned (int i64 (jP n))/\x=H:=by
 have p:=o.1;have q:Hid _:=o;clear o;go_enter func168,ntmps168;go_wp2
 go_loopg [3,4] n.length (fun g v i wr=>∃(k:Nat) (m:Int),k<=n.length/\g=n.length-k/\v=int i64 m/\i=int i64 k/\(-(k:Int)<=m/\m<=(k:Int))/\Hid (m=jP (n.take k))/\wr=H)
 case atStart=>exact⟨0,0,by omega,rfl,rfl,rfl,by omega,rfl,rfl⟩
 case round =>
  obtain⟨k,m,B,A,rfl,rfl,C,l,rfl⟩:=hrel;by_cases d:k<n.length
  ·obtain⟨y,rfl,s,w,-⟩:=q.out.2 k n[k] (RQ d);have c:Hid _:=Ep n k d;have u:(k:Int)<n.length:=(by omega);rw[<-l.out]at c;generalize n[k]=t at *;obtain⟨j,G,E,F,D⟩:=t;simp only at w c;cases f:(j.toList == [36,123])
   ·cases a:(j.toList == [36,125])
    ·have b:Hid (m=jP (n.take (k+1))):=(by show _=_;rw[c.out,aP,f,a];simp);go_wp2;go_roundg (n.length-(k+1))
     case measure=>omega
     case rel=>exact⟨k+1,m,by omega,rfl,rfl,by go_num,by omega,b,rfl⟩
    ·have b:Hid (m-1=jP (n.take (k+1))):=(by show _=_;rw[c.out,aP,f,a];simp);go_wp2;go_roundg (n.length-(k+1))
     case measure=>omega
     case rel=>exact⟨k+1,m-1,by omega,rfl,by go_num,by go_num,by omega,b,rfl⟩
   ·cases a:(j.toList == [36,125])
    ·have b:Hid (m+1=jP (n.take (k+1))):=(by show _=_;rw[c.out,aP,f,a];simp);go_wp2;go_roundg (n.length-(k+1))
     case measure=>omega
     case rel=>exact⟨k+1,m+1,by omega,rfl,by go_num,by go_num,by omega,b,rfl⟩
    ·have r:j.toList=[36,123]:=(by simpa using f);rw[r]at a;exact absurd a (by decide)
  ·have e:k=n.length:=(by omega);subst e;rw[Tr]at l;go_wp2;go_ret;exact⟨au l.out,rfl⟩
theorem Ag(l:n.length<=100000)(j:lF H I T n) :
  Calls prog 118 #[slice I n.length T] H fun e v=>e=returned (bool (du n))/\v=H:=by
 have g:=j.1;have d:Hid _:=Eo n I T H l j;obtain⟨a,c⟩:∃a,Hid (n.length=a):=⟨_,rfl⟩
 rw[c.out]at l g d ⊢;by_cases k:a=0
 ·have f:Hid (du n=true):=by
   show _=_;have:n=[]:=Sw (by rw[c.out,k]);rw[this];rfl
  subst k;go_enter func118,ntmps118;go_wp2;go_ret;exact⟨aE f.out.symm,rfl⟩
 ·have i:a-1<n.length:=by rw[c.out];omega
  obtain⟨B,rfl,o,r,-⟩:=j.2 (a-1) n[a-1] (RQ i);have f:Hid (du n=(bY n[a-1].s&&(jP n==0))):=by
   show _=_;unfold du;rw[Up,c.out,RQ i]
  generalize n[a-1]=t at *;obtain⟨u,G,E,F,C⟩:=t;simp only at r f;have q:IntKind.i64.wrap ((a:Int)-1)=(a:Int)-1:=by rw[TE];omega
  have p:((a:Int)-1).toNat=a-1:=by omega
  have x:(0:Int)<=(a:Int)-1:=by omega
  have y:(a:Int)-1<(a:Int):=by omega
  have z:(1:Int)<=(a:Int):=by omega
  have A:((a:Int)==0)=false:=by simpa using k
  obtain⟨D,m⟩:∃D,Hid (jP n=D):=⟨_,rfl⟩
  rw[m.out]at f d;go_enter func118,ntmps118;go_wp2_with (first | (go_at_call 168;refine(R0 d.out ?_);rintro e w ⟨rfl,b⟩;rw[b];clear b) | (go_at_call 85;refine(uu u _).mono ?_;rintro e w ⟨rfl,b⟩;rw[b];clear b))
  all_goals go_ret
  all_goals (refine⟨aE ?_,rfl⟩;rw[f.out];simp[*])
theorem vh(j:n.length<=100000)(g:lF H I T n) :
  Calls prog 84 #[slice I n.length T] H fun e p=>e=returned (bool (eO n))/\p=H:=by
 have c:=g.1;obtain⟨a,b⟩:∃a,Hid (n.length=a):=⟨_,rfl⟩
 rw[b.out]at j c ⊢;by_cases i:a=0
 ·have f:Hid (eO n=false):=by
   show _=_;have:n=[]:=Sw (by rw[b.out,i]);rw[this];rfl
  subst i;go_enter func84,ntmps84;go_wp2;go_ret;exact⟨aE f.out.symm,rfl⟩
 ·have d:a-1<n.length:=by rw[b.out];omega
  obtain⟨w,rfl,k,-,o,-⟩:=g.2 (a-1) n[a-1] (RQ d);have f:Hid (eO n=!(n[a-1].rule==0)):=by
   show _=_;unfold eO;rw[Up,b.out,RQ d]
  generalize n[a-1]=t at *;obtain⟨B,A,y,z,x⟩:=t;simp only at o f;have m:IntKind.i64.wrap ((a:Int)-1)=(a:Int)-1:=by rw[TE];omega
  have l:((a:Int)-1).toNat=a-1:=by omega
  have q:(0:Int)<=(a:Int)-1:=by omega
  have r:(a:Int)-1<(a:Int):=by omega
  have s:(1:Int)<=(a:Int):=by omega
  have u:(0:Int)<(a:Int):=by omega
  have v:0<a:=by omega
  go_enter func84,ntmps84;go_wp2
  all_goals go_ret
  all_goals (refine⟨aE ?_,rfl⟩;rw[f.out];first | rfl | simp[*])
def nH(w:World)(ao:Option Addr)(cap:Nat)(fs:Fs):Prop:=fs.length<=cap/\∀k,k<fs.length->∃g,ao=some ⟨g,0,none⟩/\g<w.heap.size/\w.cell? ⟨g,k*2,none⟩=some (string (aD fs k))/\w.cell? ⟨g,k*2+1,none⟩=some (string (ak fs k))
theorem nH.Wj(h:nH f y5 x y6)(k:aa [] f S):nH S y5 x y6:=by
 refine⟨h.1,fun j d=>?_⟩;obtain⟨g,e,a,b,c⟩:=h.2 j d;have q:∀o,S.cell? ⟨g,o,none⟩=f.cell? ⟨g,o,none⟩:=fun o=>Sh (k.block g a (by simp));exact⟨g,e,R6 a k.size,by rw[q];exact b,by rw[q];exact c⟩
set_option maxRecDepth 512
theorem mX(s:d.length<=100000)(j:nH H I z6 d) :
  Calls prog 36 #[slice I d.length z6,string b] H fun e q=>e=returned (int i64 (bM d b))/\q=H:=by
 have m:=j.1;have n:Hid _:=j;clear j;go_enter func36,ntmps36;go_wp2
 go_loopg [5] d.length (fun g i wr=>∃k:Nat,k<=d.length/\g=d.length-k/\i=int i64 k/\Hid (bM d b=dD b (d.drop k) k)/\wr=H)
 case atStart=>exact⟨0,by omega,by omega,rfl,rfl,rfl⟩
 case round =>
  obtain⟨k,u,t,rfl,a,rfl⟩:=hrel;by_cases c:k<d.length
  ·obtain⟨r,rfl,o,v,w⟩:=n.out.2 k c;have p:(k:Int)<d.length:=(by omega);cases l:((aD d k).toList==b.toList)
   ·have f:Hid (bM d b=dD b (d.drop (k+1)) (k+1)):=ze d b k c a.out l;clear a;go_wp2;go_roundg (d.length-(k+1))
    case measure=>omega
    case rel=>exact⟨k+1,by omega,rfl,by go_num,f,rfl⟩
   ·have f:Hid (bM d b=k):=Cl d b k c a.out l;clear a;go_wp2;go_ret;exact⟨au f.out.symm,rfl⟩
  ·have f:Hid (bM d b=-1):=zf d b k c a.out;clear a;go_wp2;go_ret;exact⟨au f.out.symm,rfl⟩
def dy(fs:Fs)(s:ByteArray)(r:Int):Int :=
 if(r==0)=false then r else if(s.toList == [])=true then 7 else if gW s ⟨#[36]⟩=true then 5 else if bM fs s<0 then 6 else 0
def dS(s:ByteArray)(r:Int):Int :=
 if(r==0)=false then r else if(s.toList == [])=true then 7 else if(s.toList == [36,93])=false then 5 else 0
set_option maxRecDepth 100000
theorem BN :
  Calls prog 120 #[agg #[string l,int i64 N,string b,int i64 m,int i64 i]] H fun e j=>e=returned (agg #[string ⟨#[]⟩,int i64 (dS l N),string b,int i64 m,int i64 i])/\aa [] H j:=by
 cases d:(N==0)
 ·have a:Hid (dS l N=N):=by show _=_;unfold dS;rw[RY d]
  rw[a.out];go_enter func120,ntmps120;go_wp2;exact Sa (v:=agg #[string ⟨#[]⟩,int i64 N,string b,int i64 m,int i64 i]) (by simp[results,results120,go_sem]) rfl ⟨rfl,((aa.refl _ _).alloc _).alloc _⟩
 ·have f:N=0:=by simpa using d
  subst f;clear d;cases c:(l.toList == [])
  ·cases g:(l.toList == [36,93])
   ·have a:Hid (dS l 0=5):=(by show _=_;unfold dS;rw[RU (by simp),RU (by rw[c];simp),RY g]);rw[a.out];go_enter func120,ntmps120;go_wp2;exact Sa (v:=agg #[string ⟨#[]⟩,int i64 5,string b,int i64 m,int i64 i]) (by simp[results,results120,go_sem]) rfl ⟨rfl,((aa.refl _ _).alloc _).alloc _⟩
   ·have a:Hid (dS l 0=0):=(by show _=_;unfold dS;rw[RU (by simp),RU (by rw[c];simp),RU (by rw[g];simp)]);rw[a.out];go_enter func120,ntmps120;go_wp2;exact Sa (v:=agg #[string ⟨#[]⟩,int i64 0,string b,int i64 m,int i64 i]) (by simp[results,results120,go_sem]) rfl ⟨rfl,((aa.refl _ _).alloc _).alloc _⟩
  ·have a:Hid (dS l 0=7):=(by show _=_;unfold dS;rw[RU (by simp),RY c]);rw[a.out];go_enter func120,ntmps120;go_wp2;exact Sa (v:=agg #[string ⟨#[]⟩,int i64 7,string b,int i64 m,int i64 i]) (by simp[results,results120,go_sem]) rfl ⟨rfl,((aa.refl _ _).alloc _).alloc _⟩
theorem E1(w:d.length<=100000)(x:nH H I z6 d)(y:l.size<=1073741824) :
  Calls prog 119 #[slice I d.length z6,agg #[string l,int i64 N,string b,int i64 m,int i64 i]] H fun e t=>e=returned (agg #[string ⟨#[]⟩,int i64 (dy d l N),string b,int i64 m,int i64 i])/\aa [] H t:=by
 have c:Hid (∀n,aa [] H n->Calls prog 36 #[slice I d.length z6,string l] n fun e t=>e=returned (int i64 (bM d l))/\t=n):=fun n k=>mX d I z6 l n w (x.Wj k);obtain⟨p,j⟩:∃p,Hid (bM d l=p):=⟨_,rfl⟩
 rw[j.out]at c;cases r:(N==0)
 ·have f:Hid (dy d l N=N):=by show _=_;unfold dy;rw[RY r]
  rw[f.out];go_enter func119,ntmps119;go_wp2_with (first | (go_at_call 121;refine(fS l _ _ (by omega) (by show 1<=_;omega)).mono ?_;rintro e g ⟨rfl,a⟩;rw[a];clear a) | (go_at_call 36;refine(c.out _ (by exact((aa.refl [] H).alloc _).alloc _)).mono ?_;rintro e g ⟨rfl,a⟩;rw[a];clear a));exact Sa (v:=agg #[string ⟨#[]⟩,int i64 N,string b,int i64 m,int i64 i]) (by simp[results,results119,go_sem]) rfl ⟨rfl,((aa.refl _ _).alloc _).alloc _⟩
 ·have s:N=0:=by simpa using r
  subst s;clear r;cases o:(l.toList == [])
  ·cases q:gW l ⟨#[36]⟩
   ·by_cases u:p<0
    ·have f:Hid (dy d l 0=6):=(by show _=_;unfold dy;rw[RU (by simp),RU (by rw[o];simp),RU (by rw[q];simp),j.out,RY u]);rw[f.out];go_enter func119,ntmps119;go_wp2_with (first | (go_at_call 121;refine(fS l _ _ (by omega) (by show 1<=_;omega)).mono ?_;rintro e g ⟨rfl,a⟩;rw[a];clear a) | (go_at_call 36;refine(c.out _ (by exact((aa.refl [] H).alloc _).alloc _)).mono ?_;rintro e g ⟨rfl,a⟩;rw[a];clear a));exact Sa (v:=agg #[string ⟨#[]⟩,int i64 6,string b,int i64 m,int i64 i]) (by simp[results,results119,go_sem]) rfl ⟨rfl,((aa.refl _ _).alloc _).alloc _⟩
    ·have f:Hid (dy d l 0=0):=(by show _=_;unfold dy;rw[RU (by simp),RU (by rw[o];simp),RU (by rw[q];simp),j.out,RU u]);rw[f.out];go_enter func119,ntmps119;go_wp2_with (first | (go_at_call 121;refine(fS l _ _ (by omega) (by show 1<=_;omega)).mono ?_;rintro e g ⟨rfl,a⟩;rw[a];clear a) | (go_at_call 36;refine(c.out _ (by exact((aa.refl [] H).alloc _).alloc _)).mono ?_;rintro e g ⟨rfl,a⟩;rw[a];clear a));exact Sa (v:=agg #[string ⟨#[]⟩,int i64 0,string b,int i64 m,int i64 i]) (by simp[results,results119,go_sem]) rfl ⟨rfl,((aa.refl _ _).alloc _).alloc _⟩
   ·have f:Hid (dy d l 0=5):=(by show _=_;unfold dy;rw[RU (by simp),RU (by rw[o];simp),RY q]);rw[f.out];go_enter func119,ntmps119;go_wp2_with (first | (go_at_call 121;refine(fS l _ _ (by omega) (by show 1<=_;omega)).mono ?_;rintro e g ⟨rfl,a⟩;rw[a];clear a) | (go_at_call 36;refine(c.out _ (by exact((aa.refl [] H).alloc _).alloc _)).mono ?_;rintro e g ⟨rfl,a⟩;rw[a];clear a));exact Sa (v:=agg #[string ⟨#[]⟩,int i64 5,string b,int i64 m,int i64 i]) (by simp[results,results119,go_sem]) rfl ⟨rfl,((aa.refl _ _).alloc _).alloc _⟩
  ·have f:Hid (dy d l 0=7):=(by show _=_;unfold dy;rw[RU (by simp),RY o]);rw[f.out];go_enter func119,ntmps119;go_wp2_with (first | (go_at_call 121;refine(fS l _ _ (by omega) (by show 1<=_;omega)).mono ?_;rintro e g ⟨rfl,a⟩;rw[a];clear a) | (go_at_call 36;refine(c.out _ (by exact((aa.refl [] H).alloc _).alloc _)).mono ?_;rintro e g ⟨rfl,a⟩;rw[a];clear a));exact Sa (v:=agg #[string ⟨#[]⟩,int i64 7,string b,int i64 m,int i64 i]) (by simp[results,results119,go_sem]) rfl ⟨rfl,((aa.refl _ _).alloc _).alloc _⟩
def vC(L:List Tk):Prop:=∃t,L.getLast?=some t/\(t.s.toList == [])=true
theorem vC.next(h:vC a)(i:Nat)(t:Tk)(c:a[i]?=some t)(d:(t.s.toList == [])=false):i+1<a.length:=by
 obtain⟨u,b,f⟩:=h;obtain⟨g,-⟩:=R8.1 c;rw[Up]at b;by_cases e:i=a.length-1
 ·rw[<-e,c]at b;cases b
  rw[f]at d;cases d
 ·omega
theorem ut{t:Tk}(h:vC a):vC (t :: a):=by
 obtain⟨u,b,c⟩:=h;cases a with
 | nil=>cases b
 | cons d r=>exact⟨u,by rw[V3];exact b,c⟩
theorem pa:((⟨#[]⟩:ByteArray).toList == [])=true:=by decide +kernel
theorem Ce:vC [⟨⟨#[]⟩,N,b,m,i⟩]:=⟨_,rfl,pa⟩
theorem KN:vC (iA l b):=by
 unfold iA;split
 ·exact⟨_,Uv,pa⟩
 ·exact⟨_,Uv,pa⟩
theorem Ix(b:Bool)(L:List Tk)(h:vC L):vC (bV b L):=by
 induction L generalizing b with
 | nil=>obtain⟨u,c,-⟩:=h;cases c
 | cons t r g =>
  cases r with
  | nil =>
   obtain⟨u,c,d⟩:=h;have e:u=t:=(by simpa using c.symm);subst e;have i:u.s.toList=[]:=by simpa using d
   cases b
   ·rw[bV,RU (by unfold DP;rw[i];decide)];exact⟨u,rfl,d⟩
   ·rw[bV];split
    ·exact⟨u,rfl,d⟩
    ·rw[RU (by unfold DP;rw[i];decide),RY (by unfold DP;exact d)];exact Ce _ _ _ _
  | cons a r =>
   have f:vC (a :: r):=by
    obtain⟨u,c,d⟩:=h;exact⟨u,by rw[V3]at c;exact c,d⟩
   cases b
   ·rw[bV];split
    ·exact g true f
    ·exact ut (g false f)
   ·rw[bV];split
    ·exact ut (g true f)
    ·split
     ·exact g false f
     ·split
      ·exact ut (g true f)
      ·split
       ·exact Ce _ _ _ _
       ·exact g true f
def rD(fs:Fs)(k:Nat):List Tk:=bV false (iA (aD fs k) (ak fs k))
theorem Nx:vC (rD d T):=Ix _ _ (KN _ _)
theorem DB:(rD d T).length<=(ak d T).size+2:=Sc (Ls _ _) (zU _ _)
def rr(t:Tk)(r:Int):Tk:=⟨⟨#[]⟩,r,t.file,t.line,t.col⟩
def cN(rec:Nat->List Bool->List Tk->List Tk×List Bool)(fs:Fs):List Tk->List Bool->List Tk->List Tk×List Bool
 | [],sn,out=>(out,sn)
 | t :: r,sn,out =>
  if((t.rule==0)&&(t.s.toList == []))=true then((if du out=true then out else out++[rr t 7]),sn)
  else if(t.s.toList == [36,91])=false then cN rec fs r sn (out++[t])
  else if du out=false then(out++[rr t 4],sn)
  else match r with
   | a :: b :: r' =>
    if(dy fs a.s a.rule==0)=false then(out++[rr a (dy fs a.s a.rule)],sn)
    else if(dS b.s b.rule==0)=false then(out++[rr b (dS b.s b.rule)],sn)
    else if sn.getD (bM fs a.s).toNat true=true then cN rec fs r' sn out
    else if eO (rec (bM fs a.s).toNat sn out).1=true then rec (bM fs a.s).toNat sn out
    else cN rec fs r' (rec (bM fs a.s).toNat sn out).2 (rec (bM fs a.s).toNat sn out).1
   | [a]=>(out++[rr a (dy fs a.s a.rule)],sn)
   | []=>(out,sn)
def eD(fs:Fs):Nat->Nat->List Bool->List Tk->List Tk×List Bool
 | 0,_,sn,out=>(out,sn)
 | n+1,k,sn,out=>cN (eD fs n) fs (rD fs k) (sn.set k true) out
def aU(sn:List Bool):Nat:=sn.countP (fun b=>!b)
theorem lT(a:List Bool)(k:Nat)(h:a[k]?=some false):aU (a.set k true)+1=aU a:=by
 unfold aU
 induction a generalizing k with
 | nil=>cases h
 | cons b r c =>
  cases k with
  | zero =>
   simp at h;subst h;simp
  | succ k =>
   have:=c k (by simpa using h);rw[TZ,List.countP_cons,List.countP_cons];omega
def jN(w:World)(g:Nat)(sn:List Bool):Prop:=w.heap[g]?=some (.cells (sn.map bool).toArray 4)
theorem jN.cell(h:jN f x z5)(k:Nat)(b:Bool)(a:z5[k]?=some b):f.cell? ⟨x,k,none⟩=some (bool b):=by
 rw[aj h];simp[a]
theorem jN.kept(h:jN f x z5)(k:aa y7 f S)(a:x∉y7):jN S x z5:=k.get h a
theorem jN.set(h:jN f x z5)(k:Nat):jN (f.setCell ⟨x,k,none⟩ (bool true)) x (z5.set k true):=by
 unfold jN;rw[ah h];simp[List.map_set]
theorem FS(a:List Bool)(k:Nat)(h:a[k]?=some false):0<aU a:=by
 have:=lT a k h;omega
structure yj(w w':World)(gs:Nat)(h h':Hd):Prop where
 kept:aa (gs :: h.blk.toList) w w'
 blk:h'.blk=h.blk∨∃g,h'.blk=some g/\w.heap.size<=g
theorem yj.of(g:bI f S y s):yj f S x y s:=⟨g.kept.mono (fun _ a _=>Sx _ a),g.blk⟩
theorem yj.trans{w1:World}(a:yj f w1 x y s)(b:yj w1 S x s zt):yj f S x y zt:=by
 refine⟨⟨b.kept.os.trans a.kept.os,b.kept.tape.trans a.kept.tape,b.kept.output.trans a.kept.output,Sc a.kept.size b.kept.size,fun k l i=>?_⟩,?_⟩
 ·rw[b.kept.block k (R6 l a.kept.size) (fun j=>?_),a.kept.block k l i];rcases Sv.1 j with e | j
  ·exact i (by rw[e];simp)
  ·have e:=aQ j;rcases a.blk with c | ⟨g,c,d⟩
   ·exact i (Sx _ (by rw[<-c,e];simp))
   ·rw[c]at e;cases e;omega
 ·rcases b.blk with e | ⟨g,e,d⟩
  ·rcases a.blk with c | ⟨g,c,d⟩
   ·exact R4 (e.trans c)
   ·exact RZ ⟨g,e.trans c,d⟩
  ·exact RZ ⟨g,e,Sc a.kept.size d⟩
structure vE(w:World)(gf cap:Nat)(fs:Fs)(gs:Nat)(sn:List Bool)(h:Hd)(O:List Tk):Prop where
 own:aC w h (iV O)
 seen:jN w gs sn
 src:nH w (some ⟨gf,0,none⟩) cap fs
 a1:h.blk≠some gs
 a2:h.blk≠some gf
 a3:gf≠gs
 lt:gf<w.heap.size
theorem nH.kept(h:nH f (some ⟨x,0,none⟩) y8 y6)(k:aa y7 f S)(i:x∉y7):nH S (some ⟨x,0,none⟩) y8 y6:=by
 refine⟨h.1,fun j l=>?_⟩;obtain⟨g,e,a,b,c⟩:=h.2 j l;have d:g=x:=by cases e;rfl
 subst d;have q:∀o,S.cell? ⟨g,o,none⟩=f.cell? ⟨g,o,none⟩:=fun o=>Sh (k.block g a i);exact⟨g,rfl,R6 a k.size,by rw[q];exact b,by rw[q];exact c⟩
section
variable {w w':World} {gf cap:Nat} {fs:Fs} {gs:Nat} {sn sn':List Bool} {h h':Hd} {O O':List Tk}
theorem vE.Wj(a:vE w gf cap fs gs sn h O)(k:aa [] w w'):vE w' gf cap fs gs sn h O :=
 ⟨a.own.Wj k,a.seen.kept k (by simp),a.src.kept k (by simp),a.a1,a.a2,a.a3,R6 a.lt k.size⟩
theorem vE.far(a:vE w gf cap fs gs sn h O)(r:yj w w' gs h h'):h'.blk≠some gs/\h'.blk≠some gf:=by
 have c:=ae a.seen;have d:=a.lt;rcases r.blk with e | ⟨g,e,b⟩
 ·rw[e];exact⟨a.a1,a.a2⟩
 ·rw[e];exact⟨fun q=>by cases q;omega,fun q=>by cases q;omega⟩
theorem vE.turn(a:vE w gf cap fs gs sn h O)(r:yj w w' gs h h')(o:aC w' h' (iV O'))(s:jN w' gs sn'):vE w' gf cap fs gs sn' h' O':=by
 obtain⟨c,d⟩:=a.far r;refine⟨o,s,a.src.kept r.kept (fun b=>?_),c,d,a.a3,R6 a.lt r.kept.size⟩;rcases Sv.1 b with e | b
 ·exact a.a3 e
 ·exact a.a2 (aQ b)
end
theorem KJ:(b.extract k T).size<=b.size:=by rw[UL];omega
theorem yc(h:∀t∈g,t.s.size<=b.size):∀t∈jA l b k T g,t.s.size<=b.size:=by
 intro t a;unfold jA at a;split at a
 ·exact h t a
 ·rcases SB.1 a with a | a
  ·exact h t a
  ·rw[Se.1 a];exact KJ b k T
theorem zP(i:Nat):∀t∈jz l b i,t.s.size<=b.size:=by
 induction i with
 | zero=>intro t c;cases c
 | succ i a =>
  rw[jz];split
  ·exact yc l b _ _ _ a
  ·exact a
theorem yi:∀t∈iA l b,t.s.size<=b.size:=by
 intro t a;unfold iA at a;split at a
 ·rcases SB.1 a with a | a
  ·exact zP l b _ t a
  ·rw[Se.1 a];exact SE _
 ·rcases SB.1 a with a | a
  ·exact yc l b _ _ _ (zP l b _) t a
  ·rw[Se.1 a];exact SE _
theorem Iz(b:Bool)(L:List Tk)(h:∀t∈L,t.s.size<=T):∀t∈bV b L,t.s.size<=T:=by
 induction L generalizing b with
 | nil=>intro t c;cases b <;> simp[bV]at c
 | cons a r g =>
  have d:=fun b=>g b (fun t c=>h t (Sx _ c));have f:=h a (by simp);intro t c;cases b
  ·rw[bV]at c;split at c
   ·exact d _ t c
   ·rcases Sv.1 c with e | c
    ·rw[e];exact f
    ·exact d _ t c
  ·rw[bV]at c;split at c
   ·rcases Sv.1 c with e | c
    ·rw[e];exact f
    ·exact d _ t c
   ·split at c
    ·exact d _ t c
    ·split at c
     ·rcases Sv.1 c with e | c
      ·rw[e];exact SE _
      ·exact d _ t c
     ·split at c
      ·rw[Se.1 c];exact SE _
      ·exact d _ t c
theorem Ky:∀t∈rD d T,t.s.size<=(ak d T).size:=Iz _ _ _ (yi _ _)
end Go.Proofs.YtnbhnocdhbcbcaaGreat
