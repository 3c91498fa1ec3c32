import Derived.Test.YtpddjjabfbfifaaGreatG08
namespace Go.Proofs.YtpddjjabfbfifaaGreat
open Go.RowKit Tryz
set_option maxRecDepth 100000
set_option maxHeartbeats 40000000
variable{T g:World}{S i z4:Nat}{x:List St}{o:Nat->Hd}{D y2:List Rw}{zt:List Nat}{y0:Fs}(z6:World)(z7:Int)(I k n:Nat)(w:List St)(a:Nat->Hd)(M:Fs)(y1:List Value)(l:Nat)(v:List Rw)(y3:Pl)(f:St)(L:Nat)(y:List Nat)(N:Hd)(d:List nE)(z5:ByteArray)(zb:Hd)(H:World)(y4 y5 y6 y7:Value)(b:Nat)
structure kB(w:World)(b o:Nat)(l:List St)(H:Nat->Hd)(g:Nat)(L:List Rw):Prop where
 recd:dF w b o l H
 cell:∃arr t,w.heap[b]?=some (.cells arr t (0,0))/\arr[o+2]?=some (.slice (some ⟨g,0,none⟩) L.length L.length)
 arr:w.heap[g]?=some (.cells (kK L).toArray 38 (0,0))
theorem kB.Va(h:kB T S i x o z4 D)(k:ab [] T g):kB g S i x o z4 D:=by
 obtain⟨a,t,c,b⟩:=h.cell;exact⟨h.recd.Va k,⟨a,t,k.get c (by simp),b⟩,k.get h.arr (by simp)⟩
theorem kB.at2(h:kB T S i x o z4 D):T.cell? ⟨S,i+2,none⟩=some (.slice (some ⟨z4,0,none⟩) D.length D.length):=by
 obtain⟨b,t,c,a⟩:=h.cell;rw[aa c];exact a
theorem kB.row(h:kB T S i x o z4 D)(k:Nat)(b:k<D.length) :
  T.cell? ⟨z4,k*6,none⟩=some (.string D[k].label)/\T.cell? ⟨z4,k*6+1,none⟩=some (.int .i64 D[k].Vb)/\T.cell? ⟨z4,k*6+2,none⟩=some (.int .i64 D[k].why)/\T.cell? ⟨z4,k*6+3,none⟩=some (.string D[k].at_.file)/\T.cell? ⟨z4,k*6+4,none⟩=some (.int .i64 D[k].at_.line)/\T.cell? ⟨z4,k*6+5,none⟩=some (.int .i64 D[k].at_.col):=by
 have c:=fun j (a:j<6) v (d:(mK D[k])[j]?=some v)=>(aa h.arr (k*6+j)).trans ((by simp only[List.getElem?_toArray];exact(GH D k b j a).trans d))
 exact⟨c 0 (by omega) _ rfl,c 1 (by omega) _ rfl,c 2 (by omega) _ rfl,c 3 (by omega) _ rfl,c 4 (by omega) _ rfl,c 5 (by omega) _ rfl⟩
def oZ(L:List Rw)(n:Nat):Int:=(L.getD n qc).Vb
theorem Dk(h:kB H I k w a l v) :
  Calls prog 95 #[.pointer (some ⟨I,k,none⟩),.int .i64 n] H fun e f=>e=.returned (.int .i64 (oZ v n))/\f=H:=by
 have i:=h.at2
 by_cases b:n<v.length
 ·have d:Hid (oZ v n=v[n].Vb):=by show _=_;unfold oZ;rw[QP,QO b];rfl
  obtain⟨-,g,-,-,-,-⟩:=h.row n b;have c:¬((n:Int) ≥ v.length):=by omega
  go_enter func95,ntmps95;go_wp2;go_ret;exact⟨QM (by rw[d.out]),rfl⟩
 ·have d:Hid (oZ v n=0):=by show _=_;unfold oZ;rw[QP,Rv (by omega)];rfl
  have c:(n:Int) ≥ v.length:=by omega
  go_enter func95,ntmps95;go_wp2;go_ret;exact⟨QM (by rw[d.out]),rfl⟩
def Fu(steps:List nE):Option Nat:=(List.range steps.length).find? (fun i=>match steps[i]? with | some s=>s.kind==1 | none=>false)
theorem tT(q:aw H N (go d))(x:d.length<=1073741824) :
  Calls prog 161 #[.slice N.ao d.length N.cap] H fun e v=>e=.returned (.int .i64 (nz (Fu d)))/\v=H:=by
 obtain⟨h,c⟩:∃h,Hid (N.ao=h):=⟨_,rfl⟩
 rw[c.out];go_enter func161,ntmps161;go_wp2
 go_loopg [3] d.length (fun g i wr=>∃k:Nat,k<=d.length/\g=d.length-k/\i=.int .i64 k/\Hid (∀i,i<k->(match d[i]? with | some s=>s.kind==1 | none=>false)=false)/\wr=H)
 case atStart=>exact⟨0,by omega,by omega,rfl,fun i m=>by omega,rfl⟩
 case round =>
  obtain⟨k,w,z,rfl,a,rfl⟩:=hrel
  by_cases b:k<d.length
  ·obtain⟨u,o,n,j,y,-⟩:=q.step k b
   obtain rfl:h=some ⟨u,0,none⟩:=c.out.symm.trans o;clear o;have f:Hid (d[k]?=some d[k]):=QO b;generalize d[k]=r at *
   cases p:(r.kind==1)
   ·have t:Hid (∀i,i<k+1->(match d[i]? with | some s=>s.kind==1 | none=>false)=false):=by
     intro i m
     by_cases e:i=k
     ·subst e;rw[f.out];exact p
     ·exact a.out i (by omega)
    clear f a;go_wp2
    go_roundg (d.length-(k+1))
    case measure=>omega
    case rel=>exact⟨k+1,by omega,rfl,by go_num,t,rfl⟩
   ·have l:Hid (Fu d=some k):=nU b (by rw[f.out];exact p) a.out
    clear f a;go_wp2;go_ret;exact⟨QM (by rw[l.out];rfl),rfl⟩
  ·have l:Hid (Fu d=none):=mH (fun i m=>a.out i (by omega))
   clear a;go_wp2;go_ret;exact⟨QM (by rw[l.out];rfl),rfl⟩
def DG(v:Int):Bool:=v==2||v==3||v==4
def pk(L:List Rw)(steps:List nE):Bool:=steps.all (fun s=>!(s.kind==2) || !(DG (oZ L s.U6)))
theorem N4(a:b<d.length)(c:(d[b].kind==2)=true)(f:DG (oZ v d[b].U6)=true):pk v d=false:=by
 cases e:pk v d
 ·rfl
 ·unfold pk at e;rw[Sk]at e
  have:=e _ (Ra a);rw[c,f]at this;cases this
theorem Mh(h:∀k (a:k<d.length),(!(d[k].kind==2) || !(DG (oZ v d[k].U6)))=true):pk v d=true:=by
 unfold pk;rw[Sk];intro x b;obtain⟨k,a,rfl⟩:=RZ b;exact h k a
theorem Mg(h:kB H k n w a l v)(K:aw H N (go d))(M:d.length<=1100000) :
  Calls prog 163 #[.pointer (some ⟨k,n,none⟩),.slice N.ao d.length N.cap] H fun e P=>e=.returned (.bool (pk v d))/\P=H:=by
 obtain⟨z,r⟩:∃z,Hid (N.ao=z):=⟨_,rfl⟩
 rw[r.out];go_enter func163,ntmps163;go_wp2
 go_loopg [5] d.length (fun l i wr=>∃b:Nat,b<=d.length/\l=d.length-b/\i=.int .i64 b/\Hid (∀i (p:i<d.length),i<b->(!(d[i].kind==2) || !(DG (oZ v d[i].U6)))=true)/\wr=H)
 case atStart=>exact⟨0,by omega,by omega,rfl,fun i _ p=>by omega,rfl⟩
 case round =>
  obtain⟨b,Q,T,rfl,j,rfl⟩:=hrel
  by_cases s:b<d.length
  ·obtain⟨O,G,F,B,R,S,-⟩:=K.step b s
   obtain rfl:z=some ⟨O,0,none⟩:=r.out.symm.trans G;clear G
   have f:Hid ((!(d[b].kind==2) || !(DG (oZ v d[b].U6)))=true->∀i (p:i<d.length),i<b+1->(!(d[i].kind==2) || !(DG (oZ v d[i].U6)))=true):=by
    intro J i p L
    by_cases e:i=b
    ·subst e;exact J
    ·exact j.out i p (by omega)
   have c:=hI (N4 v d b s);have t:=Dk k n d[b].U6 w a l v wr h;clear j;generalize d[b]=x at *
   cases q:(x.kind==2)
   ·have A:(x.kind != 2)=true:=by simp[bne,q]
    have C:=hI (f.out (by rw[q];rfl));clear f c t;go_wp2
    go_roundg (d.length-(b+1))
    case measure=>omega
    case rel=>exact⟨b+1,by omega,rfl,by go_num,C.out,rfl⟩
   ·have A:(x.kind != 2)=false:=by simp[bne,q]
    have m:Hid (∀y,DG y=(y==2||y==3||y==4)):=fun _=>rfl
    generalize oZ v x.U6=V at *
    cases u:(V==2)
    ·cases D:(V==3)
     ·cases I:(V==4)
      ·have C:=hI (f.out (by rw[m.out,u,D,I];simp))
       clear f c;go_wp2_with (go_at_call 95;refine t.mono ?_;rintro e E ⟨rfl,g⟩;rw[g])
       go_roundg (d.length-(b+1))
       case measure=>omega
       case rel=>exact⟨b+1,by omega,rfl,by go_num,C.out,rfl⟩
      ·have o:=hI (c.out q (by rw[m.out,u,D,I];rfl))
       clear f c;go_wp2_with (go_at_call 95;refine t.mono ?_;rintro e E ⟨rfl,g⟩;rw[g]);go_ret;exact⟨aD o.out.symm,rfl⟩
     ·have o:=hI (c.out q (by rw[m.out,u,D];rfl))
      clear f c;go_wp2_with (go_at_call 95;refine t.mono ?_;rintro e E ⟨rfl,g⟩;rw[g]);go_ret;exact⟨aD o.out.symm,rfl⟩
    ·have o:=hI (c.out q (by rw[m.out,u];rfl))
     clear f c;go_wp2_with (go_at_call 95;refine t.mono ?_;rintro e E ⟨rfl,g⟩;rw[g]);go_ret;exact⟨aD o.out.symm,rfl⟩
  ·have o:Hid (pk v d=true):=Mh v d (fun i p=>j.out i p (by omega))
   clear j;go_wp2;go_ret;exact⟨aD o.out.symm,rfl⟩
theorem yp{t:ByteArray}(h:mx x t S=some i):i<x.length:=by
 unfold mx at h;have:=Ry h;simpa using this
def FM(l:List St)(s:nE):Prop:=s.U6<=1020000/\((s.kind==3)=false->s.U6<l.length)
theorem IY(i:0<w.length)(j:w.length<=10000)(c:List (ByteArray×Pl))(a:List nE)(h:∀s∈a,FM w s)(N:Nat)(f:a.length<=N) :
  (∀s∈(fL w l y3 c a).1,FM w s)/\(fL w l y3 c a).1.length<=N+c.length:=by
 induction c generalizing a N with
 | nil =>
  rw[fL]
  split
  ·exact⟨by simp,by simp⟩
  ·exact⟨h,by simpa using f⟩
 | cons x r e =>
  obtain⟨t,p⟩:=x;rw[fL]
  split
  ·have:=e (a++[⟨1,0,p⟩]) (by intro s b;simp at b;rcases b with b | rfl;exact h s b;exact⟨by simp,fun _=>i⟩) (N+1) (by simp;omega)
   exact⟨this.1,by have:=this.2;simp;omega⟩
  ·split
   ·exact⟨by simp,by simp⟩
   ·next n g =>
    have d:=yp g;have:=e (a++[⟨2,n,p⟩]) (by intro s b;simp at b;rcases b with b | rfl;exact h s b;exact⟨by simp only;omega,fun _=>d⟩) (N+1) (by simp;omega);exact⟨this.1,by have:=this.2;simp;omega⟩
structure xA(l:List St)(c:me):Prop where
 names:∀n∈c.names,n<l.length
 tagged:∀n∈c.tagged,n<=1020000
 steps:∀s∈c.steps,FM l s
theorem xA.letter{c:me}(g:xA x c)(h:gu c S)(i:0<x.length)(j:x.length<=10000)(k:S<=1020000)(n:Nat)(p:Pl):xA x (cD c n p).2:=by
 have l:=h.steps;unfold cD
 split
 ·unfold kE eC
  split
  ·next b =>
   refine⟨g.names,g.tagged,?_⟩;intro s a;simp at a
   rcases a with a | rfl
   ·exact g.steps s a
   ·have:=g.names _ (Ra b)
    rw[QO b];exact⟨by simp only[UN];omega,fun _=>this⟩
  ·split
   ·next b =>
    refine⟨g.names,g.tagged,?_⟩;intro s a;simp at a
    rcases a with a | rfl
    ·exact g.steps s a
    ·have:=g.tagged _ (Ra b)
     rw[QO b];exact⟨this,fun e=>by simp at e⟩
   ·exact⟨g.names,g.tagged,g.steps⟩
 ·split
  ·unfold mM
   split <;> exact⟨g.names,g.tagged,g.steps⟩
  ·split
   ·refine⟨g.names,?_,g.steps⟩
    intro f d;simp at d
    rcases d with d | rfl
    ·exact g.tagged f d
    ·omega
   ·split
    ·refine⟨g.names,g.tagged,?_⟩
     intro s a;simp[eC]at a
     rcases a with a | rfl
     ·exact g.steps s a
     ·exact⟨by simp,fun _=>i⟩
    ·exact g
theorem AN(n:0<x.length)(b:x.length<=10000)(t:ByteArray)(p:Pl)(f:Nat):∀(j:Nat) (c:me) (N:Nat),xA x c->gu c (N+j)->j<=t.size->N+t.size<=1020000->xA x (iQ t p f j c).2:=by
 induction f with
 | zero=>intro j c N g h i d;exact g
 | succ f m =>
  intro j c N g h i d;rw[iQ]
  split
  ·next k =>
   have l:=h.letter (aF t j).toNat { p with col:=p.col+j };have e:=g.letter h n b (by omega) (aF t j).toNat { p with col:=p.col+j }
   split
   ·exact m (j+1) _ N e (by rw[<-U0];exact l) (by omega) d
   ·exact e
  ·exact g
theorem AQ(l:0<x.length)(d:x.length<=10000)(a:List (ByteArray×Pl)):∀(c:me) (N:Nat),xA x c->gu c N->N+kp a<=1020000->xA x (tC a c).2/\gu (tC a c).2 1020000:=by
 induction a with
 | nil=>intro c N g h b;exact⟨g,h.mono (by simp[kp]at b;omega)⟩
 | cons i r k =>
  intro c N g h b;obtain⟨t,p⟩:=i;have j:kp ((t,p) :: r)=t.size+kp r:=by simp[kp]
  rw[j]at b;have e:xA x (mS t p c).2:=AN l d t p _ 0 c N g h (Rn _) (by omega);have f:=zp t p h;rw[tC]
  split
  ·exact k _ (N+t.size) e f (by omega)
  ·exact⟨e,f.mono (by omega)⟩
theorem DK(c:List (ByteArray×Pl))(i:Nat)(b:List Nat)(h:∀n∈b,n<w.length):∀n∈(dD w l y3 i c b).2,n<w.length:=by
 induction c generalizing i b with
 | nil=>exact h
 | cons x r e =>
  obtain⟨t,p⟩:=x;rw[dD]
  split
  ·exact h
  ·split
   ·exact h
   ·next n d =>
    split
    ·exact h
    ·exact e (i+1) (b++[n]) (by intro m a;simp at a;rcases a with a | rfl;exact h m a;exact yp d)
theorem Pn(c:iH w)(q:b<w.length)(i:x9 w[b]):FQ w (lu w b w[b]).1:=by
 have k:0<w.length:=by omega
 have m:=c.prfs b q;have o:=i.size
 have a:(∀s∈(lu w b w[b]).1,FM w s)/\(lu w b w[b]).1.length<=1100000:=by
  unfold lu
  split
  ·unfold lJ F7
   have h:=Bn w b w[b] c.len m;have j:xA w ⟨(dD w b w[b].fin 1 (w[b].proof.drop 1) (aK w b)).2,[],[],0,false⟩:=⟨DK w b w[b].fin _ 1 _ (fun n p=>BU p),by simp,by simp⟩;generalize dD w b w[b].fin 1 (w[b].proof.drop 1) (aK w b)=l at *;obtain⟨⟨d,f⟩,g⟩:=l;simp only at h j ⊢
   have rB:xA w (Gx f (w[b].proof.drop d) ⟨g,[],[],0,false⟩).2/\gu (Gx f (w[b].proof.drop d) ⟨g,[],[],0,false⟩).2 1020000:=by
    unfold Gx
    split
    ·exact AQ k c.len _ _ 20000 j h (by have:=C0 w[b].proof d;omega)
    ·exact⟨j,h.mono (by omega)⟩
   generalize Gx f (w[b].proof.drop d) ⟨g,[],[],0,false⟩=R at *;unfold uE
   split
   ·split
    ·split
     ·exact⟨by simp,by simp⟩
     ·exact⟨rB.1.steps,by have:=rB.2.steps;simp only;omega⟩
    ·exact⟨by simp,by simp⟩
   ·exact⟨by simp,by simp⟩
  ·have:=IY w b w[b].fin k c.len w[b].proof [] (by simp) 0 (by simp)
   exact⟨this.1,by have:=this.2;omega⟩
 exact⟨a.2,fun s e=>by have:=(a.1 s e).1;omega,fun s e=>(a.1 s e).2⟩
section
theorem By(l c u:Int)(a f:ByteArray)(h e:Option Addr)(d b i g:Nat) :
    (Instr.field 158 (.agg #[.int .i64 z7,.string a,.slice h d b,.slice e i g,.string f,.int .i64 l,.int .i64 c,.int .i64 u]) 1).run prog z6=.ok (.string a) z6:=by kernel_rfl
attribute [local go_sem] By
def nu(label:ByteArray)(L:List Rw)(steps:List nE)(f:pv):Rw :=
  if(f.1==0)=true then
    (match Fu steps with
     | some u=>⟨label,3,0,((steps[u]?).map nE.at_).getD kR⟩
     | none=>if pk L steps=true then⟨label,5,0,kR⟩ else⟨label,4,0,kR⟩)
  else⟨label,2,f.1,f.2⟩
def iC(l:List St)(n:Nat)(s:St)(L:List Rw):Rw :=
  nu s.label L (lu l n s).1 (if(Fu (lu l n s).1).isNone=true/\((lu l n s).2.1==0)=true then gJ l n s (lu l n s).1 else(lu l n s).2)
theorem dY{x:Rw}(h:T.heap[S]?=some (.cells (mK x).toArray 38 (0,0))) :
    T.cell? ⟨S,0,none⟩=some (.string x.label)/\T.cell? ⟨S,1,none⟩=some (.int .i64 x.Vb)/\T.cell? ⟨S,2,none⟩=some (.int .i64 x.why)/\T.cell? ⟨S,3,none⟩=some (.string x.at_.file)/\T.cell? ⟨S,4,none⟩=some (.int .i64 x.at_.line)/\T.cell? ⟨S,5,none⟩=some (.int .i64 x.at_.col):=by
  refine⟨?_,?_,?_,?_,?_,?_⟩ <;> (rw[aa h];rfl)
theorem yG(K:ab [] T g)(a:T.heap.size<=S)(d h f c e b:Value):ab [] T ((((((g.setCell ⟨S,0,none⟩ d).setCell ⟨S,1,none⟩ h).setCell ⟨S,2,none⟩ f).setCell ⟨S,3,none⟩ c).setCell ⟨S,4,none⟩ e).setCell ⟨S,5,none⟩ b) :=
  (((((K.setCell (QU a) _).setCell (QU a) _).setCell (QU a) _).setCell (QU a) _).setCell (QU a) _).setCell (QU a) _
theorem Iw(a:List St)(H K:Nat->Hd)(J:List Rw)(w:World)(h:kB w k n a H L J)(ok:iH a)(ha:l<a.length)(ap:x9 a[l])(aT:gW w b a a.length K) :
    Calls prog 114 #[.pointer (some ⟨k,n,none⟩),.int .i64 l,.slice (some ⟨b,0,none⟩) a.length a.length] w fun e w' =>
      e=.returned (.agg (mK (iC a l a[l] J)).toArray)/\ab [] w w':=by
  have bc:=h.recd.lt;have a7:=ok.len;have ag:=Pn a l ok ha ap;obtain⟨W,hW⟩:∃W,W=w.alloc (.cells #[.string ⟨#[]⟩,.int .i64 0,.int .i64 0,.string ⟨#[]⟩,.int .i64 0,.int .i64 0] 38):=⟨_,rfl⟩
  have kW:ab [] w W:=by rw[hW];exact(ab.refl [] _).alloc _
  have BF:W.heap[w.heap.size]?=some (.cells (mK qc).toArray 38 (0,0)):=by rw[hW];exact QR _ _
  have HW:=hI hW.symm;clear hW;have Y:Hid (iC a l a[l] J=nu a[l].label J (lu a l a[l]).1 (if(Fu (lu a l a[l]).1).isNone=true/\((lu a l a[l]).2.1==0)=true then gJ a l a[l] (lu a l a[l]).1 else(lu a l a[l]).2)):=rfl;have RD:=fun(w':World) (a1:ab [] w w')=>I9 k n l a H w' (h.Va a1).recd ha ok ap
  have PL:=fun(hd:Hd) (w':World) (a1:ab [] w w') (o':aw w' hd (go (lu a l a[l]).1))=>Kn k n b l a H K hd (lu a l a[l]).1 w' (h.Va a1).recd ok ha (aT.Va a1) o' ag
  have ac:=ag.len;have ax:=hI RD;have a0:=hI PL;clear RD PL ag;generalize lu a l a[l]=PF at *;obtain⟨c,G,F⟩:=PF;simp only at Y ax a0 ac;go_enter func114,ntmps114
  go_upto_region 1 with fail
  rw[HW.out]
  go_upto_region 2 with (go_at_call 97;refine(a9 k n l a H _ (by exact(h.Va kW).recd) ha).mono ?_;rintro e j ⟨rfl,k1⟩;unfold ee)
  obtain⟨W2,U⟩:∃W2,W2=j.alloc (.cells #[.string a[l].label,.int .i64 0,.int .i64 0,.string ⟨#[]⟩,.int .i64 0,.int .i64 0] 38):=⟨_,rfl⟩
  have k2:ab [] W W2:=by rw[U];exact k1.alloc _
  have BR:W2.heap[j.heap.size]?=some (.cells (mK ⟨a[l].label,0,0,kR⟩).toArray 38 (0,0)):=by rw[U];exact QR _ _
  have d:w.heap.size<j.heap.size:=by have:=k1.size;have:=ae BF;omega
  rw[<-U];clear U;have K2:=kW.trans k2;have a4:=k2.get BF (by simp)
  go_upto_region 3 with (go_at_call 100;refine(ax.out _ (by exact K2)).mono ?_;rintro e Z ⟨hd,rfl,af,bf,k3⟩;unfold gU)
  obtain⟨W4,T⟩:∃W4,W4=Z.alloc (.cells #[.int .i64 G,.string F.file,.int .i64 F.line,.int .i64 F.col] 165):=⟨_,rfl⟩
  have k4:ab [] W2 W4:=by rw[T];exact k3.alloc _
  have B9:W4.heap[Z.heap.size]?=some (.cells (Ea (G,F)) 165 (0,0)):=by rw[T];exact QR _ _
  have N:aw W4 hd (go c):=by rw[T];exact af.Vf (fun x hx=>((ab.refl [] _).alloc _).block x (af.lt hx) (by simp))
  rw[<-T];clear T;have be:j.heap.size<Z.heap.size:=by have:=k3.size;have:=ae BR;omega
  have K4:=K2.trans k4;have ai:=k4.get BR (by simp);have ad:=k4.get a4 (by simp);have FU:=tT hd c W4 N (by omega)
  cases hu:Fu c with
  | some u =>
    have HU:=hI hu;rw[hu]at FU;simp only[nz]at FU
    have aS:u<c.length:=by
      have:=Ry hu;simpa using this
    have ba:¬((u:Int)<0):=by omega
    have a5:(u:Int) ≥ 0:=by omega
    have a6:(u:Int)<c.length:=by omega
    clear hu;have KV:=K4;have S:=B9;have m:=ai;have C:=ad;obtain⟨f0,f1,f2,f3⟩:=jh S;obtain⟨t,o,s,q,r,p⟩:=dY m;have yr:=am m;simp only[kR]at t o s q r p
    cases P:(G==0)
    · have ar:(G != 0)=true:=by simp[bne,P]
      have R:Hid (iC a l a[l] J=⟨a[l].label,2,G,F⟩):=by show _=_;rw[Y.out,HU.out,P];simp[nu,P]
      clear Y
      go_upto_region 4 with (go_at_call 161;refine FU.mono ?_;rintro e wu ⟨rfl,I⟩;rw[I])
      go_upto_region 16 with fail
      obtain⟨X,g⟩:∃X,X=((((W4.setCell ⟨j.heap.size,1,none⟩ (.int .i64 2)).setCell ⟨j.heap.size,2,none⟩ (.int .i64 G)).setCell ⟨j.heap.size,3,none⟩ (.string F.file)).setCell ⟨j.heap.size,4,none⟩ (.int .i64 F.line)).setCell ⟨j.heap.size,5,none⟩ (.int .i64 F.col):=⟨_,rfl⟩
      have Q:X.heap[j.heap.size]?=some (.cells (mK ⟨a[l].label,2,G,F⟩).toArray 38 (0,0)):=by
        rw[g];rw[ah (ah (ah (ah (ah m _ _) _ _) _ _) _ _) _ _];rfl
      have O:ab [] w X:=by rw[g];exact(((((KV.setCell (QU (RK d)) _).setCell (QU (RK d)) _).setCell (QU (RK d)) _).setCell (QU (RK d)) _).setCell (QU (RK d)) _)
      have i:X.heap[w.heap.size]?=some (.cells (mK qc).toArray 38 (0,0)):=by
        rw[g];rw[Q3 _ _ _ _ (by simp;omega)];rw[Q3 _ _ _ _ (by simp;omega)];rw[Q3 _ _ _ _ (by simp;omega)];rw[Q3 _ _ _ _ (by simp;omega)];rw[Q3 _ _ _ _ (by simp;omega)];exact C
      rw[<-g];clear g t o s q r p yr;obtain⟨t,o,s,q,r,p⟩:=dY Q;obtain⟨E,B,y,A,D,z⟩:=dY i;have ys:=am i;simp only[qc,kR]at t o s q r p E B y A D z;go_wp2;exact QX (v:=.agg (mK ⟨a[l].label,2,G,F⟩).toArray) (by simp[results,results114,go_sem,E,B,y,A,D,z,mK]) rfl ⟨by rw[R.out],yG O (QQ _) _ _ _ _ _ _⟩
    · have ar:(G != 0)=false:=by simp[bne,P]
      obtain⟨gp,ep,az,al,-,-,d2,d3,d4⟩:=N.step u aS;have R:Hid (iC a l a[l] J=⟨a[l].label,3,0,c[u].at_⟩):=by show _=_;rw[Y.out,HU.out,P];simp[nu,P,HU.out,aS]
      obtain⟨ao,bg⟩:=hd;simp only at ep az al;subst ep;clear Y;generalize c[u]=st at *
      go_upto_region 4 with (go_at_call 161;refine FU.mono ?_;rintro e wu ⟨rfl,I⟩;rw[I])
      go_upto_region 16 with fail
      obtain⟨X,g⟩:∃X,X=(((W4.setCell ⟨j.heap.size,1,none⟩ (.int .i64 3)).setCell ⟨j.heap.size,3,none⟩ (.string st.at_.file)).setCell ⟨j.heap.size,4,none⟩ (.int .i64 st.at_.line)).setCell ⟨j.heap.size,5,none⟩ (.int .i64 st.at_.col):=⟨_,rfl⟩
      have Q:X.heap[j.heap.size]?=some (.cells (mK ⟨a[l].label,3,0,st.at_⟩).toArray 38 (0,0)):=by
        rw[g];rw[ah (ah (ah (ah m _ _) _ _) _ _) _ _];rfl
      have O:ab [] w X:=by rw[g];exact((((KV.setCell (QU (RK d)) _).setCell (QU (RK d)) _).setCell (QU (RK d)) _).setCell (QU (RK d)) _)
      have i:X.heap[w.heap.size]?=some (.cells (mK qc).toArray 38 (0,0)):=by
        rw[g];rw[Q3 _ _ _ _ (by simp;omega)];rw[Q3 _ _ _ _ (by simp;omega)];rw[Q3 _ _ _ _ (by simp;omega)];rw[Q3 _ _ _ _ (by simp;omega)];exact C
      rw[<-g];clear g t o s q r p yr;obtain⟨t,o,s,q,r,p⟩:=dY Q;obtain⟨E,B,y,A,D,z⟩:=dY i;have ys:=am i;simp only[qc,kR]at t o s q r p E B y A D z;go_wp2;exact QX (v:=.agg (mK ⟨a[l].label,3,0,st.at_⟩).toArray) (by simp[results,results114,go_sem,E,B,y,A,D,z,mK]) rfl ⟨by rw[R.out],yG O (QQ _) _ _ _ _ _ _⟩
  | none =>
    have HU:=hI hu;rw[hu]at FU;simp only[nz]at FU;clear hu
    cases P:(G==0)
    · have ar:(G != 0)=true:=by simp[bne,P]
      have R:Hid (iC a l a[l] J=⟨a[l].label,2,G,F⟩):=by show _=_;rw[Y.out,HU.out,P];simp[nu,P]
      have KV:=K4;have S:=B9;have m:=ai;have C:=ad;obtain⟨f0,f1,f2,f3⟩:=jh S;obtain⟨t,o,s,q,r,p⟩:=dY m;have yr:=am m;simp only[kR]at t o s q r p;clear Y
      go_upto_region 4 with (go_at_call 161;refine FU.mono ?_;rintro e wu ⟨rfl,I⟩;rw[I])
      go_upto_region 16 with fail
      obtain⟨X,g⟩:∃X,X=((((W4.setCell ⟨j.heap.size,1,none⟩ (.int .i64 2)).setCell ⟨j.heap.size,2,none⟩ (.int .i64 G)).setCell ⟨j.heap.size,3,none⟩ (.string F.file)).setCell ⟨j.heap.size,4,none⟩ (.int .i64 F.line)).setCell ⟨j.heap.size,5,none⟩ (.int .i64 F.col):=⟨_,rfl⟩
      have Q:X.heap[j.heap.size]?=some (.cells (mK ⟨a[l].label,2,G,F⟩).toArray 38 (0,0)):=by
        rw[g];rw[ah (ah (ah (ah (ah m _ _) _ _) _ _) _ _) _ _];rfl
      have O:ab [] w X:=by rw[g];exact(((((KV.setCell (QU (RK d)) _).setCell (QU (RK d)) _).setCell (QU (RK d)) _).setCell (QU (RK d)) _).setCell (QU (RK d)) _)
      have i:X.heap[w.heap.size]?=some (.cells (mK qc).toArray 38 (0,0)):=by
        rw[g];rw[Q3 _ _ _ _ (by simp;omega)];rw[Q3 _ _ _ _ (by simp;omega)];rw[Q3 _ _ _ _ (by simp;omega)];rw[Q3 _ _ _ _ (by simp;omega)];rw[Q3 _ _ _ _ (by simp;omega)];exact C
      rw[<-g];clear g t o s q r p yr;obtain⟨t,o,s,q,r,p⟩:=dY Q;obtain⟨E,B,y,A,D,z⟩:=dY i;have ys:=am i;simp only[qc,kR]at t o s q r p E B y A D z;go_wp2;exact QX (v:=.agg (mK ⟨a[l].label,2,G,F⟩).toArray) (by simp[results,results114,go_sem,E,B,y,A,D,z,mK]) rfl ⟨by rw[R.out],yG O (QQ _) _ _ _ _ _ _⟩
    · have M:Hid (iC a l a[l] J=nu a[l].label J c (gJ a l a[l] c)):=by show _=_;rw[Y.out,HU.out,P];simp
      obtain⟨f0,f1,f2,f3⟩:=jh B9;clear Y;generalize gJ a l a[l] c=f at *
      go_upto_region 4 with (go_at_call 161;refine FU.mono ?_;rintro e wu ⟨rfl,I⟩;rw[I])
      have bd:=K4
      go_upto_region 7 with (go_at_call 162;refine(a0.out hd _ (by exact K4) (by exact N)).mono ?_;rintro e w5 ⟨rfl,k5⟩;unfold gU;obtain⟨t0,t1,t2,t3⟩:=jh (k5.get B9 (by simp));have yt:=am (k5.get B9 (by simp)))
      obtain⟨V,hV⟩:∃V,V=(((w5.setCell ⟨Z.heap.size,0,none⟩ (.int .i64 f.1)).setCell ⟨Z.heap.size,1,none⟩ (.string f.2.file)).setCell ⟨Z.heap.size,2,none⟩ (.int .i64 f.2.line)).setCell ⟨Z.heap.size,3,none⟩ (.int .i64 f.2.col):=⟨_,rfl⟩
      have S:V.heap[Z.heap.size]?=some (.cells (Ea f) 165 (0,0)):=by
        rw[hV,ah (ah (ah (ah (k5.get B9 (by simp)) _ _) _ _) _ _)];rfl
      have k9:ab [Z.heap.size] w5 V:=by rw[hV];exact ji _ _ _ _
      have KV:ab [] w V:=by rw[hV];exact kG (K4.trans k5) (by omega) _ _ _ _
      have m:=k9.get (k5.get ai (by simp)) (by simp;omega);have C:=k9.get (k5.get ad (by simp)) (by simp;omega);have a2:aw V hd (go c):=(N.Vf (w':=w5) (fun x hx=>k5.block x (N.lt hx) (by simp))).Vf (fun x hx=>k9.block x (QW (N.lt hx) k5.size) (by simp;rintro rfl;have:=af.lt hx;omega));rw[<-hV];clear hV t0 t1 t2 t3 yt;clear f0 f1 f2 f3;obtain⟨f0,f1,f2,f3⟩:=jh S;obtain⟨t,o,s,q,r,p⟩:=dY m;have yr:=am m;simp only[kR]at t o s q r p
      cases hf:(f.1==0)
      · have a3:(f.1 != 0)=true:=by simp[bne,hf]
        have R:Hid (iC a l a[l] J=⟨a[l].label,2,f.1,f.2⟩):=by show _=_;rw[M.out];simp[nu,hf]
        clear M
        go_upto_region 16 with fail
        obtain⟨X,g⟩:∃X,X=((((V.setCell ⟨j.heap.size,1,none⟩ (.int .i64 2)).setCell ⟨j.heap.size,2,none⟩ (.int .i64 f.1)).setCell ⟨j.heap.size,3,none⟩ (.string f.2.file)).setCell ⟨j.heap.size,4,none⟩ (.int .i64 f.2.line)).setCell ⟨j.heap.size,5,none⟩ (.int .i64 f.2.col):=⟨_,rfl⟩
        have Q:X.heap[j.heap.size]?=some (.cells (mK ⟨a[l].label,2,f.1,f.2⟩).toArray 38 (0,0)):=by
          rw[g];rw[ah (ah (ah (ah (ah m _ _) _ _) _ _) _ _) _ _];rfl
        have O:ab [] w X:=by rw[g];exact(((((KV.setCell (QU (RK d)) _).setCell (QU (RK d)) _).setCell (QU (RK d)) _).setCell (QU (RK d)) _).setCell (QU (RK d)) _)
        have i:X.heap[w.heap.size]?=some (.cells (mK qc).toArray 38 (0,0)):=by
          rw[g];rw[Q3 _ _ _ _ (by simp;omega)];rw[Q3 _ _ _ _ (by simp;omega)];rw[Q3 _ _ _ _ (by simp;omega)];rw[Q3 _ _ _ _ (by simp;omega)];rw[Q3 _ _ _ _ (by simp;omega)];exact C
        rw[<-g];clear g t o s q r p yr;obtain⟨t,o,s,q,r,p⟩:=dY Q;obtain⟨E,B,y,A,D,z⟩:=dY i;have ys:=am i;simp only[qc,kR]at t o s q r p E B y A D z;go_wp2;exact QX (v:=.agg (mK ⟨a[l].label,2,f.1,f.2⟩).toArray) (by simp[results,results114,go_sem,E,B,y,A,D,z,mK]) rfl ⟨by rw[R.out],yG O (QQ _) _ _ _ _ _ _⟩
      · have a3:(f.1 != 0)=false:=by simp[bne,hf]
        have RE:=Mg k n a H L J hd c V (h.Va KV) a2 (by omega)
        cases hr:pk J c
        · have R:Hid (iC a l a[l] J=⟨a[l].label,4,0,kR⟩):=by show _=_;rw[M.out];simp[nu,hf,HU.out,hr]
          rw[hr]at RE;clear M
          go_upto_region 6 with (go_at_call 163;refine RE.mono ?_;rintro e wv ⟨rfl,an⟩;rw[an])
          go_upto_region 16 with fail
          obtain⟨X,g⟩:∃X,X=V.setCell ⟨j.heap.size,1,none⟩ (.int .i64 4):=⟨_,rfl⟩
          have Q:X.heap[j.heap.size]?=some (.cells (mK ⟨a[l].label,4,0,kR⟩).toArray 38 (0,0)):=by
            rw[g];rw[ah m _ _];rfl
          have O:ab [] w X:=by rw[g];exact(KV.setCell (QU (RK d)) _)
          have i:X.heap[w.heap.size]?=some (.cells (mK qc).toArray 38 (0,0)):=by
            rw[g];rw[Q3 _ _ _ _ (by simp;omega)];exact C
          rw[<-g];clear g t o s q r p yr;obtain⟨t,o,s,q,r,p⟩:=dY Q;obtain⟨E,B,y,A,D,z⟩:=dY i;have ys:=am i;simp only[qc,kR]at t o s q r p E B y A D z;go_wp2;exact QX (v:=.agg (mK ⟨a[l].label,4,0,kR⟩).toArray) (by simp[results,results114,go_sem,E,B,y,A,D,z,mK,kR]) rfl ⟨by rw[R.out],yG O (QQ _) _ _ _ _ _ _⟩
        · have R:Hid (iC a l a[l] J=⟨a[l].label,5,0,kR⟩):=by show _=_;rw[M.out];simp[nu,hf,HU.out,hr]
          rw[hr]at RE;clear M
          go_upto_region 15 with (go_at_call 163;refine RE.mono ?_;rintro e wv ⟨rfl,an⟩;rw[an])
          go_upto_region 16 with fail
          obtain⟨X,g⟩:∃X,X=V.setCell ⟨j.heap.size,1,none⟩ (.int .i64 5):=⟨_,rfl⟩
          have Q:X.heap[j.heap.size]?=some (.cells (mK ⟨a[l].label,5,0,kR⟩).toArray 38 (0,0)):=by
            rw[g];rw[ah m _ _];rfl
          have O:ab [] w X:=by rw[g];exact(KV.setCell (QU (RK d)) _)
          have i:X.heap[w.heap.size]?=some (.cells (mK qc).toArray 38 (0,0)):=by
            rw[g];rw[Q3 _ _ _ _ (by simp;omega)];exact C
          rw[<-g];clear g t o s q r p yr;obtain⟨t,o,s,q,r,p⟩:=dY Q;obtain⟨E,B,y,A,D,z⟩:=dY i;have ys:=am i;simp only[qc,kR]at t o s q r p E B y A D z;go_wp2;exact QX (v:=.agg (mK ⟨a[l].label,5,0,kR⟩).toArray) (by simp[results,results114,go_sem,E,B,y,A,D,z,mK,kR]) rfl ⟨by rw[R.out],yG O (QQ _) _ _ _ _ _ _⟩
end
def An(l:List St)(n:Nat)(prev:List Rw):Rw:=match l[n]? with
 | some s=>if(s.kind==4)=true then⟨s.label,1,0,kR⟩ else if(s.kind==5)=true then iC l n s prev else qc
 | none=>qc
def jZ(l:List St):Nat->List Rw
 | 0=>[]
 | k+1=>jZ l k++[An l k (jZ l k)]
theorem oM:(jZ w b).length=b:=by
 induction b with
 | zero=>rfl
 | succ b a=>simp[jZ,a]
def jk(l:List St)(k:Nat):List Rw:=jZ l k++List.replicate (l.length-k) qc
theorem sX(h:b<=w.length):(jk w b).length=w.length:=by simp[jk,oM];omega
theorem Ja(h:b<w.length):jk w (b+1)=(jk w b).set b (An w b (jZ w b)):=by
 unfold jk;have e:w.length-b=(w.length-(b+1))+1:=by omega
 rw[e,TV,jZ];have a:=oM w b;rw[SQ _ _ (by omega),a,RV,Tu,Sx];rfl
theorem LP:jk w w.length=jZ w w.length:=by simp[jk]
theorem LQ(h:b<w.length):(jk w b).set b qc=jk w b:=by
 unfold jk;have e:w.length-b=(w.length-(b+1))+1:=by omega
 have a:=oM w b;rw[e,TV,SQ _ _ (by omega),a,RV,Tu]
theorem MQ:oZ (v++List.replicate L qc) b=oZ v b:=by
 unfold oZ;rw[QP,QP]
 by_cases h:b<v.length
 ·rw[Q6 h]
 ·rw[Q4 (by omega),Rv (l:=v) (by omega),Se]
  split <;> rfl
theorem CO(h:∀n,oZ D n=oZ y2 n)(a:List nE):pk D a=pk y2 a:=by
 unfold pk;simp only[h]
theorem Aa(h:∀n,oZ D n=oZ y2 n)(l:List St)(n:Nat)(s:St):iC l n s D=iC l n s y2:=by
 unfold iC nu;rw[CO h]
theorem Ek:iC w l f (jk w b)=iC w l f (jZ w b):=Aa (fun _=>MQ _ _ _) w l f
theorem nR(M B:List Value)(i j:Nat)(v:Value)(b:i=y1.length+j)(a:j<M.length):(y1++(M++B)).set i v=y1++(M.set j v++B):=by
 subst b;rw[SQ _ _ (by omega),Nat.add_sub_cancel_left,TJ _ _ a]
theorem ze(a:b<v.length):kK v=kK (v.take b)++(mK v[b]++kK (v.drop (b+1))):=by
 have e:v=v.take b++(v[b] :: v.drop (b+1)):=by rw[<-Re a,Uk]
 conv=>lhs;rw[e]
 unfold kK;rw[Sg,RH]
theorem N8(a:b<v.length)(r:Rw) :
  (((((((kK v).set (b*6) (.string r.label)).set (b*6+1) (.int .i64 r.Vb)).set (b*6+2) (.int .i64 r.why)).set (b*6+3) (.string r.at_.file)).set (b*6+4) (.int .i64 r.at_.line)).set (b*6+5) (.int .i64 r.at_.col))=kK (v.set b r):=by
 have d:(kK (v.take b)).length=b*6:=by rw[CX,RO];congr 1;omega
 have c:kK (v.set b r)=kK (v.take b)++(mK r++kK (v.drop (b+1))):=by
  rw[ze (v.set b r) b (by simpa using a)];simp[UL,List.drop_set];rw[List.set_eq_of_length_le (by simp;omega)]
 rw[c,ze v b a,mK,nR _ _ _ _ 0 _ (by omega) (by simp),nR _ _ _ _ 1 _ (by omega) (by simp),nR _ _ _ _ 2 _ (by omega) (by simp),nR _ _ _ _ 3 _ (by omega) (by simp),nR _ _ _ _ 4 _ (by omega) (by simp),nR _ _ _ _ 5 _ (by omega) (by simp)];rfl
theorem ab.wide(k:ab [] T g):ab zt T g:=k.mono (by simp)
def CZ(w:World)(g k:Nat)(r:Rw):World :=
 (((((w.setCell ⟨g,k*6,none⟩ (.string r.label)).setCell ⟨g,k*6+1,none⟩ (.int .i64 r.Vb)).setCell ⟨g,k*6+2,none⟩ (.int .i64 r.why)).setCell ⟨g,k*6+3,none⟩ (.string r.at_.file)).setCell ⟨g,k*6+4,none⟩ (.int .i64 r.at_.line)).setCell ⟨g,k*6+5,none⟩ (.int .i64 r.at_.col)
theorem rL(r:Rw):ab [L] z6 (CZ z6 L b r) :=
 ((((((ab.refl [L] z6).setCell (Q0 (by simp)) _).setCell (Q0 (by simp)) _).setCell (Q0 (by simp)) _).setCell (Q0 (by simp)) _).setCell (Q0 (by simp)) _).setCell (Q0 (by simp)) _
theorem kB.store(h:kB T S i x o z4 D)(c:S≠z4)(l:∀a,f9 o a->a≠z4)(k:Nat)(f:k<D.length)(r:Rw):kB (CZ T z4 k r) S i x o z4 (D.set k r):=by
 have d:=rL T z4 k r;obtain⟨b,t,j,e⟩:=h.cell;refine⟨h.recd.kept d (by simpa using c) (fun a g=>by simpa using l a g),⟨b,t,d.get j (by simpa using c),by rw[Ru];exact e⟩,?_⟩;unfold CZ;rw[ah (ah (ah (ah (ah (ah h.arr _ _) _ _) _ _) _ _) _ _)];simp only[Rt];rw[N8 D k f r]
def uT(l:List St)(H:Nat->Hd):Nat->Hd:=fun i=>if i=6∨(10<=i/\i<10+2*l.length) then H i else⟨none,0⟩
theorem od(h:b=6∨(10<=b/\b<10+2*w.length)):uT w a b=a b:=QV h
theorem gj.trim(h:gj T x o):gj T x (uT x o)/\∀k,f9 (uT x o) k->k<T.heap.size/\f9 o k:=by
 refine⟨⟨?_,fun i s c=>?_,fun i s c=>?_⟩,?_⟩
 ·have e:mn x (uT x o)=mn x o:=by
   rw[<-uQ x o (fun i=>if i<10+2*x.length then o i else⟨none,0⟩) (fun j f=>QV f)]
   apply xk
   intro j f
   by_cases b:j<10+2*x.length
   ·simp only[QV b];exact od x o j (QU ⟨f,b⟩)
   ·simp only[QS b];exact QS (by omega)
  rw[od x o 6 (Q0 rfl)];unfold iE;rw[e];exact h.own
 ·have a:i<x.length:=(Q7.1 c).1
  rw[od x o (10+2*i) (by omega)];exact h.syms i s c
 ·have a:i<x.length:=(Q7.1 c).1
  rw[od x o (11+2*i) (by omega)];exact h.prfs i s c
 ·rintro k ⟨i,a⟩
  by_cases d:i=6∨(10<=i/\i<10+2*x.length)
  ·rw[od x o i d]at a
   refine⟨?_,⟨i,a⟩⟩
   rcases d with rfl | ⟨m,l⟩
   ·exact h.own.lt a
   ·by_cases g:(i-10) % 2=0
    ·have e:i=10+2*((i-10) / 2):=by omega
     rw[e]at a;have b:(i-10) / 2<x.length:=by omega
     exact(h.syms _ _ (QO b)).lt a
    ·have e:i=11+2*((i-10) / 2):=by omega
     rw[e]at a;have b:(i-10) / 2<x.length:=by omega
     exact(h.prfs _ _ (QO b)).lt a
  ·have e:uT x o i=⟨none,0⟩:=QS d
   rw[e]at a;simp[Hd.blk]at a
theorem oy(h:kB H I k w a n (jk w 0))(ok:iH w)(Y:∀i (hi:i<w.length),x9 w[i])(hb:I≠n)(hg:∀x,f9 a x->x≠n) :
  Calls prog 81 #[.pointer (some ⟨I,k,none⟩)] H fun e c=>e=.returned (.tuple #[])/\kB c I k w a n (jZ w w.length)/\ab [n] H c:=by
 have a1:=h.recd.lt;have ax:=ae h.arr;have ap:=ok.len;go_enter func81,ntmps81;go_wp2_with (go_at_call 113;refine(rX I k w a _ (by exact h.recd) ok).mono ?_;rintro e w1 ⟨V,K,rfl,A1,aS,ac,k1⟩)
 go_loopg [3] w.length (fun gk iv wr=>∃(b:Nat),b<=w.length/\gk=w.length-b/\iv=.int .i64 b/\kB wr I k w a n (jk w b)/\gW wr V w w.length K/\ab [n] H wr)
 case atStart=>exact⟨0,by omega,by omega,rfl,h.Va k1,A1,k1.wide⟩
 case round =>
  obtain⟨b,hk,ar,rfl,z,hA,hK⟩:=hrel;have m:=hI (sX w b hk);have c2:=z.at2;rw[m.out]at c2
  by_cases f:b<w.length
  ·have g:Hid (An w b (jZ w b)=if(w[b].kind==4)=true then⟨w[b].label,1,0,kR⟩ else if(w[b].kind==5)=true then iC w b w[b] (jk w b) else qc):=by
    show _=_
    unfold An;rw[QO f,Ek]
   have l:=hI (Ja w b f)
   go_upto_region 5 with (go_at_call 97;refine(a9 I k b w a _ (by exact z.recd) f).mono ?_;rintro e y ⟨rfl,k3⟩;unfold ee)
   obtain⟨X,R⟩:∃X,X=y.alloc (.cells #[.int .i64 w[b].kind,.string w[b].label,.slice (a (10+2*b)).ao w[b].U5.length (a (10+2*b)).cap,.slice (a (11+2*b)).ao w[b].proof.length (a (11+2*b)).cap,.string w[b].fin.file,.int .i64 w[b].fin.line,.int .i64 w[b].fin.col,.int .i64 w[b].til] 158):=⟨_,rfl⟩
   have kX:ab [] wr X:=by rw[R];exact k3.alloc _
   have BX:X.heap[y.heap.size]?=some (.cells #[.int .i64 w[b].kind,.string w[b].label,.slice (a (10+2*b)).ao w[b].U5.length (a (10+2*b)).cap,.slice (a (11+2*b)).ao w[b].proof.length (a (11+2*b)).cap,.string w[b].fin.file,.int .i64 w[b].fin.line,.int .i64 w[b].fin.col,.int .i64 w[b].til] 158 (0,0)):=by rw[R];exact QR _ _
   rw[<-R];clear R;have m0:X.cell? ⟨y.heap.size,0,none⟩=some (.int .i64 w[b].kind):=by rw[aa BX];rfl
   have m1:X.cell? ⟨y.heap.size,1,none⟩=some (.string w[b].label):=by rw[aa BX];rfl
   have d:=z.Va kX;have S:=hA.Va kX;have W:=hK.trans kX.wide;have aT:=ae d.arr;have a0:=d.recd.lt;have a2:wr.heap.size<=y.heap.size:=k3.size;have an:=ae z.arr;have al:=z.recd.lt;have s:V≠n:=by omega
   have t:∀v x,(K v).blk=some x->x∉[n]:=fun v x hx=>by have:=ac v x hx;simp;omega
   have A:=d.at2;rw[m.out]at A;have B:b<(jk w b).length:=by rw[m.out];exact f
   obtain⟨E,L,O,J,F,G⟩:=d.row b B;have Q:=am d.arr;have az:(b:Int)<w.length:=by omega
   have ag:y.heap.size≠n:=by omega
   have af:n≠y.heap.size:=by omega
   have ai:n≠I:=fun e=>hb e.symm
   clear c2;generalize (jk w b)[b]=j at *
   cases P:(w[b].kind==4)
   ·cases T:(w[b].kind==5)
    ·have N:Hid (jk w (b+1)=jk w b):=by
      show _=_
      rw[l.out,g.out,P,T];simp only[Rs,Sq];exact LQ w b f
     clear g l;go_wp2
     go_roundg (w.length-(b+1))
     case measure=>omega
     case rel=>exact⟨b+1,by omega,rfl,by go_num,by rw[N.out];exact d,S,W⟩
    ·have N:Hid (jk w (b+1)=(jk w b).set b (iC w b w[b] (jk w b))):=by show _=_;rw[l.out,g.out,P,T];rfl
     have JA:=fun(c:World) (q:ab [] X c)=>Iw I k b n V w a K (jk w b) c (d.Va q) ok f (Y b f) (S.Va q)
     have M:=hI JA
     have ad:Hid (∀c,ab [] X c->c.cell? ⟨I,k+2,none⟩=some (.slice (some ⟨n,0,none⟩) w.length w.length)):=by
      intro c q;have:=(d.Va q).at2;rw[m.out]at this;exact this
     have U:Hid (∀c,ab [] X c->c.cell? ⟨n,b*6,none⟩=some (.string j.label)/\c.cell? ⟨n,b*6+1,none⟩=some (.int .i64 j.Vb)/\c.cell? ⟨n,b*6+2,none⟩=some (.int .i64 j.why)/\c.cell? ⟨n,b*6+3,none⟩=some (.string j.at_.file)/\c.cell? ⟨n,b*6+4,none⟩=some (.int .i64 j.at_.line)/\c.cell? ⟨n,b*6+5,none⟩=some (.int .i64 j.at_.col)/\∀v,c.frozen? ⟨n,v,none⟩=false):=by
      intro c q;have u:=q.get d.arr (by simp);refine⟨?_,?_,?_,?_,?_,?_,fun v=>am u v⟩
      ·rw[aa u,<-aa d.arr];exact E
      ·rw[aa u,<-aa d.arr];exact L
      ·rw[aa u,<-aa d.arr];exact O
      ·rw[aa u,<-aa d.arr];exact J
      ·rw[aa u,<-aa d.arr];exact F
      ·rw[aa u,<-aa d.arr];exact G
     unfold mK at M;clear g l JA E L O J F G Q;generalize iC w b w[b] (jk w b)=r at *
     go_upto_region 8 with fail
     go_region_held3 (fun c=>c.cell? ⟨I,k+2,none⟩=some (.slice (some ⟨n,0,none⟩) w.length w.length)) (go_keep) (first | (go_at_call 114;refine(M.out _ (by exact(ab.refl [] X).drew)).mono ?_;rintro e Z ⟨rfl,k5⟩;have x0:=ad.out Z ((ab.refl [] X).drew.trans k5);obtain⟨E,L,O,J,F,G,Q⟩:=U.out Z ((ab.refl [] X).drew.trans k5)))
     all_goals
      have kk:=((ab.refl [] X).drew.trans k5);have o:=(d.Va kk).store hb hg b B r;have p:=rL Z n b r;have C:=(S.Va kk).kept p (by simpa using s) t;have D:=(W.trans kk.wide).trans p;rw[<-N.out]at o;unfold CZ at o p C D;clear m0 m1 A E L O J F G Q x0;go_wp2
      go_roundg (w.length-(b+1))
      case measure=>omega
      case rel=>exact⟨b+1,by omega,rfl,by go_num,o,C,D⟩
   ·have T:(w[b].kind==5)=false:=by have:=TQ P;rw[this];rfl
    have N:Hid (jk w (b+1)=(jk w b).set b ⟨w[b].label,1,0,kR⟩):=by show _=_;rw[l.out,g.out,P];rfl
    clear g l
    go_upto_region 6 with fail
    go_region
    all_goals
     have o:=d.store hb hg b B ⟨w[b].label,1,0,kR⟩;have p:=rL X n b ⟨w[b].label,1,0,kR⟩;have C:=S.kept p (by simpa using s) t;have D:=W.trans p;rw[<-N.out]at o;unfold CZ at o p C D;simp only[kR]at o C D;clear m1 A E L O J F G Q p;go_wp2
     go_roundg (w.length-(b+1))
     case measure=>omega
     case rel=>exact⟨b+1,by omega,rfl,by go_num,o.Va (ab.refl [] _).drew,C.Va (ab.refl [] _).drew,D.drew⟩
  ·have e:b=w.length:=by omega
   subst e;rw[LP]at z;go_wp2;go_end0;exact⟨rfl,z,hK⟩
theorem IK:madeCells (Value.agg #[.string ⟨#[]⟩,.int .i64 0,.int .i64 0,.string ⟨#[]⟩,.int .i64 0,.int .i64 0]).cells (b*6)=(kK (List.replicate b qc)).toArray:=by
  have a:(Value.agg #[.string ⟨#[]⟩,.int .i64 0,.int .i64 0,.string ⟨#[]⟩,.int .i64 0,.int .i64 0]).cells=(mK qc).toArray:=by rfl
  rw[a]
  apply Array.ext
  · rw[Ss];simp[CX]
  · intro i o f
    rw[Ss]at o;have g:i / 6<(List.replicate b qc).length:=by simp;omega
    have e:=GH (List.replicate b qc) (i / 6) g (i % 6) (by omega);have m:i / 6*6+i % 6=i:=by omega
    have p:(List.replicate b qc)[i / 6]=qc:=by simp
    rw[m,p]at e;have n:i<(kK (List.replicate b qc)).length:=by simpa using f
    have k:(kK (List.replicate b qc)).toArray[i]=(kK (List.replicate b qc))[i]:=by simp
    rw[k];have d:some (kK (List.replicate b qc))[i]=(mK qc)[i % 6]?:=by rw[<-e,QO n]
    have l:some (madeCells (mK qc).toArray (b*6))[i]=(mK qc)[i % 6]?:=by
      have c:i % 6=0∨i % 6=1∨i % 6=2∨i % 6=3∨i % 6=4∨i % 6=5:=by omega
      have j:(mK qc).toArray.size=6:=rfl;simp only[madeCells,Array.getElem_map,Array.getElem_range,j]
      rcases c with h | h | h | h | h | h <;> rw[h] <;> rfl
    exact Option.some.inj (l.trans d.symm)
theorem LR:jk w 0=List.replicate w.length qc:=by simp[jk,jZ]
theorem nh(h:ab [] T g)(b:T.heap.size<=S)(a:T.heap.size<=i)(c f l j d e k:Value) :
    ab [] T (((((((g.setCell ⟨S,0,none⟩ c).setCell ⟨S,1,none⟩ f).setCell ⟨S,2,none⟩ l).setCell ⟨i,0,none⟩ j).setCell ⟨i,1,none⟩ d).setCell ⟨i,2,none⟩ e).setCell ⟨i,3,none⟩ k) :=
  ((((((h.setCell (QU b) _).setCell (QU b) _).setCell (QU b) _).setCell (QU a) _).setCell (QU a) _).setCell (QU a) _).setCell (QU a) _
theorem oO(b c a:Value) :
    ab [l,L] z6 (((((((z6.setCell ⟨l,0,none⟩ y4).setCell ⟨l,1,none⟩ y5).setCell ⟨l,2,none⟩ y6).setCell ⟨L,0,none⟩ y7).setCell ⟨L,1,none⟩ b).setCell ⟨L,2,none⟩ c).setCell ⟨L,3,none⟩ a) :=
  (((((((ab.refl [l,L] z6).setCell (Q0 (by simp)) _).setCell (Q0 (by simp)) _).setCell (Q0 (by simp)) _).setCell (Q0 (by simp)) _).setCell (Q0 (by simp)) _).setCell (Q0 (by simp)) _).setCell (Q0 (by simp)) _
def Dx(fs:Fs)(k0:Nat)(w:World)(e:Ending)(w':World):Prop :=
  (if((bK fs k0).1.1==0)=true then ∃(H:Nat->Hd) (g:Nat) (a7:Option Addr) (n7 c7:Nat),
      e=.returned (.tuple #[.agg #[.slice (H 6).ao (bK fs k0).2.2.sts.length (H 6).cap,.slice a7 n7 c7,.slice (some ⟨g,0,none⟩) (bK fs k0).2.2.sts.length (bK fs k0).2.2.sts.length],gU cY]) /\
      gj w' (bK fs k0).2.2.sts H/\w'.heap[g]?=some (.cells (kK (jZ (bK fs k0).2.2.sts (bK fs k0).2.2.sts.length)).toArray 38 (0,0))/\(∀k,f9 H k->w.heap.size<=k)/\w.heap.size<=g
   else e=.returned (.tuple #[.agg #[.slice none 0 0,.slice none 0 0,.slice none 0 0],gU (bK fs k0).1]))/\ab [] w w'
theorem Pi(ht:bi H I k M y1)(ar:n<M.length)(al:∀j,j<M.length->(ak M j).size<=1024) :
    Calls prog 53 #[.pointer (some ⟨I,0,none⟩),.int .i64 n] H fun e y=>Dx M n H e y:=by
  have bd:=ht.lt;obtain⟨i0,hi,ax,aS,a5⟩:=Rd P9;have HG:=hI (wS M al n);obtain⟨W,hW⟩:∃W,W=(H.alloc (.cells #[.slice none 0 0,.slice none 0 0,.slice none 0 0] 78)).alloc (.cells #[.int .i64 0,.string ⟨#[]⟩,.int .i64 0,.int .i64 0] 87):=⟨_,rfl⟩
  have hK:ab [] H W:=by rw[hW];exact((ab.refl [] _).alloc _).alloc _
  have hA:W.heap[H.heap.size]?=some (.cells #[.slice none 0 0,.slice none 0 0,.slice none 0 0] 78 (0,0)):=by
    rw[hW];exact((ab.refl [] _).alloc _).get (QR _ _) (by simp)
  have hF:W.heap[H.heap.size+1]?=some (.cells bA 87 (0,0)):=by
    rw[hW];have e:(H.alloc (.cells #[.slice none 0 0,.slice none 0 0,.slice none 0 0] 78)).heap.size=H.heap.size+1:=by simp
    rw[<-e];exact QR _ _
  have HW:=hI hW.symm;have RD:=Mb I k n M y1 W (ht.kept hK (by simp)) ar al;have ai:=hI RD;clear RD hW;unfold Dx;generalize bK M n=R at *;obtain⟨⟨r,pf,pl,pc⟩,bc,d'⟩:=R;simp only[gU,cY]at ai HG ⊢;generalize d'.sts=l at *;generalize d'.rbl=rb at *;go_enter func53,ntmps53;go_wp2_with fail;rw[HW.out];refine QT ai.out ?_;rintro e a ⟨u,w⟩;have L:=w.get hA (by simp);have ac:=w.get hF (by simp);have hz:=w.size;have ba:=ae hF
  cases hr:(r==0)
  · have aT:(r != 0)=true:=by simp[bne,hr]
    simp only[hr,Rs,Sq]at u ⊢;subst u;have a0:a.cell? ⟨H.heap.size,0,none⟩=some (.slice none 0 0):=by rw[aa L];rfl
    have a1:a.cell? ⟨H.heap.size,1,none⟩=some (.slice none 0 0):=by rw[aa L];rfl
    have a2:a.cell? ⟨H.heap.size,2,none⟩=some (.slice none 0 0):=by rw[aa L];rfl
    obtain⟨z0,z1,z2,z3⟩:=b8 ac;have ya:=am L;have yf:=am ac;have A:=ae L;have C:=ae ac;go_wp2_with fail
    go_region
    all_goals go_wp2
    all_goals exact QX (v:=.tuple #[.agg #[.slice none 0 0,.slice none 0 0,.slice none 0 0],.agg #[.int .i64 r,.string pf,.int .i64 pl,.int .i64 pc]]) (by simp[results,results53,go_sem,a0,a1,a2,z0,z1,z2,z3,A,C]) rfl ⟨rfl,(((nh (hK.trans w) (QQ _) (TN _) _ _ _ _ _ _ _).alloc _).alloc _).drew⟩
  · have aT:(r != 0)=false:=by simp[bne,hr]
    simp only[hr,TY]at u ⊢;obtain⟨H0,rfl,an,ap⟩:=u;obtain⟨hS,hT⟩:=an.trim;have ag:H0 6=uT l H0 6:=(od l H0 6 (Q0 rfl)).symm;rw[ag];have hN:∀i,f9 (uT l H0) i->i<a.heap.size/\H.heap.size+2<=i:=fun i p=>⟨(hT i p).1,by have:=ap i (hT i p).2;omega⟩
    clear an ap hT ag;generalize uT l H0=b at *;generalize (H0 7).ao=h at *;generalize (H0 7).cap=g at *;generalize rb.length=m at *;clear H0;have S:=hI hN;have a6:=HG.out.ok.len;obtain⟨f,N⟩:∃f,f=(a.alloc (.cells #[.slice (b 6).ao l.length (b 6).cap,.slice h m g] 76)).alloc (.cells #[.int .i64 0,.string ⟨#[]⟩,.int .i64 0,.int .i64 0] 87):=⟨_,rfl⟩
    have k3:ab [] a f:=by rw[N];exact((ab.refl [] _).alloc _).alloc _
    have B3:f.heap[a.heap.size]?=some (.cells #[.slice (b 6).ao l.length (b 6).cap,.slice h m g] 76 (0,0)):=by
      rw[N];exact((ab.refl [] _).alloc _).get (QR _ _) (by simp)
    have F:f.heap.size=a.heap.size+2:=by rw[N];simp
    have Q:=hS.Va k3;have R3:dF f a.heap.size 0 l b:=⟨⟨_,_,B3,rfl⟩,Q⟩;have r0:f.cell? ⟨a.heap.size,0,none⟩=some (.slice (b 6).ao l.length (b 6).cap):=by rw[aa B3];rfl
    have r1:f.cell? ⟨a.heap.size,1,none⟩=some (.slice h m g):=by rw[aa B3];rfl
    have a3:Hid (∀y,ab [] f y->Calls prog 80 #[.pointer (some ⟨a.heap.size,0,none⟩)] y fun e a4=>e=.returned (.int .i64 l.length)/\a4=y):=fun y q=>eM a.heap.size 0 l b y (R3.Va q)
    have be:Hid (∀y,ab [] f y->y.cell? ⟨a.heap.size,0,none⟩=some (.slice (b 6).ao l.length (b 6).cap)/\y.cell? ⟨a.heap.size,1,none⟩=some (.slice h m g)):=fun y q=>by
      have q2:=q.get B3 (by simp);exact⟨by rw[aa q2];rfl,by rw[aa q2];rfl⟩
    have m1:=fun H=>dB (P:=prog) H 54 38 i0 _ underlying54 hi ax l.length 6 aS (by rw[a5];omega) (by omega)
    obtain⟨E,ad⟩:∃E,E=madeCells (Value.agg #[.string ⟨#[]⟩,.int .i64 0,.int .i64 0,.string ⟨#[]⟩,.int .i64 0,.int .i64 0]).cells (l.length*6):=⟨_,rfl⟩
    have af:Hid (E=(kK (jk l 0)).toArray):=by show _=_;rw[ad,IK,LR]
    rw[<-ad]at m1;clear ad hN hS;have az:=hI N.symm;clear N
    go_upto_region 4 with fail
    rw[az.out]
    go_region_held3 (fun y=>y.cell? ⟨a.heap.size,0,none⟩=some (.slice (b 6).ao l.length (b 6).cap)/\y.cell? ⟨a.heap.size,1,none⟩=some (.slice h m g)) (go_keep) (first | (go_at_call 80;refine(a3.out _ (by first | exact(ab.refl [] f).drew | exact((ab.refl [] f).alloc _).drew | exact(ab.refl [] f).drew.alloc _)).mono ?_;rintro e wc ⟨rfl,T⟩;rw[T]))
    · obtain⟨s,c⟩:∃s,s=((f.alloc (.cells E 38)).alloc (.cells #[.slice (b 6).ao l.length (b 6).cap,.slice h m g,.slice (some ⟨a.heap.size+2,0,none⟩) l.length l.length] 78)).drew:=⟨_,rfl⟩
      have U:ab [] f s:=by rw[c];exact(((ab.refl [] _).alloc _).alloc _).drew
      have B:s.heap[a.heap.size+2+1]?=some (.cells #[.slice (b 6).ao l.length (b 6).cap,.slice h m g,.slice (some ⟨a.heap.size+2,0,none⟩) l.length l.length] 78 (0,0)):=by
        rw[c];have e1:(f.alloc (.cells E 38)).heap.size=a.heap.size+2+1:=by simp[F]
        have e:=QR (f.alloc (.cells E 38)) (.cells #[.slice (b 6).ao l.length (b 6).cap,.slice h m g,.slice (some ⟨a.heap.size+2,0,none⟩) l.length l.length] 78);rw[e1]at e;exact(ab.refl [] _).drew.get e (by simp)
      have G4:s.heap[a.heap.size+2]?=some (.cells (kK (jk l 0)).toArray 38 (0,0)):=by
        rw[c,<-af.out];have e:=((ab.refl [] (f.alloc (.cells E 38))).alloc (.cells #[.slice (b 6).ao l.length (b 6).cap,.slice h m g,.slice (some ⟨a.heap.size+2,0,none⟩) l.length l.length] 78)).drew.get (QR _ _) (by simp);rw[F]at e;exact e
      rw[<-c];clear c;have Y:kB s (a.heap.size+2+1) 0 l b (a.heap.size+2) (jk l 0):=⟨⟨⟨_,_,B,rfl⟩,Q.Va U⟩,⟨_,_,B,by rw[sX l 0 (Rn _)];rfl⟩,G4⟩;have HJ:=hI (oy (a.heap.size+2+1) 0 (a.heap.size+2) l b s Y HG.out.ok HG.out.prf (by omega) (fun x hx=>by have:=S.out x hx;omega));have O:=(w.trans k3).trans U;have X:=O.get hA (by simp);have Z:=O.get hF (by simp);clear Y T;go_wp2_with fail;refine QT HJ.out ?_;rintro e d ⟨rfl,K,o⟩;have D:=o.get B (by simp);have t:=o.get X (by simp;omega);have z:=o.get Z (by simp;omega);have b0:d.cell? ⟨a.heap.size+2+1,0,none⟩=some (.slice (b 6).ao l.length (b 6).cap):=by rw[aa D];rfl
      have b1:d.cell? ⟨a.heap.size+2+1,1,none⟩=some (.slice h m g):=by rw[aa D];rfl
      have b2:d.cell? ⟨a.heap.size+2+1,2,none⟩=some (.slice (some ⟨a.heap.size+2,0,none⟩) l.length l.length):=by rw[aa D];rfl
      have a0:d.cell? ⟨H.heap.size,0,none⟩=some (.slice none 0 0):=by rw[aa t];rfl
      have a1:d.cell? ⟨H.heap.size,1,none⟩=some (.slice none 0 0):=by rw[aa t];rfl
      have a2:d.cell? ⟨H.heap.size,2,none⟩=some (.slice none 0 0):=by rw[aa t];rfl
      obtain⟨z0,z1,z2,z3⟩:=b8 z;have ya:=am t;have yf:=am z;have A:=ae t;have C:=ae z
      have KW:ab [] H d:=by
        have q:=(hK.trans O);exact⟨o.os.trans q.os,o.tape.trans q.tape,o.output.trans q.output,Q1 q.size o.size,fun i p _=>(o.block i (QW p q.size) (by simp;omega)).trans (q.block i p (by simp))⟩
      have V:=oO d H.heap.size (H.heap.size+1);have J:Hid (gj d l b):=K.recd.sts;have G:=hI K.arr;have v:=hI V;clear K V D t z B X Z G4;go_wp2
      exact QX (v:=.tuple #[.agg #[.slice (b 6).ao l.length (b 6).cap,.slice h m g,.slice (some ⟨a.heap.size+2,0,none⟩) l.length l.length],.agg #[.int .i64 0,.string ⟨#[]⟩,.int .i64 0,.int .i64 0]]) (by simp[results,results53,go_sem,a0,a1,a2,z0,z1,z2,z3]) rfl
        ⟨⟨b,a.heap.size+2,⟨h,m,g,rfl⟩,J.out.kept (v.out _ _ _ _ _ _ _) (fun i p=>by have:=S.out i p;simp;omega),(v.out _ _ _ _ _ _ _).get G.out (by simp;omega),fun i p=>by have:=S.out i p;omega,by omega⟩,nh KW (QQ _) (TN _) _ _ _ _ _ _ _⟩
    · obtain⟨s,c⟩:∃s,s=((f.alloc (.cells #[.slice (b 6).ao l.length (b 6).cap,.slice h m g,.slice (some ⟨a.heap.size+2+1,0,none⟩) l.length l.length] 78)).alloc (.cells E 38)).drew:=⟨_,rfl⟩
      have U:ab [] f s:=by rw[c];exact(((ab.refl [] _).alloc _).alloc _).drew
      have B:s.heap[a.heap.size+2]?=some (.cells #[.slice (b 6).ao l.length (b 6).cap,.slice h m g,.slice (some ⟨a.heap.size+2+1,0,none⟩) l.length l.length] 78 (0,0)):=by
        rw[c];have e:=((ab.refl [] (f.alloc (.cells #[.slice (b 6).ao l.length (b 6).cap,.slice h m g,.slice (some ⟨a.heap.size+2+1,0,none⟩) l.length l.length] 78))).alloc (.cells E 38)).drew.get (QR _ _) (by simp);rw[F]at e;exact e
      have G4:s.heap[a.heap.size+2+1]?=some (.cells (kK (jk l 0)).toArray 38 (0,0)):=by
        rw[c,<-af.out];have e1:(f.alloc (.cells #[.slice (b 6).ao l.length (b 6).cap,.slice h m g,.slice (some ⟨a.heap.size+2+1,0,none⟩) l.length l.length] 78)).heap.size=a.heap.size+2+1:=by simp[F]
        have e:=QR (f.alloc (.cells #[.slice (b 6).ao l.length (b 6).cap,.slice h m g,.slice (some ⟨a.heap.size+2+1,0,none⟩) l.length l.length] 78)) (.cells E 38);rw[e1]at e;exact(ab.refl [] _).drew.get e (by simp)
      rw[<-c];clear c;have Y:kB s (a.heap.size+2) 0 l b (a.heap.size+2+1) (jk l 0):=⟨⟨⟨_,_,B,rfl⟩,Q.Va U⟩,⟨_,_,B,by rw[sX l 0 (Rn _)];rfl⟩,G4⟩;have HJ:=hI (oy (a.heap.size+2) 0 (a.heap.size+2+1) l b s Y HG.out.ok HG.out.prf (by omega) (fun x hx=>by have:=S.out x hx;omega));have O:=(w.trans k3).trans U;have X:=O.get hA (by simp);have Z:=O.get hF (by simp);clear Y T;go_wp2_with fail;refine QT HJ.out ?_;rintro e d ⟨rfl,K,o⟩;have D:=o.get B (by simp);have t:=o.get X (by simp;omega);have z:=o.get Z (by simp;omega);have b0:d.cell? ⟨a.heap.size+2,0,none⟩=some (.slice (b 6).ao l.length (b 6).cap):=by rw[aa D];rfl
      have b1:d.cell? ⟨a.heap.size+2,1,none⟩=some (.slice h m g):=by rw[aa D];rfl
      have b2:d.cell? ⟨a.heap.size+2,2,none⟩=some (.slice (some ⟨a.heap.size+2+1,0,none⟩) l.length l.length):=by rw[aa D];rfl
      have a0:d.cell? ⟨H.heap.size,0,none⟩=some (.slice none 0 0):=by rw[aa t];rfl
      have a1:d.cell? ⟨H.heap.size,1,none⟩=some (.slice none 0 0):=by rw[aa t];rfl
      have a2:d.cell? ⟨H.heap.size,2,none⟩=some (.slice none 0 0):=by rw[aa t];rfl
      obtain⟨z0,z1,z2,z3⟩:=b8 z;have ya:=am t;have yf:=am z;have A:=ae t;have C:=ae z
      have KW:ab [] H d:=by
        have q:=(hK.trans O);exact⟨o.os.trans q.os,o.tape.trans q.tape,o.output.trans q.output,Q1 q.size o.size,fun i p _=>(o.block i (QW p q.size) (by simp;omega)).trans (q.block i p (by simp))⟩
      have V:=oO d H.heap.size (H.heap.size+1);have J:Hid (gj d l b):=K.recd.sts;have G:=hI K.arr;have v:=hI V;clear K V D t z B X Z G4;go_wp2
      exact QX (v:=.tuple #[.agg #[.slice (b 6).ao l.length (b 6).cap,.slice h m g,.slice (some ⟨a.heap.size+2+1,0,none⟩) l.length l.length],.agg #[.int .i64 0,.string ⟨#[]⟩,.int .i64 0,.int .i64 0]]) (by simp[results,results53,go_sem,a0,a1,a2,z0,z1,z2,z3]) rfl
        ⟨⟨b,a.heap.size+2+1,⟨h,m,g,rfl⟩,J.out.kept (v.out _ _ _ _ _ _ _) (fun i p=>by have:=S.out i p;simp;omega),(v.out _ _ _ _ _ _ _).get G.out (by simp;omega),fun i p=>by have:=S.out i p;omega,by omega⟩,nh KW (QQ _) (TN _) _ _ _ _ _ _ _⟩
    · obtain⟨s,c⟩:∃s,s=((f.alloc (.cells #[.slice (b 6).ao l.length (b 6).cap,.slice h m g,.slice (some ⟨a.heap.size+2+1,0,none⟩) l.length l.length] 78)).alloc (.cells E 38)).drew:=⟨_,rfl⟩
      have U:ab [] f s:=by rw[c];exact(((ab.refl [] _).alloc _).alloc _).drew
      have B:s.heap[a.heap.size+2]?=some (.cells #[.slice (b 6).ao l.length (b 6).cap,.slice h m g,.slice (some ⟨a.heap.size+2+1,0,none⟩) l.length l.length] 78 (0,0)):=by
        rw[c];have e:=((ab.refl [] (f.alloc (.cells #[.slice (b 6).ao l.length (b 6).cap,.slice h m g,.slice (some ⟨a.heap.size+2+1,0,none⟩) l.length l.length] 78))).alloc (.cells E 38)).drew.get (QR _ _) (by simp);rw[F]at e;exact e
      have G4:s.heap[a.heap.size+2+1]?=some (.cells (kK (jk l 0)).toArray 38 (0,0)):=by
        rw[c,<-af.out];have e1:(f.alloc (.cells #[.slice (b 6).ao l.length (b 6).cap,.slice h m g,.slice (some ⟨a.heap.size+2+1,0,none⟩) l.length l.length] 78)).heap.size=a.heap.size+2+1:=by simp[F]
        have e:=QR (f.alloc (.cells #[.slice (b 6).ao l.length (b 6).cap,.slice h m g,.slice (some ⟨a.heap.size+2+1,0,none⟩) l.length l.length] 78)) (.cells E 38);rw[e1]at e;exact(ab.refl [] _).drew.get e (by simp)
      rw[<-c];clear c;have Y:kB s (a.heap.size+2) 0 l b (a.heap.size+2+1) (jk l 0):=⟨⟨⟨_,_,B,rfl⟩,Q.Va U⟩,⟨_,_,B,by rw[sX l 0 (Rn _)];rfl⟩,G4⟩;have HJ:=hI (oy (a.heap.size+2) 0 (a.heap.size+2+1) l b s Y HG.out.ok HG.out.prf (by omega) (fun x hx=>by have:=S.out x hx;omega));have O:=(w.trans k3).trans U;have X:=O.get hA (by simp);have Z:=O.get hF (by simp);clear Y T;go_wp2_with fail;refine QT HJ.out ?_;rintro e d ⟨rfl,K,o⟩;have D:=o.get B (by simp);have t:=o.get X (by simp;omega);have z:=o.get Z (by simp;omega);have b0:d.cell? ⟨a.heap.size+2,0,none⟩=some (.slice (b 6).ao l.length (b 6).cap):=by rw[aa D];rfl
      have b1:d.cell? ⟨a.heap.size+2,1,none⟩=some (.slice h m g):=by rw[aa D];rfl
      have b2:d.cell? ⟨a.heap.size+2,2,none⟩=some (.slice (some ⟨a.heap.size+2+1,0,none⟩) l.length l.length):=by rw[aa D];rfl
      have a0:d.cell? ⟨H.heap.size,0,none⟩=some (.slice none 0 0):=by rw[aa t];rfl
      have a1:d.cell? ⟨H.heap.size,1,none⟩=some (.slice none 0 0):=by rw[aa t];rfl
      have a2:d.cell? ⟨H.heap.size,2,none⟩=some (.slice none 0 0):=by rw[aa t];rfl
      obtain⟨z0,z1,z2,z3⟩:=b8 z;have ya:=am t;have yf:=am z;have A:=ae t;have C:=ae z
      have KW:ab [] H d:=by
        have q:=(hK.trans O);exact⟨o.os.trans q.os,o.tape.trans q.tape,o.output.trans q.output,Q1 q.size o.size,fun i p _=>(o.block i (QW p q.size) (by simp;omega)).trans (q.block i p (by simp))⟩
      have V:=oO d H.heap.size (H.heap.size+1);have J:Hid (gj d l b):=K.recd.sts;have G:=hI K.arr;have v:=hI V;clear K V D t z B X Z G4;go_wp2
      exact QX (v:=.tuple #[.agg #[.slice (b 6).ao l.length (b 6).cap,.slice h m g,.slice (some ⟨a.heap.size+2+1,0,none⟩) l.length l.length],.agg #[.int .i64 0,.string ⟨#[]⟩,.int .i64 0,.int .i64 0]]) (by simp[results,results53,go_sem,a0,a1,a2,z0,z1,z2,z3]) rfl
        ⟨⟨b,a.heap.size+2+1,⟨h,m,g,rfl⟩,J.out.kept (v.out _ _ _ _ _ _ _) (fun i p=>by have:=S.out i p;simp;omega),(v.out _ _ _ _ _ _ _).get G.out (by simp;omega),fun i p=>by have:=S.out i p;omega,by omega⟩,nh KW (QQ _) (TN _) _ _ _ _ _ _ _⟩
structure nH(w:World)(x:Nat)(fs:Fs)(l:List St)(H:Nat->Hd)(g:Nat):Prop where
  ver:∃(a7:Option Addr) (n7 c7:Nat),iI w x fs true (.slice (H 6).ao l.length (H 6).cap) (.slice a7 n7 c7) (.slice (some ⟨g,0,none⟩) l.length l.length)
  sts:gj w l H
  arr:w.heap[g]?=some (.cells (kK (jZ l l.length)).toArray 38 (0,0))
  far:x≠g/\∀k,f9 H k->k≠x
theorem nH.anyR(h:nH T S y0 x o i):lh T S y0:=by
  obtain⟨b,a,c,h⟩:=h.ver;exact h.anyR
theorem nH.Va(h:nH T S y0 x o i)(k:ab [] T g):nH g S y0 x o i:=by
  obtain⟨a,c,b,d⟩:=h.ver;exact⟨⟨a,c,b,bi.kept d k (by simp)⟩,h.sts.Va k,k.get h.arr (by simp),h.far⟩
theorem nH.tell(h:nH T S y0 x o i):TellAt T S 10 i (jZ x x.length):=by
  obtain⟨b,d,c,a⟩:=h.ver;refine⟨⟨_,_,a.1,?_⟩,h.arr⟩;rw[oM];rfl
theorem Im(h:ab zt T g)(a:T.heap.size<=S)(d b c e:Value) :
    ab zt T ((((g.setCell ⟨S,0,none⟩ d).setCell ⟨S,1,none⟩ b).setCell ⟨S,2,none⟩ c).setCell ⟨S,3,none⟩ e) :=
  (((h.setCell (QU a) _).setCell (QU a) _).setCell (QU a) _).setCell (QU a) _
theorem wh :
    ab [L] z6 ((((z6.setCell ⟨L,0,none⟩ y4).setCell ⟨L,1,none⟩ y5).setCell ⟨L,2,none⟩ y6).setCell ⟨L,3,none⟩ y7) :=
  ((((ab.refl [L] z6).setCell (Q0 (by simp)) _).setCell (Q0 (by simp)) _).setCell (Q0 (by simp)) _).setCell (Q0 (by simp)) _
theorem rr(h:ab zt T g)(a:S∈zt∨T.heap.size<=S)(b:i∈zt∨T.heap.size<=i)(d j m c k e f l:Value) :
    ab zt T ((((((((g.setCell ⟨S,9,none⟩ d).setCell ⟨S,10,none⟩ j).setCell ⟨S,11,none⟩ m).setCell ⟨S,12,none⟩ c).setCell ⟨i,0,none⟩ k).setCell ⟨i,1,none⟩ e).setCell ⟨i,2,none⟩ f).setCell ⟨i,3,none⟩ l) :=
  (((((((h.setCell a _).setCell a _).setCell a _).setCell a _).setCell b _).setCell b _).setCell b _).setCell b _
def FR(fs:Fs)(k0 x:Nat)(w:World)(e:Ending)(w':World):Prop :=
  (if((bK fs k0).1.1==0)=true then e=.returned (.tuple #[gU cY,.int .i64 0])/\∃H g,nH w' x fs (bK fs k0).2.2.sts H g/\w.heap.size<=g/\∀k,f9 H k->w.heap.size<=k
   else e=.returned (.tuple #[gU (bK fs k0).1,.int .i64 6])/\jR w' x fs)/\ab [x] w w'
theorem FB(h:lh H k M)(hf:bF M z5=n)(D:n<M.length)(L:∀j,j<M.length->(ak M j).size<=1024) :
    Calls prog 36 #[.pointer (some ⟨k,0,none⟩),.string z5] H fun e T=>FR M n k H e T:=by
  have ar:=h.lt;obtain⟨W,B⟩:∃W,W=H.alloc (.cells #[.int .i64 0,.string ⟨#[]⟩,.int .i64 0,.int .i64 0] 87):=⟨_,rfl⟩
  have hK:ab [] H W:=by rw[B];exact(ab.refl [] _).alloc _
  have Y:W.heap[H.heap.size]?=some (.cells bA 87 (0,0)):=by rw[B];exact QR _ _
  have A:=h.kept hK (by simp);have HW:=hI B.symm
  have FA:Calls prog 50 #[.pointer (some ⟨k,0,none⟩),.string z5] W fun e T=>e=.returned (.int .i64 n)/\T=W:=by
    obtain⟨an,a,b,c,hv⟩:=A;rw[<-hf];exact lM k _ M _ z5 W hv
  have O:=hI FA;have DA:=vV k M W A;have G:=hI DA;clear FA DA B;have ad:¬((n:Int)<0):=by omega
  have C:=fun(U:World) (i:jR U k M)=>Pi k _ n M _ U i D L
  unfold Dx at C;have u:=hI C;clear C;unfold FR;generalize bK M n=R at *;obtain⟨⟨r,pf,pl,pc⟩,af,d'⟩:=R;simp only[gU,cY]at u ⊢;generalize d'.sts=l at *;go_enter func36,ntmps36;go_wp2_with fail;rw[HW.out];refine QT O.out ?_;rintro e w9 ⟨rfl,rfl⟩;go_wp2_with fail;refine QT G.out ?_;rintro e U ⟨rfl,i,q⟩;have N:=q.get Y (by simp;omega);go_wp2_with fail;refine QT (u.out _ i) ?_;rintro e t ⟨d,m⟩;have p:=m.get N (by simp);have f:=i.kept m (by simp);have y:ab [k] H t:=((hK.mono (by simp)).trans q).trans (m.mono (by simp));obtain⟨Z,z1,z2,z3⟩:=b8 p;have yf:=am p;have o:=ae p;have ag:H.heap.size≠k:=by omega
  have X:k≠H.heap.size:=by omega
  cases z:(r==0)
  · have P:(r != 0)=true:=by simp[bne,z]
    simp only[z,Rs,Sq]at d ⊢;subst d;have S:=hI f;clear f i A;go_wp2
    exact QX (v:=.tuple #[.agg #[.int .i64 r,.string pf,.int .i64 pl,.int .i64 pc],.int .i64 6]) (by simp[results,results36,go_sem,Z,z1,z2,z3,o]) rfl
      ⟨⟨rfl,S.out.kept (((wh t H.heap.size _ _ _ _).alloc _).alloc _) (by simp;omega)⟩,((Im y (QQ _) _ _ _ _).alloc _).alloc _⟩
  · have P:(r != 0)=false:=by simp[bne,z]
    simp only[z,TY]at d ⊢;obtain⟨I,g,a7,n7,V,rfl,hS,hA,hN,hg⟩:=d;have ai:=ae Y;have ap:=q.size;have al:=m.size;obtain⟨c9,J,K,Q⟩:=iI.cells f;have yv:=bi.free f;have HT:=hI (iI.turn f true (.slice (I 6).ao l.length (I 6).cap) (.slice a7 n7 V) (.slice (some ⟨g,0,none⟩) l.length l.length));have E:=hI hS;have F:=hI hA;have s:=hI hN;have ac:k<t.heap.size:=bi.lt f;clear f i A hS hA hN;unfold NN at J K Q;unfold Df at HT;go_wp2
    exact QX (v:=.tuple #[.agg #[.int .i64 0,.string ⟨#[]⟩,.int .i64 0,.int .i64 0],.int .i64 0]) (by simp[results,results36,go_sem,Z,z1,z2,z3,o]) rfl
      ⟨⟨rfl,I,g,⟨⟨a7,n7,V,bi.kept HT.out (((wh _ H.heap.size _ _ _ _).alloc _).alloc _) (by simp;omega)⟩,E.out.kept (((rr (ab.refl [k,H.heap.size] t) (Q0 (by simp)) (Q0 (by simp)) _ _ _ _ _ _ _ _).alloc _).alloc _) (fun x w=>by have:=s.out x w;simp;omega),(((rr (ab.refl [k,H.heap.size] t) (Q0 (by simp)) (Q0 (by simp)) _ _ _ _ _ _ _ _).alloc _).alloc _).get F.out (by simp;omega),⟨by omega,fun x w=>by have:=s.out x w;omega⟩⟩,by omega,fun x w=>by have:=s.out x w;omega⟩,
        ((rr y (Q0 (by simp)) (QU (QQ _)) _ _ _ _ _ _ _ _).alloc _).alloc _⟩
def mC(l:List St)(lab:ByteArray)(n:Nat):Bool:=match l[n]? with | some s=>(s.label.toList==lab.toList)&&qO s.kind | none=>false
def gC(l:List St)(lab:ByteArray):Option Nat:=(List.range l.length).find? (mC l lab)
theorem yO(h:b<w.length):mC w z5 b=((w[b].label.toList==z5.toList)&&qO w[b].kind):=by
 unfold mC;rw[QO h]
theorem sF(a:List St)(H:Nat->Hd)(w:World)(h:dF w l L a H)(B:a.length<=1073741824) :
  Calls prog 134 #[.pointer (some ⟨l,L,none⟩),.string z5] w fun e x=>e=.returned (.int .i64 (nz (gC a z5)))/\ab [] w x:=by
 have t:=h.lt;go_enter func134,ntmps134;go_wp2
 go_loopg [5] a.length (fun g i wr=>∃k:Nat,k<=a.length/\g=a.length-k/\i=.int .i64 k/\Hid (∀i,i<k->mC a z5 i=false)/\ab [] w wr)
 case atStart=>exact⟨0,by omega,by omega,rfl,fun i q=>by omega,ab.refl _ _⟩
 case round =>
  obtain⟨k,z,G,rfl,b,o⟩:=hrel;have m:=h.Va o;have c:=m.at
  by_cases d:k<a.length
  ·obtain⟨g,u,F,M,E,J,N,I,A,C,K,D⟩:=m.sts.stmt k d
   rw[u]at c;have n:=hI (yO a z5 k d)
   have next:Hid (mC a z5 k=false->∀i,i<k+1->mC a z5 i=false):=by
    intro y i q
    by_cases e:i=k
    ·subst e;exact y
    ·exact b.out i (by omega)
   generalize a[k]=s at *
   cases r:(s.label.toList==z5.toList)
   ·have j:Hid (mC a z5 k=false):=by show _=_;rw[n.out,r];simp
    clear n m;go_wp2
    go_roundg (a.length-(k+1))
    case measure=>omega
    case rel=>exact⟨k+1,by omega,rfl,by go_num,next.out j.out,o⟩
   ·cases p:qO s.kind
    ·have j:Hid (mC a z5 k=false):=by show _=_;rw[n.out,p];simp
     clear n m;go_wp2_with (go_at_call 160;refine(dc s.kind _ _ _ _ _ _ _ _).mono ?_;rintro e v ⟨rfl,f⟩;rw[p])
     go_roundg (a.length-(k+1))
     case measure=>omega
     case rel=>exact⟨k+1,by omega,rfl,by go_num,next.out j.out,o.trans f⟩
    ·have j:Hid (gC a z5=some k):=nU d (by rw[n.out,r,p];rfl) b.out
     clear n m;go_wp2_with (go_at_call 160;refine(dc s.kind _ _ _ _ _ _ _ _).mono ?_;rintro e v ⟨rfl,f⟩;rw[p]);go_ret;exact⟨QM (by rw[j.out];rfl),o.trans f⟩
  ·have j:Hid (gC a z5=none):=mH (fun i q=>b.out i (by omega))
   clear m;go_wp2;go_ret;exact⟨QM (by rw[j.out];rfl),o⟩
def sM(k:Int):ByteArray:=if(k==2)=true then⟨#[36,102]⟩ else if(k==3)=true then⟨#[36,101]⟩ else if(k==4)=true then⟨#[36,97]⟩ else⟨#[36,112]⟩
theorem Ce:Calls prog 182 #[.int .i64 z7] H fun e f=>e=.returned (.string (sM z7))/\f=H:=by
 cases b:(z7==2)
 ·cases c:(z7==3)
  ·cases d:(z7==4)
   ·have a:Hid (sM z7=⟨#[36,112]⟩):=by show _=_;simp only[sM,b,c,d];rfl
    go_enter func182,ntmps182;go_wp2;go_ret;exact⟨by rw[a.out];rfl,rfl⟩
   ·have a:Hid (sM z7=⟨#[36,97]⟩):=by show _=_;simp only[sM,b,c,d];rfl
    go_enter func182,ntmps182;go_wp2;go_ret;exact⟨by rw[a.out];rfl,rfl⟩
  ·have a:Hid (sM z7=⟨#[36,101]⟩):=by show _=_;simp only[sM,b,c];rfl
   go_enter func182,ntmps182;go_wp2;go_ret;exact⟨by rw[a.out];rfl,rfl⟩
 ·have a:Hid (sM z7=⟨#[36,102]⟩):=by show _=_;simp only[sM,b];rfl
  go_enter func182,ntmps182;go_wp2;go_ret;exact⟨by rw[a.out];rfl,rfl⟩
def ny(s:St)(k:Nat):ByteArray:=(s.U5.take k).foldl (fun t x=>t++(⟨#[32]⟩++x)) (s.label++⟨#[32]⟩++sM s.kind)
def sQ(s:St):ByteArray:=ny s s.U5.length
theorem uJ(h:b<f.U5.length):ny f (b+1)=ny f b++(⟨#[32]⟩++f.U5[b]):=by
 unfold ny;rw[jo f.U5 b h,Sv];rfl
structure M4(s:St):Prop where
 label:s.label.size<=100000
 syms:∀x∈s.U5,x.size<=100000
theorem yH:(sM z7).size=2:=by
 unfold sM
 repeat' split
 all_goals rfl
theorem mF:(⟨#[32]⟩:ByteArray).size=1:=rfl
theorem uK(h:M4 f)(k:Nat)(b:k<=f.U5.length):(ny f k).size<=100003+k*100001:=by
 induction k with
 | zero =>
  unfold ny;have:=h.label;simp only[Tp,List.foldl_nil,Sc,mF,yH];omega
 | succ k a =>
  have c:=h.syms _ (Ra (show k<f.U5.length by omega));rw[uJ f k (by omega)];simp only[Sc,mF];have:=a (by omega);omega
def mP(l:List St)(n:Nat):Option ByteArray:=match l[n]? with
 | some s=>if(s.kind==2)=true then some (aL s) else none
 | none=>none
def jc(l:List St)(hs:List Nat)(k:Nat):List ByteArray:=(hs.take k).filterMap (mP l)
def eW(l:List St)(hs:List Nat):List ByteArray:=hs.filterMap (mP l)
theorem Fy(h:b<y.length)(c:y[b]<w.length)(a:(w[y[b]].kind==2)=true):jc w y (b+1)=jc w y b++[aL w[y[b]]]:=by
 unfold jc;rw[jo y b h,SS];have:mP w y[b]=some (aL w[y[b]]):=by unfold mP;rw[QO c];simp[a]
 simp[this]
theorem J1(h:b<y.length)(c:y[b]<w.length)(a:(w[y[b]].kind==2)=false):jc w y (b+1)=jc w y b:=by
 unfold jc;rw[jo y b h,SS];have:mP w y[b]=none:=by unfold mP;rw[QO c];simp[a]
 simp[this]
theorem Fx:(jc w y b).length<=y.length:=by
 unfold jc;have a:=Tn (mP w) (y.take b);have c:(y.take b).length<=y.length:=by simp;omega
 omega
theorem vg(h:dF H k n w a)(ok:iH w)(E:aw H zb (bB y))(al:y.length<=10000)(J:∀x∈y,x<w.length) :
  Calls prog 180 #[.pointer (some ⟨k,n,none⟩),.slice zb.ao y.length zb.cap] H fun e w'=>∃d:Hd,e=.returned (.slice d.ao (eW w y).length d.cap)/\aw w' d (aB (eW w y))/\(∀x,d.blk=some x->H.heap.size<=x)/\ab [] H w':=by
 obtain⟨i0,hi,R,U,ag⟩:=Rd js;have az:=ok.len;have HE:Hid (jc w y y.length=eW w y):=by show _=_;unfold jc eW;rw[RI]
 rw[<-HE.out];clear HE;obtain⟨S,v⟩:∃S,Hid (zb.ao=S):=⟨_,rfl⟩
 rw[v.out];go_enter func180,ntmps180;go_wp2
 go_loopg [5,6] y.length (fun gk sv i wr=>∃(b:Nat) (d:Hd),b<=y.length/\gk=y.length-b/\i=.int .i64 b/\sv=.slice d.ao (jc w y b).length d.cap/\aw wr d (aB (jc w y b))/\(∀x,d.blk=some x->H.heap.size<=x)/\ab [] H wr)
 case atStart=>exact⟨0,⟨none,0⟩,by omega,by omega,rfl,rfl,QY _ _ _ _,by intro x o;simp[Hd.blk]at o,ab.refl _ _⟩
 case round =>
  obtain⟨b,d,hk,hg,rfl,rfl,Q,N,L⟩:=hrel;have hr:=h.Va L;have ar:=Fx w y b
  by_cases p:b<y.length
  ·have g:=J y[b] (Ra p)
   have l:aw wr zb (bB y):=E.Vf (fun x o=>L.block x (E.lt o) (by simp))
   rcases l.ways with ⟨_,h0,_⟩ | ⟨gh,ai,eh,af,P,-⟩
   ·have:y.length=0:=h0
    omega
   have ch:=l.cell eh b (.int .i64 y[b]) (jP y b p);have V:S=some ⟨gh,0,none⟩:=by rw[<-v.out];exact eh
   subst V;have an:(b:Int)<y.length:=by omega
   have X:=hI (Fy w y b p g);have B:=hI (J1 w y b p g);have ax:=ok.syms y[b] g;clear eh af P l v;generalize y[b]=q at *;have VA:=mo w[q] (a (10+2*q)) (a (11+2*q));unfold ee at VA;have W:=hI VA;clear VA
   go_upto_region 6 with (go_at_call 97;refine(a9 k n q w a _ (by exact hr) g).mono ?_;rintro e m ⟨rfl,ac⟩;unfold ee)
   obtain⟨f,r⟩:∃f,f=m.alloc (.cells #[.int .i64 w[q].kind,.string w[q].label,.slice (a (10+2*q)).ao w[q].U5.length (a (10+2*q)).cap,.slice (a (11+2*q)).ao w[q].proof.length (a (11+2*q)).cap,.string w[q].fin.file,.int .i64 w[q].fin.line,.int .i64 w[q].fin.col,.int .i64 w[q].til] 158):=⟨_,rfl⟩
   have z:ab [] wr f:=by rw[r];exact ac.alloc _
   have s:f.heap[m.heap.size]?=some (.cells #[.int .i64 w[q].kind,.string w[q].label,.slice (a (10+2*q)).ao w[q].U5.length (a (10+2*q)).cap,.slice (a (11+2*q)).ao w[q].proof.length (a (11+2*q)).cap,.string w[q].fin.file,.int .i64 w[q].fin.line,.int .i64 w[q].fin.col,.int .i64 w[q].til] 158 (0,0)):=by rw[r];exact QR _ _
   rw[<-r];clear r;have u0:f.cell? ⟨m.heap.size,0,none⟩=some (.int .i64 w[q].kind):=by rw[aa s];rfl
   have u1:f.cell? ⟨m.heap.size,1,none⟩=some (.string w[q].label):=by rw[aa s];rfl
   have u2:f.cell? ⟨m.heap.size,2,none⟩=some (.slice (a (10+2*q)).ao w[q].U5.length (a (10+2*q)).cap):=by rw[aa s];rfl
   have u3:f.cell? ⟨m.heap.size,3,none⟩=some (.slice (a (11+2*q)).ao w[q].proof.length (a (11+2*q)).cap):=by rw[aa s];rfl
   have u4:f.cell? ⟨m.heap.size,4,none⟩=some (.string w[q].fin.file):=by rw[aa s];rfl
   have u5:f.cell? ⟨m.heap.size,5,none⟩=some (.int .i64 w[q].fin.line):=by rw[aa s];rfl
   have u6:f.cell? ⟨m.heap.size,6,none⟩=some (.int .i64 w[q].fin.col):=by rw[aa s];rfl
   have u7:f.cell? ⟨m.heap.size,7,none⟩=some (.int .i64 w[q].til):=by rw[aa s];rfl
   have T:=hr.Va z;have A:aw f d (aB (jc w y b)):=Q.Vf (fun x o=>z.block x (Q.lt o) (by simp));have Z:=(T.sts.syms q w[q] (QO g)).view;have C:=L.trans z
   cases h2:(w[q].kind==2)
   ·have I:=hI (B.out h2)
    clear X B;go_wp2
    go_roundg (y.length-(b+1))
    case measure=>omega
    case rel=>exact⟨b+1,d,by omega,rfl,by go_num,by rw[I.out],by rw[I.out];exact A,N,C⟩
   ·have I:=hI (X.out h2)
    clear X B;go_wp2_with (first | (go_at_call 189;refine(W.out _ (by exact Z) (by omega)).mono ?_;rintro e w5 ⟨rfl,k5⟩;have F:=A.Vf (fun x o=>(k5.alloc (.cells #[.string (aL w[q])] 9)).block x (A.lt o) (by simp))) | (at_builtin;refine aM _ rfl (.tmp 23) (.tmp 26) 61 rfl i0 (.string ⟨#[]⟩) 16 d (aB (jc w y b)) underlying61 hi R U ag rfl Rb rfl (by exact F) ⟨_,0,none⟩ 1 1 [.string (aL w[q])] rfl rfl ?d1 ?d2 Rb ?d3 ?d4 ?_))
    case d1=>intro j u M;match j,M with | 0,M=>simp at M;subst M;simp[Addr.add]
    case d2=>intro u hu;simp at hu;subst hu;rfl
    case d3=>simp only[aB];unfold maxLen;omega
    case d4=>simp only[aB];omega
    intro Y K w6 D t c;rw[dr (jc w y b) (aL w[q]),<-I.out]at D;have G:=(C.trans k5).alloc (.cells #[.string (aL w[q])] 9);have O:=G.grown t N
    have ap:H.heap.size<=Y:=by
     rcases c with e | e
     ·exact N Y e
     ·have:=G.size;simp at e this;omega
    have ad:Hid ((aB (jc w y b)).n+1=(jc w y (b+1)).length):=by show _=_;rw[I.out];simp[aB]
    rw[ad.out];clear t c F;go_wp2
    go_roundg (y.length-(b+1))
    case measure=>omega
    case rel=>exact⟨b+1,⟨some ⟨Y,0,none⟩,K⟩,by omega,rfl,by go_num,rfl,D,by intro x o;simp[Hd.blk]at o;omega,O⟩
  ·have e:b=y.length:=by omega
   subst e;go_wp2;go_ret;exact⟨d,rfl,Q,N,L⟩
theorem Cj(E:jT H N f.U5)(D:f.U5.length<=10000)(h:M4 f) :
  Calls prog 136 #[ee f N zb] H fun e I=>e=.returned (.string (sQ f))/\ab [] H I:=by
 unfold ee;have x:=h.label;have w:=yH f.kind;have P:Hid (f.label++⟨#[32]⟩++sM f.kind=ny f 0):=rfl;obtain⟨X,d⟩:∃X,X=H.alloc (.cells #[.int .i64 f.kind,.string f.label,.slice N.ao f.U5.length N.cap,.slice zb.ao f.proof.length zb.cap,.string f.fin.file,.int .i64 f.fin.line,.int .i64 f.fin.col,.int .i64 f.til] 158):=⟨_,rfl⟩
 have v:ab [] H X:=by rw[d];exact(ab.refl [] _).alloc _
 have j:X.heap[H.heap.size]?=some (.cells #[.int .i64 f.kind,.string f.label,.slice N.ao f.U5.length N.cap,.slice zb.ao f.proof.length zb.cap,.string f.fin.file,.int .i64 f.fin.line,.int .i64 f.fin.col,.int .i64 f.til] 158 (0,0)):=by rw[d];exact QR _ _
 have L:X.cell? ⟨H.heap.size,0,none⟩=some (.int .i64 f.kind):=by rw[aa j];rfl
 have z:X.cell? ⟨H.heap.size,1,none⟩=some (.string f.label):=by rw[aa j];rfl
 have G:=hI d.symm;clear d;go_enter func136,ntmps136
 go_upto_region 1 with fail
 rw[G.out]
 go_quiet ((go_at_call 182;exact Rc (Ce _ _)))
 rw[P.out];obtain⟨c,b⟩:∃c,c=X.drewN nq:=⟨_,rfl⟩
 rw[<-b];have o:ab [] H c:=by rw[b];exact v.drewN _
 have n:c.heap[H.heap.size]?=some (.cells #[.int .i64 f.kind,.string f.label,.slice N.ao f.U5.length N.cap,.slice zb.ao f.proof.length zb.cap,.string f.fin.file,.int .i64 f.fin.line,.int .i64 f.fin.col,.int .i64 f.til] 158 (0,0)):=by rw[b];exact((ab.refl [] X).drewN _).get j (by simp)
 have r:c.cell? ⟨H.heap.size,2,none⟩=some (.slice N.ao f.U5.length N.cap):=by rw[aa n];rfl
 have l:=E.Va o;have K:=ae n;clear b L z;go_wp2
 go_loopg [3,4] f.U5.length (fun g J i wr=>∃k:Nat,k<=f.U5.length/\g=f.U5.length-k/\i=.int .i64 k/\J=.string (ny f k)/\wr=c)
 case atStart=>exact⟨0,by omega,by omega,rfl,rfl,rfl⟩
 case round =>
  obtain⟨k,q,U,rfl,rfl,rfl⟩:=hrel
  by_cases a:k<f.U5.length
  ·have F:=uK f h k q
   have V:=h.syms _ (Ra a);have C:=(show Hid _ from(uJ f k a).symm);have M:(k:Int)<f.U5.length:=by omega
   rcases l with u | ⟨g,m,O,t,A,B,p,R,Q⟩
   ·rw[u]at a;simp at a
   ·have T:wr.cell? ⟨g,m+k,none⟩=some (.string f.U5[k]):=by rw[aa B];exact p k _ (QO a)
    rw[A]at r;have s:=uK f h (k+1) a;clear p;generalize f.U5[k]=y at *;generalize ny f k=S at *;go_wp2
    go_roundg (f.U5.length-(k+1))
    case measure=>omega
    case rel=>exact⟨k+1,by omega,rfl,by go_num,congrArg Value.string C.out,rfl⟩
  ·have e:k=f.U5.length:=by omega
   subst e;go_wp2;go_ret;exact⟨rfl,o⟩
end Go.Proofs.YtpddjjabfbfifaaGreat
