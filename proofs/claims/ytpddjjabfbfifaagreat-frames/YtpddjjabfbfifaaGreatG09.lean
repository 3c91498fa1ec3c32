import Derived.Test.YtpddjjabfbfifaaGreatG08
namespace Go.Proofs.YtpddjjabfbfifaaGreat
open Go.RowKit Tryz
set_option maxRecDepth 100000
set_option maxHeartbeats 40000000
variable{f I:World}{n i M:Nat}{T:List St}{o:Nat->Hd}{D zb:List Rw}{z6:List Nat}{z7:Fs}(z5:World)(z4:Int)(g L x:Nat)(w:List St)(d:Nat->Hd)(l:Nat)(y:List Rw)(S:List Nat)(N:Hd)(v:List nF)(k:World)(y0 y1 y2 y3:Value)(H:St)(a:Nat)(zt:Pl)(b:Nat)
structure kC(w:World)(b o:Nat)(l:List St)(H:Nat->Hd)(g:Nat)(L:List Rw):Prop where
 recd:dF w b o l H
 cell:∃arr t,w.heap[b]?=some (.cells arr t (0,0))/\arr[o+2]?=some (.slice (some ⟨g,0,none⟩) L.length L.length)
 arr:w.heap[g]?=some (.cells (kL L).toArray 38 (0,0))
theorem kC.Vb(h:kC f n i T o M D)(k:ab [] f I):kC I n i T o M D:=by
 obtain⟨a,t,c,b⟩:=h.cell;exact⟨h.recd.Vb k,⟨a,t,k.get c (by simp),b⟩,k.get h.arr (by simp)⟩
theorem kC.at2(h:kC f n i T o M D):f.cell? ⟨n,i+2,none⟩=some (.slice (some ⟨M,0,none⟩) D.length D.length):=by
 obtain⟨c,t,b,a⟩:=h.cell;rw[aa b];exact a
theorem kC.row(h:kC f n i T o M D)(k:Nat)(b:k<D.length) :
  f.cell? ⟨M,k*6,none⟩=some (.string D[k].label)/\f.cell? ⟨M,k*6+1,none⟩=some (.int .i64 D[k].Vc)/\f.cell? ⟨M,k*6+2,none⟩=some (.int .i64 D[k].why)/\f.cell? ⟨M,k*6+3,none⟩=some (.string D[k].at_.file)/\f.cell? ⟨M,k*6+4,none⟩=some (.int .i64 D[k].at_.line)/\f.cell? ⟨M,k*6+5,none⟩=some (.int .i64 D[k].at_.col):=by
 have c:=fun j (d:j<6) v (a:(mL D[k])[j]?=some v)=>(aa h.arr (k*6+j)).trans ((by simp only[List.getElem?_toArray];exact(GJ D k b j d).trans a))
 exact⟨c 0 (by omega) _ rfl,c 1 (by omega) _ rfl,c 2 (by omega) _ rfl,c 3 (by omega) _ rfl,c 4 (by omega) _ rfl,c 5 (by omega) _ rfl⟩
def o8(L:List Rw)(n:Nat):Int:=(L.getD n qd).Vc
theorem Dm(h:kC k g L w d l y) :
  Calls prog 95 #[.pointer (some ⟨g,L,none⟩),.int .i64 x] k fun e f=>e=.returned (.int .i64 (o8 y x))/\f=k:=by
 have j:=h.at2
 by_cases b:x<y.length
 ·have c:Hid (o8 y x=y[x].Vc):=by show _=_;unfold o8;rw[QQ,QP b];rfl
  obtain⟨-,i,-,-,-,-⟩:=h.row x b;have a:¬((x:Int) ≥ y.length):=by omega
  go_enter func95,ntmps95;go_wp2;go_ret;exact⟨QN (by rw[c.out]),rfl⟩
 ·have c:Hid (o8 y x=0):=by show _=_;unfold o8;rw[QQ,Rx (by omega)];rfl
  have a:(x:Int) ≥ y.length:=by omega
  go_enter func95,ntmps95;go_wp2;go_ret;exact⟨QN (by rw[c.out]),rfl⟩
def Fw(steps:List nF):Option Nat:=(List.range steps.length).find? (fun i=>match steps[i]? with | some s=>s.kind==1 | none=>false)
theorem tU(u:aw k N (go v))(x:v.length<=1073741824) :
  Calls prog 161 #[.slice N.ao v.length N.cap] k fun e r=>e=.returned (.int .i64 (nB (Fw v)))/\r=k:=by
 obtain⟨h,d⟩:∃h,Hid (N.ao=h):=⟨_,rfl⟩
 rw[d.out];go_enter func161,ntmps161;go_wp2
 go_loopg [3] v.length (fun g i wr=>∃b:Nat,b<=v.length/\g=v.length-b/\i=.int .i64 b/\Hid (∀i,i<b->(match v[i]? with | some s=>s.kind==1 | none=>false)=false)/\wr=k)
 case atStart=>exact⟨0,by omega,by omega,rfl,fun i p=>by omega,rfl⟩
 case round =>
  obtain⟨b,z,A,rfl,a,rfl⟩:=hrel
  by_cases c:b<v.length
  ·obtain⟨t,m,n,j,y,-⟩:=u.step b c
   obtain rfl:h=some ⟨t,0,none⟩:=d.out.symm.trans m;clear m;have f:Hid (v[b]?=some v[b]):=QP c;generalize v[b]=q at *
   cases o:(q.kind==1)
   ·have w:Hid (∀i,i<b+1->(match v[i]? with | some s=>s.kind==1 | none=>false)=false):=by
     intro i p
     by_cases e:i=b
     ·subst e;rw[f.out];exact o
     ·exact a.out i (by omega)
    clear f a;go_wp2
    go_roundg (v.length-(b+1))
    case measure=>omega
    case rel=>exact⟨b+1,by omega,rfl,by go_num,w,rfl⟩
   ·have l:Hid (Fw v=some b):=nV c (by rw[f.out];exact o) a.out
    clear f a;go_wp2;go_ret;exact⟨QN (by rw[l.out];rfl),rfl⟩
  ·have l:Hid (Fw v=none):=mI (fun i p=>a.out i (by omega))
   clear a;go_wp2;go_ret;exact⟨QN (by rw[l.out];rfl),rfl⟩
def DI(v:Int):Bool:=v==2||v==3||v==4
def pm(L:List Rw)(steps:List nF):Bool:=steps.all (fun s=>!(s.kind==2) || !(DI (o8 L s.U7)))
theorem N5(d:b<v.length)(a:(v[b].kind==2)=true)(c:DI (o8 y v[b].U7)=true):pm y v=false:=by
 cases e:pm y v
 ·rfl
 ·unfold pm at e;rw[Sn]at e
  have:=e _ (Rb d);rw[a,c]at this;cases this
theorem Mi(h:∀k (a:k<v.length),(!(v[k].kind==2) || !(DI (o8 y v[k].U7)))=true):pm y v=true:=by
 unfold pm;rw[Sn];intro x b;obtain⟨k,a,rfl⟩:=R0 b;exact h k a
theorem Mh(h:kC k L x w d l y)(M:aw k N (go v))(I:v.length<=1100000) :
  Calls prog 163 #[.pointer (some ⟨L,x,none⟩),.slice N.ao v.length N.cap] k fun e J=>e=.returned (.bool (pm y v))/\J=k:=by
 obtain⟨A,q⟩:∃A,Hid (N.ao=A):=⟨_,rfl⟩
 rw[q.out];go_enter func163,ntmps163;go_wp2
 go_loopg [5] v.length (fun l i wr=>∃a:Nat,a<=v.length/\l=v.length-a/\i=.int .i64 a/\Hid (∀i (o:i<v.length),i<a->(!(v[i].kind==2) || !(DI (o8 y v[i].U7)))=true)/\wr=k)
 case atStart=>exact⟨0,by omega,by omega,rfl,fun i _ o=>by omega,rfl⟩
 case round =>
  obtain⟨a,R,S,rfl,g,rfl⟩:=hrel
  by_cases r:a<v.length
  ·obtain⟨K,F,G,B,Q,T,-⟩:=M.step a r
   obtain rfl:A=some ⟨K,0,none⟩:=q.out.symm.trans F;clear F
   have f:Hid ((!(v[a].kind==2) || !(DI (o8 y v[a].U7)))=true->∀i (o:i<v.length),i<a+1->(!(v[i].kind==2) || !(DI (o8 y v[i].U7)))=true):=by
    intro O i o P
    by_cases e:i=a
    ·subst e;exact O
    ·exact g.out i o (by omega)
   have b:=hI (N5 y v a r);have p:=Dm L x v[a].U7 w d l y wr h;clear g;generalize v[a]=s at *
   cases n:(s.kind==2)
   ·have C:(s.kind != 2)=true:=by simp[bne,n]
    have E:=hI (f.out (by rw[n];rfl));clear f b p;go_wp2
    go_roundg (v.length-(a+1))
    case measure=>omega
    case rel=>exact⟨a+1,by omega,rfl,by go_num,E.out,rfl⟩
   ·have C:(s.kind != 2)=false:=by simp[bne,n]
    have j:Hid (∀u,DI u=(u==2||u==3||u==4)):=fun _=>rfl
    generalize o8 y s.U7=V at *
    cases t:(V==2)
    ·cases D:(V==3)
     ·cases H:(V==4)
      ·have E:=hI (f.out (by rw[j.out,t,D,H];simp))
       clear f b;go_wp2_with (go_at_call 95;refine p.mono ?_;rintro e z ⟨rfl,c⟩;rw[c])
       go_roundg (v.length-(a+1))
       case measure=>omega
       case rel=>exact⟨a+1,by omega,rfl,by go_num,E.out,rfl⟩
      ·have m:=hI (b.out n (by rw[j.out,t,D,H];rfl))
       clear f b;go_wp2_with (go_at_call 95;refine p.mono ?_;rintro e z ⟨rfl,c⟩;rw[c]);go_ret;exact⟨aD m.out.symm,rfl⟩
     ·have m:=hI (b.out n (by rw[j.out,t,D];rfl))
      clear f b;go_wp2_with (go_at_call 95;refine p.mono ?_;rintro e z ⟨rfl,c⟩;rw[c]);go_ret;exact⟨aD m.out.symm,rfl⟩
    ·have m:=hI (b.out n (by rw[j.out,t];rfl))
     clear f b;go_wp2_with (go_at_call 95;refine p.mono ?_;rintro e z ⟨rfl,c⟩;rw[c]);go_ret;exact⟨aD m.out.symm,rfl⟩
  ·have m:Hid (pm y v=true):=Mi y v (fun i o=>g.out i o (by omega))
   clear g;go_wp2;go_ret;exact⟨aD m.out.symm,rfl⟩
theorem yw{t:ByteArray}(h:my T t n=some i):i<T.length:=by
 unfold my at h;have:=Rz h;simpa using this
def FO(l:List St)(s:nF):Prop:=s.U7<=1020000/\((s.kind==3)=false->s.U7<l.length)
theorem I6(g:0<w.length)(k:w.length<=10000)(d:List (ByteArray×Pl))(b:List nF)(h:∀s∈b,FO w s)(N:Nat)(i:b.length<=N) :
  (∀s∈(fL w a zt d b).1,FO w s)/\(fL w a zt d b).1.length<=N+d.length:=by
 induction d generalizing b N with
 | nil =>
  rw[fL]
  split
  ·exact⟨by simp,by simp⟩
  ·exact⟨h,by simpa using i⟩
 | cons x r f =>
  obtain⟨t,p⟩:=x;rw[fL]
  split
  ·have:=f (b++[⟨1,0,p⟩]) (by intro s c;simp at c;rcases c with c | rfl;exact h s c;exact⟨by simp,fun _=>g⟩) (N+1) (by simp;omega)
   exact⟨this.1,by have:=this.2;simp;omega⟩
  ·split
   ·exact⟨by simp,by simp⟩
   ·next n j =>
    have e:=yw j;have:=f (b++[⟨2,n,p⟩]) (by intro s c;simp at c;rcases c with c | rfl;exact h s c;exact⟨by simp only;omega,fun _=>e⟩) (N+1) (by simp;omega);exact⟨this.1,by have:=this.2;simp;omega⟩
structure xB(l:List St)(c:mg):Prop where
 names:∀n∈c.names,n<l.length
 Vj:∀n∈c.Vj,n<=1020000
 steps:∀s∈c.steps,FO l s
theorem xB.letter{c:mg}(g:xB T c)(h:gu c n)(f:0<T.length)(j:T.length<=10000)(l:n<=1020000)(i:Nat)(p:Pl):xB T (cD c i p).2:=by
 have k:=h.steps;unfold cD
 split
 ·unfold kF eC
  split
  ·next b =>
   refine⟨g.names,g.Vj,?_⟩;intro s a;simp at a
   rcases a with a | rfl
   ·exact g.steps s a
   ·have:=g.names _ (Rb b)
    rw[QP b];exact⟨by simp only[Option.getD_some];omega,fun _=>this⟩
  ·split
   ·next b =>
    refine⟨g.names,g.Vj,?_⟩;intro s a;simp at a
    rcases a with a | rfl
    ·exact g.steps s a
    ·have:=g.Vj _ (Rb b)
     rw[QP b];exact⟨this,fun e=>by simp at e⟩
   ·exact⟨g.names,g.Vj,g.steps⟩
 ·split
  ·unfold mN
   split <;> exact⟨g.names,g.Vj,g.steps⟩
  ·split
   ·refine⟨g.names,?_,g.steps⟩
    intro x d;simp at d
    rcases d with d | rfl
    ·exact g.Vj x d
    ·omega
   ·split
    ·refine⟨g.names,g.Vj,?_⟩
     intro s a;simp[eC]at a
     rcases a with a | rfl
     ·exact g.steps s a
     ·exact⟨by simp,fun _=>f⟩
    ·exact g
theorem AS(i:0<T.length)(b:T.length<=10000)(t:ByteArray)(p:Pl)(f:Nat):∀(j:Nat) (c:mg) (N:Nat),xB T c->gu c (N+j)->j<=t.size->N+t.size<=1020000->xB T (iQ t p f j c).2:=by
 induction f with
 | zero=>intro j c N g h n e;exact g
 | succ f l =>
  intro j c N g h n e;rw[iQ]
  split
  ·next m =>
   have k:=h.letter (aF t j).toNat { p with col:=p.col+j };have d:=g.letter h i b (by omega) (aF t j).toNat { p with col:=p.col+j }
   split
   ·exact l (j+1) _ N d (by rw[<-U3];exact k) (by omega) e
   ·exact d
  ·exact g
theorem AT(i:0<T.length)(d:T.length<=10000)(a:List (ByteArray×Pl)):∀(c:mg) (N:Nat),xB T c->gu c N->N+kt a<=1020000->xB T (tD a c).2/\gu (tD a c).2 1020000:=by
 induction a with
 | nil=>intro c N g h b;exact⟨g,h.mono (by simp[kt]at b;omega)⟩
 | cons x r k =>
  intro c N g h b;obtain⟨t,p⟩:=x;have j:kt ((t,p) :: r)=t.size+kt r:=by simp[kt]
  rw[j]at b;have f:xB T (mT t p c).2:=AS i d t p _ 0 c N g h (Ro _) (by omega);have e:=zr t p h;rw[tD]
  split
  ·exact k _ (N+t.size) f e (by omega)
  ·exact⟨f,e.mono (by omega)⟩
theorem DM(d:List (ByteArray×Pl))(i:Nat)(c:List Nat)(h:∀n∈c,n<w.length):∀n∈(dD w a zt i d c).2,n<w.length:=by
 induction d generalizing i c with
 | nil=>exact h
 | cons x r f =>
  obtain⟨t,p⟩:=x;rw[dD]
  split
  ·exact h
  ·split
   ·exact h
   ·next n e =>
    split
    ·exact h
    ·exact f (i+1) (c++[n]) (by intro m b;simp at b;rcases b with b | rfl;exact h m b;exact yw e)
theorem Po(c:iH w)(q:b<w.length)(g:yc w[b]):FS w (lx w b w[b]).1:=by
 have k:0<w.length:=by omega
 have l:=c.prfs b q;have p:=g.size
 have a:(∀s∈(lx w b w[b]).1,FO w s)/\(lx w b w[b]).1.length<=1100000:=by
  unfold lx
  split
  ·unfold lK Gb
   have j:=Bp w b w[b] c.len l;have f:xB w ⟨(dD w b w[b].fin 1 (w[b].Vh.drop 1) (aK w b)).2,[],[],0,false⟩:=⟨DM w b w[b].fin _ 1 _ (fun n m=>Ca m),by simp,by simp⟩;generalize dD w b w[b].fin 1 (w[b].Vh.drop 1) (aK w b)=o at *;obtain⟨⟨d,h⟩,i⟩:=o;simp only at j f ⊢
   have rC:xB w (Gz h (w[b].Vh.drop d) ⟨i,[],[],0,false⟩).2/\gu (Gz h (w[b].Vh.drop d) ⟨i,[],[],0,false⟩).2 1020000:=by
    unfold Gz
    split
    ·exact AT k c.len _ _ 20000 f j (by have:=C2 w[b].Vh d;omega)
    ·exact⟨f,j.mono (by omega)⟩
   generalize Gz h (w[b].Vh.drop d) ⟨i,[],[],0,false⟩=R at *;unfold uF
   split
   ·split
    ·split
     ·exact⟨by simp,by simp⟩
     ·exact⟨rC.1.steps,by have:=rC.2.steps;simp only;omega⟩
    ·exact⟨by simp,by simp⟩
   ·exact⟨by simp,by simp⟩
  ·have:=I6 w b w[b].fin k c.len w[b].Vh [] (by simp) 0 (by simp)
   exact⟨this.1,by have:=this.2;omega⟩
 exact⟨a.2,fun s e=>by have:=(a.1 s e).1;omega,fun s e=>(a.1 s e).2⟩
section
theorem BA(l c u:Int)(a f:ByteArray)(d e:Option Addr)(i b h g:Nat) :
    (Instr.field 158 (.agg #[.int .i64 z4,.string a,.slice d i b,.slice e h g,.string f,.int .i64 l,.int .i64 c,.int .i64 u]) 1).run prog z5=.ok (.string a) z5:=by kernel_rfl
attribute [local go_sem] BA
def ny(label:ByteArray)(L:List Rw)(steps:List nF)(f:pA):Rw :=
  if(f.1==0)=true then
    (match Fw steps with
     | some u=>⟨label,3,0,((steps[u]?).map nF.at_).getD kT⟩
     | none=>if pm L steps=true then⟨label,5,0,kT⟩ else⟨label,4,0,kT⟩)
  else⟨label,2,f.1,f.2⟩
def iC(l:List St)(n:Nat)(s:St)(L:List Rw):Rw :=
  ny s.label L (lx l n s).1 (if(Fw (lx l n s).1).isNone=true/\((lx l n s).2.1==0)=true then gJ l n s (lx l n s).1 else(lx l n s).2)
theorem dY{x:Rw}(h:f.heap[n]?=some (.cells (mL x).toArray 38 (0,0))) :
    f.cell? ⟨n,0,none⟩=some (.string x.label)/\f.cell? ⟨n,1,none⟩=some (.int .i64 x.Vc)/\f.cell? ⟨n,2,none⟩=some (.int .i64 x.why)/\f.cell? ⟨n,3,none⟩=some (.string x.at_.file)/\f.cell? ⟨n,4,none⟩=some (.int .i64 x.at_.line)/\f.cell? ⟨n,5,none⟩=some (.int .i64 x.at_.col):=by
  refine⟨?_,?_,?_,?_,?_,?_⟩ <;> (rw[aa h];rfl)
theorem yI(K:ab [] f I)(a:f.heap.size<=n)(b e g c h d:Value):ab [] f ((((((I.setCell ⟨n,0,none⟩ b).setCell ⟨n,1,none⟩ e).setCell ⟨n,2,none⟩ g).setCell ⟨n,3,none⟩ c).setCell ⟨n,4,none⟩ h).setCell ⟨n,5,none⟩ d) :=
  (((((K.setCell (QV a) _).setCell (QV a) _).setCell (QV a) _).setCell (QV a) _).setCell (QV a) _).setCell (QV a) _
theorem Iy(c:List St)(H K:Nat->Hd)(J:List Rw)(w:World)(h:kC w L x c H a J)(ok:iH c)(ha:l<c.length)(a1:yc c[l])(ar:gW w b c c.length K) :
    Calls prog 114 #[.pointer (some ⟨L,x,none⟩),.int .i64 l,.slice (some ⟨b,0,none⟩) c.length c.length] w fun e U =>
      e=.returned (.agg (mL (iC c l c[l] J)).toArray)/\ab [] w U:=by
  have ba:=h.recd.lt;have a5:=ok.len;have al:=Po c l ok ha a1;obtain⟨W,hW⟩:∃W,W=w.alloc (.cells #[.string ⟨#[]⟩,.int .i64 0,.int .i64 0,.string ⟨#[]⟩,.int .i64 0,.int .i64 0] 38):=⟨_,rfl⟩
  have kW:ab [] w W:=by rw[hW];exact(ab.refl [] _).alloc _
  have BF:W.heap[w.heap.size]?=some (.cells (mL qd).toArray 38 (0,0)):=by rw[hW];exact QS _ _
  have HW:=hI hW.symm;clear hW;have Z:Hid (iC c l c[l] J=ny c[l].label J (lx c l c[l]).1 (if(Fw (lx c l c[l]).1).isNone=true/\((lx c l c[l]).2.1==0)=true then gJ c l c[l] (lx c l c[l]).1 else(lx c l c[l]).2)):=rfl;have RD:=fun(U:World) (k:ab [] w U)=>Jb L x l c H U (h.Vb k).recd ha ok a1
  have PL:=fun(hd:Hd) (U:World) (k:ab [] w U) (o':aw U hd (go (lx c l c[l]).1))=>Kp L x b l c H K hd (lx c l c[l]).1 U (h.Vb k).recd ok ha (ar.Vb k) o' al
  have ag:=al.len;have aT:=hI RD;have ax:=hI PL;clear RD PL al;generalize lx c l c[l]=PF at *;obtain⟨d,I,F⟩:=PF;simp only at Z aT ax ag;go_enter func114,ntmps114
  go_upto_region 1 with fail
  rw[HW.out]
  go_upto_region 2 with (go_at_call 97;refine(a9 L x l c H _ (by exact(h.Vb kW).recd) ha).mono ?_;rintro e m ⟨rfl,k1⟩;unfold ee)
  obtain⟨W2,Y⟩:∃W2,W2=m.alloc (.cells #[.string c[l].label,.int .i64 0,.int .i64 0,.string ⟨#[]⟩,.int .i64 0,.int .i64 0] 38):=⟨_,rfl⟩
  have k2:ab [] W W2:=by rw[Y];exact k1.alloc _
  have BR:W2.heap[m.heap.size]?=some (.cells (mL ⟨c[l].label,0,0,kT⟩).toArray 38 (0,0)):=by rw[Y];exact QS _ _
  have g:w.heap.size<m.heap.size:=by have:=k1.size;have:=ae BF;omega
  rw[<-Y];clear Y;have K2:=kW.trans k2;have a3:=k2.get BF (by simp)
  go_upto_region 3 with (go_at_call 100;refine(aT.out _ (by exact K2)).mono ?_;rintro e w3 ⟨hd,rfl,ac,bf,k3⟩;unfold gU)
  obtain⟨W4,Q⟩:∃W4,W4=w3.alloc (.cells #[.int .i64 I,.string F.file,.int .i64 F.line,.int .i64 F.col] 165):=⟨_,rfl⟩
  have k4:ab [] W2 W4:=by rw[Q];exact k3.alloc _
  have B9:W4.heap[w3.heap.size]?=some (.cells (Ec (I,F)) 165 (0,0)):=by rw[Q];exact QS _ _
  have N:aw W4 hd (go d):=by rw[Q];exact ac.Vg (fun az hx=>((ab.refl [] _).alloc _).block az (ac.lt hx) (by simp))
  rw[<-Q];clear Q;have bd:m.heap.size<w3.heap.size:=by have:=k3.size;have:=ae BR;omega
  have K4:=K2.trans k4;have af:=k4.get BR (by simp);have ad:=k4.get a3 (by simp);have FU:=tU hd d W4 N (by omega)
  cases hu:Fw d with
  | some u =>
    have HU:=hI hu;rw[hu]at FU;simp only[nB]at FU
    have a0:u<d.length:=by
      have:=Rz hu;simpa using this
    have bg:¬((u:Int)<0):=by omega
    have a7:(u:Int) ≥ 0:=by omega
    have a6:(u:Int)<d.length:=by omega
    clear hu;have KV:=K4;have R:=B9;have n:=af;have E:=ad;obtain⟨f0,f1,f2,f3⟩:=jh R;obtain⟨r,s,t,o,q,p⟩:=dY n;have yr:=am n;simp only[kT]at r s t o q p
    cases O:(I==0)
    · have ap:(I != 0)=true:=by simp[bne,O]
      have T:Hid (iC c l c[l] J=⟨c[l].label,2,I,F⟩):=by show _=_;rw[Z.out,HU.out,O];simp[ny,O]
      clear Z
      go_upto_region 4 with (go_at_call 161;refine FU.mono ?_;rintro e wu ⟨rfl,G⟩;rw[G])
      go_upto_region 16 with fail
      obtain⟨X,j⟩:∃X,X=((((W4.setCell ⟨m.heap.size,1,none⟩ (.int .i64 2)).setCell ⟨m.heap.size,2,none⟩ (.int .i64 I)).setCell ⟨m.heap.size,3,none⟩ (.string F.file)).setCell ⟨m.heap.size,4,none⟩ (.int .i64 F.line)).setCell ⟨m.heap.size,5,none⟩ (.int .i64 F.col):=⟨_,rfl⟩
      have P:X.heap[m.heap.size]?=some (.cells (mL ⟨c[l].label,2,I,F⟩).toArray 38 (0,0)):=by
        rw[j];rw[ah (ah (ah (ah (ah n _ _) _ _) _ _) _ _) _ _];rfl
      have S:ab [] w X:=by rw[j];exact(((((KV.setCell (QV (RM g)) _).setCell (QV (RM g)) _).setCell (QV (RM g)) _).setCell (QV (RM g)) _).setCell (QV (RM g)) _)
      have i:X.heap[w.heap.size]?=some (.cells (mL qd).toArray 38 (0,0)):=by
        rw[j];rw[Q4 _ _ _ _ (by simp;omega)];rw[Q4 _ _ _ _ (by simp;omega)];rw[Q4 _ _ _ _ (by simp;omega)];rw[Q4 _ _ _ _ (by simp;omega)];rw[Q4 _ _ _ _ (by simp;omega)];exact E
      rw[<-j];clear j r s t o q p yr;obtain⟨r,s,t,o,q,p⟩:=dY P;obtain⟨C,y,A,B,z,D⟩:=dY i;have ys:=am i;simp only[qd,kT]at r s t o q p C y A B z D;go_wp2;exact QY (v:=.agg (mL ⟨c[l].label,2,I,F⟩).toArray) (by simp[results,results114,go_sem,C,y,A,B,z,D,mL]) rfl ⟨by rw[T.out],yI S (QR _) _ _ _ _ _ _⟩
    · have ap:(I != 0)=false:=by simp[bne,O]
      obtain⟨gp,ep,aS,ai,-,-,d2,d3,d4⟩:=N.step u a0;have T:Hid (iC c l c[l] J=⟨c[l].label,3,0,d[u].at_⟩):=by show _=_;rw[Z.out,HU.out,O];simp[ny,O,HU.out,a0]
      obtain⟨ao,bc⟩:=hd;simp only at ep aS ai;subst ep;clear Z;generalize d[u]=st at *
      go_upto_region 4 with (go_at_call 161;refine FU.mono ?_;rintro e wu ⟨rfl,G⟩;rw[G])
      go_upto_region 16 with fail
      obtain⟨X,j⟩:∃X,X=(((W4.setCell ⟨m.heap.size,1,none⟩ (.int .i64 3)).setCell ⟨m.heap.size,3,none⟩ (.string st.at_.file)).setCell ⟨m.heap.size,4,none⟩ (.int .i64 st.at_.line)).setCell ⟨m.heap.size,5,none⟩ (.int .i64 st.at_.col):=⟨_,rfl⟩
      have P:X.heap[m.heap.size]?=some (.cells (mL ⟨c[l].label,3,0,st.at_⟩).toArray 38 (0,0)):=by
        rw[j];rw[ah (ah (ah (ah n _ _) _ _) _ _) _ _];rfl
      have S:ab [] w X:=by rw[j];exact((((KV.setCell (QV (RM g)) _).setCell (QV (RM g)) _).setCell (QV (RM g)) _).setCell (QV (RM g)) _)
      have i:X.heap[w.heap.size]?=some (.cells (mL qd).toArray 38 (0,0)):=by
        rw[j];rw[Q4 _ _ _ _ (by simp;omega)];rw[Q4 _ _ _ _ (by simp;omega)];rw[Q4 _ _ _ _ (by simp;omega)];rw[Q4 _ _ _ _ (by simp;omega)];exact E
      rw[<-j];clear j r s t o q p yr;obtain⟨r,s,t,o,q,p⟩:=dY P;obtain⟨C,y,A,B,z,D⟩:=dY i;have ys:=am i;simp only[qd,kT]at r s t o q p C y A B z D;go_wp2;exact QY (v:=.agg (mL ⟨c[l].label,3,0,st.at_⟩).toArray) (by simp[results,results114,go_sem,C,y,A,B,z,D,mL]) rfl ⟨by rw[T.out],yI S (QR _) _ _ _ _ _ _⟩
  | none =>
    have HU:=hI hu;rw[hu]at FU;simp only[nB]at FU;clear hu
    cases O:(I==0)
    · have ap:(I != 0)=true:=by simp[bne,O]
      have T:Hid (iC c l c[l] J=⟨c[l].label,2,I,F⟩):=by show _=_;rw[Z.out,HU.out,O];simp[ny,O]
      have KV:=K4;have R:=B9;have n:=af;have E:=ad;obtain⟨f0,f1,f2,f3⟩:=jh R;obtain⟨r,s,t,o,q,p⟩:=dY n;have yr:=am n;simp only[kT]at r s t o q p;clear Z
      go_upto_region 4 with (go_at_call 161;refine FU.mono ?_;rintro e wu ⟨rfl,G⟩;rw[G])
      go_upto_region 16 with fail
      obtain⟨X,j⟩:∃X,X=((((W4.setCell ⟨m.heap.size,1,none⟩ (.int .i64 2)).setCell ⟨m.heap.size,2,none⟩ (.int .i64 I)).setCell ⟨m.heap.size,3,none⟩ (.string F.file)).setCell ⟨m.heap.size,4,none⟩ (.int .i64 F.line)).setCell ⟨m.heap.size,5,none⟩ (.int .i64 F.col):=⟨_,rfl⟩
      have P:X.heap[m.heap.size]?=some (.cells (mL ⟨c[l].label,2,I,F⟩).toArray 38 (0,0)):=by
        rw[j];rw[ah (ah (ah (ah (ah n _ _) _ _) _ _) _ _) _ _];rfl
      have S:ab [] w X:=by rw[j];exact(((((KV.setCell (QV (RM g)) _).setCell (QV (RM g)) _).setCell (QV (RM g)) _).setCell (QV (RM g)) _).setCell (QV (RM g)) _)
      have i:X.heap[w.heap.size]?=some (.cells (mL qd).toArray 38 (0,0)):=by
        rw[j];rw[Q4 _ _ _ _ (by simp;omega)];rw[Q4 _ _ _ _ (by simp;omega)];rw[Q4 _ _ _ _ (by simp;omega)];rw[Q4 _ _ _ _ (by simp;omega)];rw[Q4 _ _ _ _ (by simp;omega)];exact E
      rw[<-j];clear j r s t o q p yr;obtain⟨r,s,t,o,q,p⟩:=dY P;obtain⟨C,y,A,B,z,D⟩:=dY i;have ys:=am i;simp only[qd,kT]at r s t o q p C y A B z D;go_wp2;exact QY (v:=.agg (mL ⟨c[l].label,2,I,F⟩).toArray) (by simp[results,results114,go_sem,C,y,A,B,z,D,mL]) rfl ⟨by rw[T.out],yI S (QR _) _ _ _ _ _ _⟩
    · have M:Hid (iC c l c[l] J=ny c[l].label J d (gJ c l c[l] d)):=by show _=_;rw[Z.out,HU.out,O];simp
      obtain⟨f0,f1,f2,f3⟩:=jh B9;clear Z;generalize gJ c l c[l] d=f at *
      go_upto_region 4 with (go_at_call 161;refine FU.mono ?_;rintro e wu ⟨rfl,G⟩;rw[G])
      have be:=K4
      go_upto_region 7 with (go_at_call 162;refine(ax.out hd _ (by exact K4) (by exact N)).mono ?_;rintro e w5 ⟨rfl,k5⟩;unfold gU;obtain⟨t0,t1,t2,t3⟩:=jh (k5.get B9 (by simp));have yt:=am (k5.get B9 (by simp)))
      obtain⟨V,hV⟩:∃V,V=(((w5.setCell ⟨w3.heap.size,0,none⟩ (.int .i64 f.1)).setCell ⟨w3.heap.size,1,none⟩ (.string f.2.file)).setCell ⟨w3.heap.size,2,none⟩ (.int .i64 f.2.line)).setCell ⟨w3.heap.size,3,none⟩ (.int .i64 f.2.col):=⟨_,rfl⟩
      have R:V.heap[w3.heap.size]?=some (.cells (Ec f) 165 (0,0)):=by
        rw[hV,ah (ah (ah (ah (k5.get B9 (by simp)) _ _) _ _) _ _)];rfl
      have k9:ab [w3.heap.size] w5 V:=by rw[hV];exact ji _ _ _ _
      have KV:ab [] w V:=by rw[hV];exact kH (K4.trans k5) (by omega) _ _ _ _
      have n:=k9.get (k5.get af (by simp)) (by simp;omega);have E:=k9.get (k5.get ad (by simp)) (by simp;omega);have a2:aw V hd (go d):=(N.Vg (w':=w5) (fun az hx=>k5.block az (N.lt hx) (by simp))).Vg (fun az hx=>k9.block az (QX (N.lt hx) k5.size) (by simp;rintro rfl;have:=ac.lt hx;omega));rw[<-hV];clear hV t0 t1 t2 t3 yt;clear f0 f1 f2 f3;obtain⟨f0,f1,f2,f3⟩:=jh R;obtain⟨r,s,t,o,q,p⟩:=dY n;have yr:=am n;simp only[kT]at r s t o q p
      cases hf:(f.1==0)
      · have a4:(f.1 != 0)=true:=by simp[bne,hf]
        have T:Hid (iC c l c[l] J=⟨c[l].label,2,f.1,f.2⟩):=by show _=_;rw[M.out];simp[ny,hf]
        clear M
        go_upto_region 16 with fail
        obtain⟨X,j⟩:∃X,X=((((V.setCell ⟨m.heap.size,1,none⟩ (.int .i64 2)).setCell ⟨m.heap.size,2,none⟩ (.int .i64 f.1)).setCell ⟨m.heap.size,3,none⟩ (.string f.2.file)).setCell ⟨m.heap.size,4,none⟩ (.int .i64 f.2.line)).setCell ⟨m.heap.size,5,none⟩ (.int .i64 f.2.col):=⟨_,rfl⟩
        have P:X.heap[m.heap.size]?=some (.cells (mL ⟨c[l].label,2,f.1,f.2⟩).toArray 38 (0,0)):=by
          rw[j];rw[ah (ah (ah (ah (ah n _ _) _ _) _ _) _ _) _ _];rfl
        have S:ab [] w X:=by rw[j];exact(((((KV.setCell (QV (RM g)) _).setCell (QV (RM g)) _).setCell (QV (RM g)) _).setCell (QV (RM g)) _).setCell (QV (RM g)) _)
        have i:X.heap[w.heap.size]?=some (.cells (mL qd).toArray 38 (0,0)):=by
          rw[j];rw[Q4 _ _ _ _ (by simp;omega)];rw[Q4 _ _ _ _ (by simp;omega)];rw[Q4 _ _ _ _ (by simp;omega)];rw[Q4 _ _ _ _ (by simp;omega)];rw[Q4 _ _ _ _ (by simp;omega)];exact E
        rw[<-j];clear j r s t o q p yr;obtain⟨r,s,t,o,q,p⟩:=dY P;obtain⟨C,y,A,B,z,D⟩:=dY i;have ys:=am i;simp only[qd,kT]at r s t o q p C y A B z D;go_wp2;exact QY (v:=.agg (mL ⟨c[l].label,2,f.1,f.2⟩).toArray) (by simp[results,results114,go_sem,C,y,A,B,z,D,mL]) rfl ⟨by rw[T.out],yI S (QR _) _ _ _ _ _ _⟩
      · have a4:(f.1 != 0)=false:=by simp[bne,hf]
        have RE:=Mh L x c H a J hd d V (h.Vb KV) a2 (by omega)
        cases hr:pm J d
        · have T:Hid (iC c l c[l] J=⟨c[l].label,4,0,kT⟩):=by show _=_;rw[M.out];simp[ny,hf,HU.out,hr]
          rw[hr]at RE;clear M
          go_upto_region 6 with (go_at_call 163;refine RE.mono ?_;rintro e wv ⟨rfl,an⟩;rw[an])
          go_upto_region 16 with fail
          obtain⟨X,j⟩:∃X,X=V.setCell ⟨m.heap.size,1,none⟩ (.int .i64 4):=⟨_,rfl⟩
          have P:X.heap[m.heap.size]?=some (.cells (mL ⟨c[l].label,4,0,kT⟩).toArray 38 (0,0)):=by
            rw[j];rw[ah n _ _];rfl
          have S:ab [] w X:=by rw[j];exact(KV.setCell (QV (RM g)) _)
          have i:X.heap[w.heap.size]?=some (.cells (mL qd).toArray 38 (0,0)):=by
            rw[j];rw[Q4 _ _ _ _ (by simp;omega)];exact E
          rw[<-j];clear j r s t o q p yr;obtain⟨r,s,t,o,q,p⟩:=dY P;obtain⟨C,y,A,B,z,D⟩:=dY i;have ys:=am i;simp only[qd,kT]at r s t o q p C y A B z D;go_wp2;exact QY (v:=.agg (mL ⟨c[l].label,4,0,kT⟩).toArray) (by simp[results,results114,go_sem,C,y,A,B,z,D,mL,kT]) rfl ⟨by rw[T.out],yI S (QR _) _ _ _ _ _ _⟩
        · have T:Hid (iC c l c[l] J=⟨c[l].label,5,0,kT⟩):=by show _=_;rw[M.out];simp[ny,hf,HU.out,hr]
          rw[hr]at RE;clear M
          go_upto_region 15 with (go_at_call 163;refine RE.mono ?_;rintro e wv ⟨rfl,an⟩;rw[an])
          go_upto_region 16 with fail
          obtain⟨X,j⟩:∃X,X=V.setCell ⟨m.heap.size,1,none⟩ (.int .i64 5):=⟨_,rfl⟩
          have P:X.heap[m.heap.size]?=some (.cells (mL ⟨c[l].label,5,0,kT⟩).toArray 38 (0,0)):=by
            rw[j];rw[ah n _ _];rfl
          have S:ab [] w X:=by rw[j];exact(KV.setCell (QV (RM g)) _)
          have i:X.heap[w.heap.size]?=some (.cells (mL qd).toArray 38 (0,0)):=by
            rw[j];rw[Q4 _ _ _ _ (by simp;omega)];exact E
          rw[<-j];clear j r s t o q p yr;obtain⟨r,s,t,o,q,p⟩:=dY P;obtain⟨C,y,A,B,z,D⟩:=dY i;have ys:=am i;simp only[qd,kT]at r s t o q p C y A B z D;go_wp2;exact QY (v:=.agg (mL ⟨c[l].label,5,0,kT⟩).toArray) (by simp[results,results114,go_sem,C,y,A,B,z,D,mL,kT]) rfl ⟨by rw[T.out],yI S (QR _) _ _ _ _ _ _⟩
end
def Ap(l:List St)(n:Nat)(prev:List Rw):Rw:=match l[n]? with
 | some s=>if(s.kind==4)=true then⟨s.label,1,0,kT⟩ else if(s.kind==5)=true then iC l n s prev else qd
 | none=>qd
def jZ(l:List St):Nat->List Rw
 | 0=>[]
 | k+1=>jZ l k++[Ap l k (jZ l k)]
theorem oN(k:Nat):(jZ w k).length=k:=by
 induction k with
 | zero=>rfl
 | succ k a=>simp[jZ,a]
def jk(l:List St)(k:Nat):List Rw:=jZ l k++List.replicate (l.length-k) qd
theorem sY(h:b<=w.length):(jk w b).length=w.length:=by simp[jk,oN];omega
theorem Jc(h:b<w.length):jk w (b+1)=(jk w b).set b (Ap w b (jZ w b)):=by
 unfold jk;have e:w.length-b=(w.length-(b+1))+1:=by omega
 rw[e,TY,jZ];have a:=oN w b;rw[SS _ _ (by omega),a,RY,Tv,Sy];rfl
theorem LQ:jk w w.length=jZ w w.length:=by simp[jk]
theorem LR(h:b<w.length):(jk w b).set b qd=jk w b:=by
 unfold jk;have e:w.length-b=(w.length-(b+1))+1:=by omega
 have a:=oN w b;rw[e,TY,SS _ _ (by omega),a,RY,Tv]
theorem MR:o8 (y++List.replicate a qd) b=o8 y b:=by
 unfold o8;rw[QQ,QQ]
 by_cases h:b<y.length
 ·rw[Q7 h]
 ·rw[Q5 (by omega),Rx (l:=y) (by omega),Sf]
  split <;> rfl
theorem CQ(h:∀n,o8 D n=o8 zb n)(a:List nF):pm D a=pm zb a:=by
 unfold pm;simp only[h]
theorem Ac(h:∀n,o8 D n=o8 zb n)(l:List St)(n:Nat)(s:St):iC l n s D=iC l n s zb:=by
 unfold iC ny;rw[CQ h]
theorem Em:iC w l H (jk w b)=iC w l H (jZ w b):=Ac (fun _=>MR _ _ _) w l H
theorem nU(A M B:List Value)(i j:Nat)(v:Value)(a:i=A.length+j)(b:j<M.length):(A++(M++B)).set i v=A++(M.set j v++B):=by
 subst a;rw[SS _ _ (by omega),Nat.add_sub_cancel_left,TM _ _ b]
theorem zg(a:b<y.length):kL y=kL (y.take b)++(mL y[b]++kL (y.drop (b+1))):=by
 have e:y=y.take b++(y[b] :: y.drop (b+1)):=by rw[<-Rf a,Ul]
 conv=>lhs;rw[e]
 unfold kL;rw[Sh,RI]
theorem N9(a:b<y.length)(r:Rw) :
  (((((((kL y).set (b*6) (.string r.label)).set (b*6+1) (.int .i64 r.Vc)).set (b*6+2) (.int .i64 r.why)).set (b*6+3) (.string r.at_.file)).set (b*6+4) (.int .i64 r.at_.line)).set (b*6+5) (.int .i64 r.at_.col))=kL (y.set b r):=by
 have d:(kL (y.take b)).length=b*6:=by rw[CZ,RQ];congr 1;omega
 have c:kL (y.set b r)=kL (y.take b)++(mL r++kL (y.drop (b+1))):=by
  rw[zg (y.set b r) b (by simpa using a)];simp[List.take_set,List.drop_set];rw[List.set_eq_of_length_le (by simp;omega)]
 rw[c,zg y b a,mL,nU _ _ _ _ 0 _ (by omega) (by simp),nU _ _ _ _ 1 _ (by omega) (by simp),nU _ _ _ _ 2 _ (by omega) (by simp),nU _ _ _ _ 3 _ (by omega) (by simp),nU _ _ _ _ 4 _ (by omega) (by simp),nU _ _ _ _ 5 _ (by omega) (by simp)];rfl
theorem ab.wide(k:ab [] f I):ab z6 f I:=k.mono (by simp)
def C1(w:World)(g k:Nat)(r:Rw):World :=
 (((((w.setCell ⟨g,k*6,none⟩ (.string r.label)).setCell ⟨g,k*6+1,none⟩ (.int .i64 r.Vc)).setCell ⟨g,k*6+2,none⟩ (.int .i64 r.why)).setCell ⟨g,k*6+3,none⟩ (.string r.at_.file)).setCell ⟨g,k*6+4,none⟩ (.int .i64 r.at_.line)).setCell ⟨g,k*6+5,none⟩ (.int .i64 r.at_.col)
theorem rM(r:Rw):ab [a] k (C1 k a b r) :=
 ((((((ab.refl [a] k).setCell (Q1 (by simp)) _).setCell (Q1 (by simp)) _).setCell (Q1 (by simp)) _).setCell (Q1 (by simp)) _).setCell (Q1 (by simp)) _).setCell (Q1 (by simp)) _
theorem kC.store(h:kC f n i T o M D)(c:n≠M)(g:∀x,f9 o x->x≠M)(k:Nat)(j:k<D.length)(r:Rw):kC (C1 f M k r) n i T o M (D.set k r):=by
 have b:=rM f M k r;obtain⟨a,t,d,e⟩:=h.cell;refine⟨h.recd.kept b (by simpa using c) (fun x l=>by simpa using g x l),⟨a,t,b.get d (by simpa using c),by rw[Rv];exact e⟩,?_⟩;unfold C1;rw[ah (ah (ah (ah (ah (ah h.arr _ _) _ _) _ _) _ _) _ _)];simp only[List.setIfInBounds_toArray];rw[N9 D k j r]
def uU(l:List St)(H:Nat->Hd):Nat->Hd:=fun i=>if i=6∨(10<=i/\i<10+2*l.length) then H i else⟨none,0⟩
theorem oe(h:b=6∨(10<=b/\b<10+2*w.length)):uU w d b=d b:=QW h
theorem gj.trim(h:gj f T o):gj f T (uU T o)/\∀k,f9 (uU T o) k->k<f.heap.size/\f9 o k:=by
 refine⟨⟨?_,fun i s c=>?_,fun i s c=>?_⟩,?_⟩
 ·have e:mo T (uU T o)=mo T o:=by
   rw[<-uR T o (fun i=>if i<10+2*T.length then o i else⟨none,0⟩) (fun j g=>QW g)]
   apply xl
   intro j g
   by_cases b:j<10+2*T.length
   ·simp only[if_pos b];exact oe T o j (QV ⟨g,b⟩)
   ·simp only[if_neg b];exact QT (by omega)
  rw[oe T o 6 (Q1 rfl)];unfold iE;rw[e];exact h.own
 ·have a:i<T.length:=(Q8.1 c).1
  rw[oe T o (10+2*i) (by omega)];exact h.syms i s c
 ·have a:i<T.length:=(Q8.1 c).1
  rw[oe T o (11+2*i) (by omega)];exact h.prfs i s c
 ·rintro k ⟨i,a⟩
  by_cases d:i=6∨(10<=i/\i<10+2*T.length)
  ·rw[oe T o i d]at a
   refine⟨?_,⟨i,a⟩⟩
   rcases d with rfl | ⟨n,m⟩
   ·exact h.own.lt a
   ·by_cases l:(i-10) % 2=0
    ·have e:i=10+2*((i-10) / 2):=by omega
     rw[e]at a;have b:(i-10) / 2<T.length:=by omega
     exact(h.syms _ _ (QP b)).lt a
    ·have e:i=11+2*((i-10) / 2):=by omega
     rw[e]at a;have b:(i-10) / 2<T.length:=by omega
     exact(h.prfs _ _ (QP b)).lt a
  ·have e:uU T o i=⟨none,0⟩:=QT d
   rw[e]at a;simp[Hd.blk]at a
theorem oA(h:kC k g L w d x (jk w 0))(U:iH w)(ad:∀i (hi:i<w.length),yc w[i])(hb:g≠x)(hg:∀z,f9 d z->z≠x) :
  Calls prog 81 #[.pointer (some ⟨g,L,none⟩)] k fun e b=>e=.returned (.tuple #[])/\kC b g L w d x (jZ w w.length)/\ab [x] k b:=by
 have ax:=h.recd.lt;have aT:=ae h.arr;have ag:=U.len;go_enter func81,ntmps81;go_wp2_with (go_at_call 113;refine(rY g L w d _ (by exact h.recd) U).mono ?_;rintro e w1 ⟨W,K,rfl,A1,a1,Y,k1⟩)
 go_loopg [3] w.length (fun gk iv wr=>∃(a:Nat),a<=w.length/\gk=w.length-a/\iv=.int .i64 a/\kC wr g L w d x (jk w a)/\gW wr W w w.length K/\ab [x] k wr)
 case atStart=>exact⟨0,by omega,by omega,rfl,h.Vb k1,A1,k1.wide⟩
 case round =>
  obtain⟨a,hk,a3,rfl,y,hA,hK⟩:=hrel;have o:=hI (sY w a hk);have c2:=y.at2;rw[o.out]at c2
  by_cases f:a<w.length
  ·have j:Hid (Ap w a (jZ w a)=if(w[a].kind==4)=true then⟨w[a].label,1,0,kT⟩ else if(w[a].kind==5)=true then iC w a w[a] (jk w a) else qd):=by
    show _=_
    unfold Ap;rw[QP f,Em]
   have m:=hI (Jc w a f)
   go_upto_region 5 with (go_at_call 97;refine(a9 g L a w d _ (by exact y.recd) f).mono ?_;rintro e C ⟨rfl,k3⟩;unfold ee)
   obtain⟨X,S⟩:∃X,X=C.alloc (.cells #[.int .i64 w[a].kind,.string w[a].label,.slice (d (10+2*a)).ao w[a].U6.length (d (10+2*a)).cap,.slice (d (11+2*a)).ao w[a].Vh.length (d (11+2*a)).cap,.string w[a].fin.file,.int .i64 w[a].fin.line,.int .i64 w[a].fin.col,.int .i64 w[a].til] 158):=⟨_,rfl⟩
   have Z:ab [] wr X:=by rw[S];exact k3.alloc _
   have BX:X.heap[C.heap.size]?=some (.cells #[.int .i64 w[a].kind,.string w[a].label,.slice (d (10+2*a)).ao w[a].U6.length (d (10+2*a)).cap,.slice (d (11+2*a)).ao w[a].Vh.length (d (11+2*a)).cap,.string w[a].fin.file,.int .i64 w[a].fin.line,.int .i64 w[a].fin.col,.int .i64 w[a].til] 158 (0,0)):=by rw[S];exact QS _ _
   rw[<-S];clear S;have m0:X.cell? ⟨C.heap.size,0,none⟩=some (.int .i64 w[a].kind):=by rw[aa BX];rfl
   have m1:X.cell? ⟨C.heap.size,1,none⟩=some (.string w[a].label):=by rw[aa BX];rfl
   have c:=y.Vb Z;have Q:=hA.Vb Z;have KX:=hK.trans Z.wide;have aS:=ae c.arr;have a2:=c.recd.lt;have az:wr.heap.size<=C.heap.size:=k3.size;have ar:=ae y.arr;have an:=y.recd.lt;have u:W≠x:=by omega
   have t:∀n z,(K n).blk=some z->z∉[x]:=fun n z hx=>by have:=Y n z hx;simp;omega
   have B:=c.at2;rw[o.out]at B;have A:a<(jk w a).length:=by rw[o.out];exact f
   obtain⟨I,H,J,M,F,G⟩:=c.row a A;have R:=am c.arr;have a0:(a:Int)<w.length:=by omega
   have al:C.heap.size≠x:=by omega
   have ap:x≠C.heap.size:=by omega
   have ai:x≠g:=fun e=>hb e.symm
   clear c2;generalize (jk w a)[a]=l at *
   cases P:(w[a].kind==4)
   ·cases h5:(w[a].kind==5)
    ·have O:Hid (jk w (a+1)=jk w a):=by
      show _=_
      rw[m.out,j.out,P,h5];simp only[Bool.false_eq_true,if_false];exact LR w a f
     clear j m;go_wp2
     go_roundg (w.length-(a+1))
     case measure=>omega
     case rel=>exact⟨a+1,by omega,rfl,by go_num,by rw[O.out];exact c,Q,KX⟩
    ·have O:Hid (jk w (a+1)=(jk w a).set a (iC w a w[a] (jk w a))):=by show _=_;rw[m.out,j.out,P,h5];rfl
     have JA:=fun(b:World) (q:ab [] X b)=>Iy g L a x W w d K (jk w a) b (c.Vb q) U f (ad a f) (Q.Vb q)
     have N:=hI JA
     have ac:Hid (∀b,ab [] X b->b.cell? ⟨g,L+2,none⟩=some (.slice (some ⟨x,0,none⟩) w.length w.length)):=by
      intro b q;have:=(c.Vb q).at2;rw[o.out]at this;exact this
     have af:Hid (∀b,ab [] X b->b.cell? ⟨x,a*6,none⟩=some (.string l.label)/\b.cell? ⟨x,a*6+1,none⟩=some (.int .i64 l.Vc)/\b.cell? ⟨x,a*6+2,none⟩=some (.int .i64 l.why)/\b.cell? ⟨x,a*6+3,none⟩=some (.string l.at_.file)/\b.cell? ⟨x,a*6+4,none⟩=some (.int .i64 l.at_.line)/\b.cell? ⟨x,a*6+5,none⟩=some (.int .i64 l.at_.col)/\∀n,b.frozen? ⟨x,n,none⟩=false):=by
      intro b q;have v:=q.get c.arr (by simp);refine⟨?_,?_,?_,?_,?_,?_,fun n=>am v n⟩
      ·rw[aa v,<-aa c.arr];exact I
      ·rw[aa v,<-aa c.arr];exact H
      ·rw[aa v,<-aa c.arr];exact J
      ·rw[aa v,<-aa c.arr];exact M
      ·rw[aa v,<-aa c.arr];exact F
      ·rw[aa v,<-aa c.arr];exact G
     unfold mL at N;clear j m JA I H J M F G R;generalize iC w a w[a] (jk w a)=r at *
     go_upto_region 8 with fail
     go_region_held3 (fun b=>b.cell? ⟨g,L+2,none⟩=some (.slice (some ⟨x,0,none⟩) w.length w.length)) (go_keep) (first | (go_at_call 114;refine(N.out _ (by exact(ab.refl [] X).drew)).mono ?_;rintro e V ⟨rfl,k5⟩;have x0:=ac.out V ((ab.refl [] X).drew.trans k5);obtain⟨I,H,J,M,F,G,R⟩:=af.out V ((ab.refl [] X).drew.trans k5)))
     all_goals
      have T:=((ab.refl [] X).drew.trans k5);have p:=(c.Vb T).store hb hg a A r;have s:=rM V x a r;have E:=(Q.Vb T).kept s (by simpa using u) t;have D:=(KX.trans T.wide).trans s;rw[<-O.out]at p;unfold C1 at p s E D;clear m0 m1 B I H J M F G R x0;go_wp2
      go_roundg (w.length-(a+1))
      case measure=>omega
      case rel=>exact⟨a+1,by omega,rfl,by go_num,p,E,D⟩
   ·have h5:(w[a].kind==5)=false:=by have:=TR P;rw[this];rfl
    have O:Hid (jk w (a+1)=(jk w a).set a ⟨w[a].label,1,0,kT⟩):=by show _=_;rw[m.out,j.out,P];rfl
    clear j m
    go_upto_region 6 with fail
    go_region
    all_goals
     have p:=c.store hb hg a A ⟨w[a].label,1,0,kT⟩;have s:=rM X x a ⟨w[a].label,1,0,kT⟩;have E:=Q.kept s (by simpa using u) t;have D:=KX.trans s;rw[<-O.out]at p;unfold C1 at p s E D;simp only[kT]at p E D;clear m1 B I H J M F G R s;go_wp2
     go_roundg (w.length-(a+1))
     case measure=>omega
     case rel=>exact⟨a+1,by omega,rfl,by go_num,p.Vb (ab.refl [] _).drew,E.Vb (ab.refl [] _).drew,D.drew⟩
  ·have e:a=w.length:=by omega
   subst e;rw[LQ]at y;go_wp2;go_end0;exact⟨rfl,y,hK⟩
theorem IM:madeCells (Value.agg #[.string ⟨#[]⟩,.int .i64 0,.int .i64 0,.string ⟨#[]⟩,.int .i64 0,.int .i64 0]).cells (b*6)=(kL (List.replicate b qd)).toArray:=by
  have n:(Value.agg #[.string ⟨#[]⟩,.int .i64 0,.int .i64 0,.string ⟨#[]⟩,.int .i64 0,.int .i64 0]).cells=(mL qd).toArray:=by rfl
  rw[n]
  apply Array.ext
  · rw[Su];simp[CZ]
  · intro i a c
    rw[Su]at a;have j:i / 6<(List.replicate b qd).length:=by simp;omega
    have e:=GJ (List.replicate b qd) (i / 6) j (i % 6) (by omega);have g:i / 6*6+i % 6=i:=by omega
    have m:(List.replicate b qd)[i / 6]=qd:=by simp
    rw[g,m]at e;have d:i<(kL (List.replicate b qd)).length:=by simpa using c
    have p:(kL (List.replicate b qd)).toArray[i]=(kL (List.replicate b qd))[i]:=by simp
    rw[p];have k:some (kL (List.replicate b qd))[i]=(mL qd)[i % 6]?:=by rw[<-e,QP d]
    have l:some (madeCells (mL qd).toArray (b*6))[i]=(mL qd)[i % 6]?:=by
      have o:i % 6=0∨i % 6=1∨i % 6=2∨i % 6=3∨i % 6=4∨i % 6=5:=by omega
      have f:(mL qd).toArray.size=6:=rfl;simp only[madeCells,Array.getElem_map,Array.getElem_range,f]
      rcases o with h | h | h | h | h | h <;> rw[h] <;> rfl
    exact Option.some.inj (l.trans k.symm)
theorem LS:jk w 0=List.replicate w.length qd:=by simp[jk,jZ]
theorem ni(h:ab [] f I)(b:f.heap.size<=n)(a:f.heap.size<=i)(e l k g j c d:Value) :
    ab [] f (((((((I.setCell ⟨n,0,none⟩ e).setCell ⟨n,1,none⟩ l).setCell ⟨n,2,none⟩ k).setCell ⟨i,0,none⟩ g).setCell ⟨i,1,none⟩ j).setCell ⟨i,2,none⟩ c).setCell ⟨i,3,none⟩ d) :=
  ((((((h.setCell (QV b) _).setCell (QV b) _).setCell (QV b) _).setCell (QV a) _).setCell (QV a) _).setCell (QV a) _).setCell (QV a) _
theorem oP(b c a:Value) :
    ab [x,l] z5 (((((((z5.setCell ⟨x,0,none⟩ y0).setCell ⟨x,1,none⟩ y1).setCell ⟨x,2,none⟩ y2).setCell ⟨l,0,none⟩ y3).setCell ⟨l,1,none⟩ b).setCell ⟨l,2,none⟩ c).setCell ⟨l,3,none⟩ a) :=
  (((((((ab.refl [x,l] z5).setCell (Q1 (by simp)) _).setCell (Q1 (by simp)) _).setCell (Q1 (by simp)) _).setCell (Q1 (by simp)) _).setCell (Q1 (by simp)) _).setCell (Q1 (by simp)) _).setCell (Q1 (by simp)) _
def Dz(fs:Fs)(k0:Nat)(w:World)(e:Ending)(w':World):Prop :=
  (if((bK fs k0).1.1==0)=true then ∃(H:Nat->Hd) (g:Nat) (a7:Option Addr) (n7 c7:Nat),
      e=.returned (.tuple #[.agg #[.slice (H 6).ao (bK fs k0).2.2.Vn.length (H 6).cap,.slice a7 n7 c7,.slice (some ⟨g,0,none⟩) (bK fs k0).2.2.Vn.length (bK fs k0).2.2.Vn.length],gU cY]) /\
      gj w' (bK fs k0).2.2.Vn H/\w'.heap[g]?=some (.cells (kL (jZ (bK fs k0).2.2.Vn (bK fs k0).2.2.Vn.length)).toArray 38 (0,0))/\(∀k,f9 H k->w.heap.size<=k)/\w.heap.size<=g
   else e=.returned (.tuple #[.agg #[.slice none 0 0,.slice none 0 0,.slice none 0 0],gU (bK fs k0).1]))/\ab [] w w'
theorem Pk(fs:Fs)(U:List Value)(w:World)(ht:bi w l a fs U)(ax:b<fs.length)(ag:∀j,j<fs.length->(ak fs j).size<=1024) :
    Calls prog 53 #[.pointer (some ⟨l,0,none⟩),.int .i64 b] w fun e z=>Dz fs b w e z:=by
  have be:=ht.lt;obtain⟨i0,hi,aT,a3,az⟩:=Re Qa;have HG:=hI (wT fs ag b);obtain⟨W,hW⟩:∃W,W=(w.alloc (.cells #[.slice none 0 0,.slice none 0 0,.slice none 0 0] 78)).alloc (.cells #[.int .i64 0,.string ⟨#[]⟩,.int .i64 0,.int .i64 0] 87):=⟨_,rfl⟩
  have hK:ab [] w W:=by rw[hW];exact((ab.refl [] _).alloc _).alloc _
  have hA:W.heap[w.heap.size]?=some (.cells #[.slice none 0 0,.slice none 0 0,.slice none 0 0] 78 (0,0)):=by
    rw[hW];exact((ab.refl [] _).alloc _).get (QS _ _) (by simp)
  have hF:W.heap[w.heap.size+1]?=some (.cells bA 87 (0,0)):=by
    rw[hW];have e:(w.alloc (.cells #[.slice none 0 0,.slice none 0 0,.slice none 0 0] 78)).heap.size=w.heap.size+1:=by simp
    rw[<-e];exact QS _ _
  have HW:=hI hW.symm;have RD:=Md l a b fs U W (ht.kept hK (by simp)) ax ag;have an:=hI RD;clear RD hW;unfold Dz;generalize bK fs b=R at *;obtain⟨⟨r,pf,pl,pc⟩,bd,d'⟩:=R;simp only[gU,cY]at an HG ⊢;generalize d'.Vn=c at *;generalize d'.rbl=rb at *;go_enter func53,ntmps53;go_wp2_with fail;rw[HW.out];refine QU an.out ?_;rintro e d ⟨u,y⟩;have J:=y.get hA (by simp);have ac:=y.get hF (by simp);have hz:=y.size;have bc:=ae hF
  cases hr:(r==0)
  · have a4:(r != 0)=true:=by simp[bne,hr]
    simp only[hr,Bool.false_eq_true,if_false]at u ⊢;subst u;have a0:d.cell? ⟨w.heap.size,0,none⟩=some (.slice none 0 0):=by rw[aa J];rfl
    have a1:d.cell? ⟨w.heap.size,1,none⟩=some (.slice none 0 0):=by rw[aa J];rfl
    have a2:d.cell? ⟨w.heap.size,2,none⟩=some (.slice none 0 0):=by rw[aa J];rfl
    obtain⟨z0,z1,z2,z3⟩:=b8 ac;have ya:=am J;have yf:=am ac;have B:=ae J;have D:=ae ac;go_wp2_with fail
    go_region
    all_goals go_wp2
    all_goals exact QY (v:=.tuple #[.agg #[.slice none 0 0,.slice none 0 0,.slice none 0 0],.agg #[.int .i64 r,.string pf,.int .i64 pl,.int .i64 pc]]) (by simp[results,results53,go_sem,a0,a1,a2,z0,z1,z2,z3,B,D]) rfl ⟨rfl,(((ni (hK.trans y) (QR _) (TO _) _ _ _ _ _ _ _).alloc _).alloc _).drew⟩
  · have a4:(r != 0)=false:=by simp[bne,hr]
    simp only[hr,if_true]at u ⊢;obtain⟨V,rfl,ai,al⟩:=u;obtain⟨hS,hT⟩:=ai.trim;have ap:V 6=uU c V 6:=(oe c V 6 (Q1 rfl)).symm;rw[ap];have hN:∀k,f9 (uU c V) k->k<d.heap.size/\w.heap.size+2<=k:=fun k p=>⟨(hT k p).1,by have:=al k (hT k p).2;omega⟩
    clear ai al hT ap;generalize uU c V=H at *;generalize (V 7).ao=m at *;generalize (V 7).cap=i at *;generalize rb.length=h at *;clear V;have S:=hI hN;have a6:=HG.out.ok.len;obtain⟨n,M⟩:∃n,n=(d.alloc (.cells #[.slice (H 6).ao c.length (H 6).cap,.slice m h i] 76)).alloc (.cells #[.int .i64 0,.string ⟨#[]⟩,.int .i64 0,.int .i64 0] 87):=⟨_,rfl⟩
    have k3:ab [] d n:=by rw[M];exact((ab.refl [] _).alloc _).alloc _
    have B3:n.heap[d.heap.size]?=some (.cells #[.slice (H 6).ao c.length (H 6).cap,.slice m h i] 76 (0,0)):=by
      rw[M];exact((ab.refl [] _).alloc _).get (QS _ _) (by simp)
    have F:n.heap.size=d.heap.size+2:=by rw[M];simp
    have O:=hS.Vb k3;have R3:dF n d.heap.size 0 c H:=⟨⟨_,_,B3,rfl⟩,O⟩;have r0:n.cell? ⟨d.heap.size,0,none⟩=some (.slice (H 6).ao c.length (H 6).cap):=by rw[aa B3];rfl
    have r1:n.cell? ⟨d.heap.size,1,none⟩=some (.slice m h i):=by rw[aa B3];rfl
    have ar:Hid (∀z,ab [] n z->Calls prog 80 #[.pointer (some ⟨d.heap.size,0,none⟩)] z fun e a5=>e=.returned (.int .i64 c.length)/\a5=z):=fun z q=>eM d.heap.size 0 c H z (R3.Vb q)
    have ba:Hid (∀z,ab [] n z->z.cell? ⟨d.heap.size,0,none⟩=some (.slice (H 6).ao c.length (H 6).cap)/\z.cell? ⟨d.heap.size,1,none⟩=some (.slice m h i)):=fun z q=>by
      have q2:=q.get B3 (by simp);exact⟨by rw[aa q2];rfl,by rw[aa q2];rfl⟩
    have m1:=fun w=>dB (P:=prog) w 54 38 i0 _ underlying54 hi aT c.length 6 a3 (by rw[az];omega) (by omega)
    obtain⟨G,ad⟩:∃G,G=madeCells (Value.agg #[.string ⟨#[]⟩,.int .i64 0,.int .i64 0,.string ⟨#[]⟩,.int .i64 0,.int .i64 0]).cells (c.length*6):=⟨_,rfl⟩
    have af:Hid (G=(kL (jk c 0)).toArray):=by show _=_;rw[ad,IM,LS]
    rw[<-ad]at m1;clear ad hN hS;have aS:=hI M.symm;clear M
    go_upto_region 4 with fail
    rw[aS.out]
    go_region_held3 (fun z=>z.cell? ⟨d.heap.size,0,none⟩=some (.slice (H 6).ao c.length (H 6).cap)/\z.cell? ⟨d.heap.size,1,none⟩=some (.slice m h i)) (go_keep) (first | (go_at_call 80;refine(ar.out _ (by first | exact(ab.refl [] n).drew | exact((ab.refl [] n).alloc _).drew | exact(ab.refl [] n).drew.alloc _)).mono ?_;rintro e wc ⟨rfl,Q⟩;rw[Q]))
    · obtain⟨s,f⟩:∃s,s=((n.alloc (.cells G 38)).alloc (.cells #[.slice (H 6).ao c.length (H 6).cap,.slice m h i,.slice (some ⟨d.heap.size+2,0,none⟩) c.length c.length] 78)).drew:=⟨_,rfl⟩
      have k4:ab [] n s:=by rw[f];exact(((ab.refl [] _).alloc _).alloc _).drew
      have A:s.heap[d.heap.size+2+1]?=some (.cells #[.slice (H 6).ao c.length (H 6).cap,.slice m h i,.slice (some ⟨d.heap.size+2,0,none⟩) c.length c.length] 78 (0,0)):=by
        rw[f];have e1:(n.alloc (.cells G 38)).heap.size=d.heap.size+2+1:=by simp[F]
        have e:=QS (n.alloc (.cells G 38)) (.cells #[.slice (H 6).ao c.length (H 6).cap,.slice m h i,.slice (some ⟨d.heap.size+2,0,none⟩) c.length c.length] 78);rw[e1]at e;exact(ab.refl [] _).drew.get e (by simp)
      have X:s.heap[d.heap.size+2]?=some (.cells (kL (jk c 0)).toArray 38 (0,0)):=by
        rw[f,<-af.out];have e:=((ab.refl [] (n.alloc (.cells G 38))).alloc (.cells #[.slice (H 6).ao c.length (H 6).cap,.slice m h i,.slice (some ⟨d.heap.size+2,0,none⟩) c.length c.length] 78)).drew.get (QS _ _) (by simp);rw[F]at e;exact e
      rw[<-f];clear f;have Y:kC s (d.heap.size+2+1) 0 c H (d.heap.size+2) (jk c 0):=⟨⟨⟨_,_,A,rfl⟩,O.Vb k4⟩,⟨_,_,A,by rw[sY c 0 (Ro _)];rfl⟩,X⟩;have HJ:=hI (oA (d.heap.size+2+1) 0 (d.heap.size+2) c H s Y HG.out.ok HG.out.prf (by omega) (fun x hx=>by have:=S.out x hx;omega));have K:=(y.trans k3).trans k4;have A4:=K.get hA (by simp);have Z:=K.get hF (by simp);clear Y Q;go_wp2_with fail;refine QU HJ.out ?_;rintro e g ⟨rfl,L,o⟩;have C:=o.get A (by simp);have t:=o.get A4 (by simp;omega);have E:=o.get Z (by simp;omega);have b0:g.cell? ⟨d.heap.size+2+1,0,none⟩=some (.slice (H 6).ao c.length (H 6).cap):=by rw[aa C];rfl
      have b1:g.cell? ⟨d.heap.size+2+1,1,none⟩=some (.slice m h i):=by rw[aa C];rfl
      have b2:g.cell? ⟨d.heap.size+2+1,2,none⟩=some (.slice (some ⟨d.heap.size+2,0,none⟩) c.length c.length):=by rw[aa C];rfl
      have a0:g.cell? ⟨w.heap.size,0,none⟩=some (.slice none 0 0):=by rw[aa t];rfl
      have a1:g.cell? ⟨w.heap.size,1,none⟩=some (.slice none 0 0):=by rw[aa t];rfl
      have a2:g.cell? ⟨w.heap.size,2,none⟩=some (.slice none 0 0):=by rw[aa t];rfl
      obtain⟨z0,z1,z2,z3⟩:=b8 E;have ya:=am t;have yf:=am E;have B:=ae t;have D:=ae E
      have KW:ab [] w g:=by
        have q:=(hK.trans K);exact⟨o.os.trans q.os,o.tape.trans q.tape,o.output.trans q.output,Q3 q.size o.size,fun k p _=>(o.block k (QX p q.size) (by simp;omega)).trans (q.block k p (by simp))⟩
      have T:=oP g w.heap.size (w.heap.size+1);have N:Hid (gj g c H):=L.recd.Vn;have I:=hI L.arr;have v:=hI T;clear L T C t E A A4 Z X;go_wp2
      exact QY (v:=.tuple #[.agg #[.slice (H 6).ao c.length (H 6).cap,.slice m h i,.slice (some ⟨d.heap.size+2,0,none⟩) c.length c.length],.agg #[.int .i64 0,.string ⟨#[]⟩,.int .i64 0,.int .i64 0]]) (by simp[results,results53,go_sem,a0,a1,a2,z0,z1,z2,z3]) rfl
        ⟨⟨H,d.heap.size+2,⟨m,h,i,rfl⟩,N.out.kept (v.out _ _ _ _ _ _ _) (fun k p=>by have:=S.out k p;simp;omega),(v.out _ _ _ _ _ _ _).get I.out (by simp;omega),fun k p=>by have:=S.out k p;omega,by omega⟩,ni KW (QR _) (TO _) _ _ _ _ _ _ _⟩
    · obtain⟨s,f⟩:∃s,s=((n.alloc (.cells #[.slice (H 6).ao c.length (H 6).cap,.slice m h i,.slice (some ⟨d.heap.size+2+1,0,none⟩) c.length c.length] 78)).alloc (.cells G 38)).drew:=⟨_,rfl⟩
      have k4:ab [] n s:=by rw[f];exact(((ab.refl [] _).alloc _).alloc _).drew
      have A:s.heap[d.heap.size+2]?=some (.cells #[.slice (H 6).ao c.length (H 6).cap,.slice m h i,.slice (some ⟨d.heap.size+2+1,0,none⟩) c.length c.length] 78 (0,0)):=by
        rw[f];have e:=((ab.refl [] (n.alloc (.cells #[.slice (H 6).ao c.length (H 6).cap,.slice m h i,.slice (some ⟨d.heap.size+2+1,0,none⟩) c.length c.length] 78))).alloc (.cells G 38)).drew.get (QS _ _) (by simp);rw[F]at e;exact e
      have X:s.heap[d.heap.size+2+1]?=some (.cells (kL (jk c 0)).toArray 38 (0,0)):=by
        rw[f,<-af.out];have e1:(n.alloc (.cells #[.slice (H 6).ao c.length (H 6).cap,.slice m h i,.slice (some ⟨d.heap.size+2+1,0,none⟩) c.length c.length] 78)).heap.size=d.heap.size+2+1:=by simp[F]
        have e:=QS (n.alloc (.cells #[.slice (H 6).ao c.length (H 6).cap,.slice m h i,.slice (some ⟨d.heap.size+2+1,0,none⟩) c.length c.length] 78)) (.cells G 38);rw[e1]at e;exact(ab.refl [] _).drew.get e (by simp)
      rw[<-f];clear f;have Y:kC s (d.heap.size+2) 0 c H (d.heap.size+2+1) (jk c 0):=⟨⟨⟨_,_,A,rfl⟩,O.Vb k4⟩,⟨_,_,A,by rw[sY c 0 (Ro _)];rfl⟩,X⟩;have HJ:=hI (oA (d.heap.size+2) 0 (d.heap.size+2+1) c H s Y HG.out.ok HG.out.prf (by omega) (fun x hx=>by have:=S.out x hx;omega));have K:=(y.trans k3).trans k4;have A4:=K.get hA (by simp);have Z:=K.get hF (by simp);clear Y Q;go_wp2_with fail;refine QU HJ.out ?_;rintro e g ⟨rfl,L,o⟩;have C:=o.get A (by simp);have t:=o.get A4 (by simp;omega);have E:=o.get Z (by simp;omega);have b0:g.cell? ⟨d.heap.size+2,0,none⟩=some (.slice (H 6).ao c.length (H 6).cap):=by rw[aa C];rfl
      have b1:g.cell? ⟨d.heap.size+2,1,none⟩=some (.slice m h i):=by rw[aa C];rfl
      have b2:g.cell? ⟨d.heap.size+2,2,none⟩=some (.slice (some ⟨d.heap.size+2+1,0,none⟩) c.length c.length):=by rw[aa C];rfl
      have a0:g.cell? ⟨w.heap.size,0,none⟩=some (.slice none 0 0):=by rw[aa t];rfl
      have a1:g.cell? ⟨w.heap.size,1,none⟩=some (.slice none 0 0):=by rw[aa t];rfl
      have a2:g.cell? ⟨w.heap.size,2,none⟩=some (.slice none 0 0):=by rw[aa t];rfl
      obtain⟨z0,z1,z2,z3⟩:=b8 E;have ya:=am t;have yf:=am E;have B:=ae t;have D:=ae E
      have KW:ab [] w g:=by
        have q:=(hK.trans K);exact⟨o.os.trans q.os,o.tape.trans q.tape,o.output.trans q.output,Q3 q.size o.size,fun k p _=>(o.block k (QX p q.size) (by simp;omega)).trans (q.block k p (by simp))⟩
      have T:=oP g w.heap.size (w.heap.size+1);have N:Hid (gj g c H):=L.recd.Vn;have I:=hI L.arr;have v:=hI T;clear L T C t E A A4 Z X;go_wp2
      exact QY (v:=.tuple #[.agg #[.slice (H 6).ao c.length (H 6).cap,.slice m h i,.slice (some ⟨d.heap.size+2+1,0,none⟩) c.length c.length],.agg #[.int .i64 0,.string ⟨#[]⟩,.int .i64 0,.int .i64 0]]) (by simp[results,results53,go_sem,a0,a1,a2,z0,z1,z2,z3]) rfl
        ⟨⟨H,d.heap.size+2+1,⟨m,h,i,rfl⟩,N.out.kept (v.out _ _ _ _ _ _ _) (fun k p=>by have:=S.out k p;simp;omega),(v.out _ _ _ _ _ _ _).get I.out (by simp;omega),fun k p=>by have:=S.out k p;omega,by omega⟩,ni KW (QR _) (TO _) _ _ _ _ _ _ _⟩
    · obtain⟨s,f⟩:∃s,s=((n.alloc (.cells #[.slice (H 6).ao c.length (H 6).cap,.slice m h i,.slice (some ⟨d.heap.size+2+1,0,none⟩) c.length c.length] 78)).alloc (.cells G 38)).drew:=⟨_,rfl⟩
      have k4:ab [] n s:=by rw[f];exact(((ab.refl [] _).alloc _).alloc _).drew
      have A:s.heap[d.heap.size+2]?=some (.cells #[.slice (H 6).ao c.length (H 6).cap,.slice m h i,.slice (some ⟨d.heap.size+2+1,0,none⟩) c.length c.length] 78 (0,0)):=by
        rw[f];have e:=((ab.refl [] (n.alloc (.cells #[.slice (H 6).ao c.length (H 6).cap,.slice m h i,.slice (some ⟨d.heap.size+2+1,0,none⟩) c.length c.length] 78))).alloc (.cells G 38)).drew.get (QS _ _) (by simp);rw[F]at e;exact e
      have X:s.heap[d.heap.size+2+1]?=some (.cells (kL (jk c 0)).toArray 38 (0,0)):=by
        rw[f,<-af.out];have e1:(n.alloc (.cells #[.slice (H 6).ao c.length (H 6).cap,.slice m h i,.slice (some ⟨d.heap.size+2+1,0,none⟩) c.length c.length] 78)).heap.size=d.heap.size+2+1:=by simp[F]
        have e:=QS (n.alloc (.cells #[.slice (H 6).ao c.length (H 6).cap,.slice m h i,.slice (some ⟨d.heap.size+2+1,0,none⟩) c.length c.length] 78)) (.cells G 38);rw[e1]at e;exact(ab.refl [] _).drew.get e (by simp)
      rw[<-f];clear f;have Y:kC s (d.heap.size+2) 0 c H (d.heap.size+2+1) (jk c 0):=⟨⟨⟨_,_,A,rfl⟩,O.Vb k4⟩,⟨_,_,A,by rw[sY c 0 (Ro _)];rfl⟩,X⟩;have HJ:=hI (oA (d.heap.size+2) 0 (d.heap.size+2+1) c H s Y HG.out.ok HG.out.prf (by omega) (fun x hx=>by have:=S.out x hx;omega));have K:=(y.trans k3).trans k4;have A4:=K.get hA (by simp);have Z:=K.get hF (by simp);clear Y Q;go_wp2_with fail;refine QU HJ.out ?_;rintro e g ⟨rfl,L,o⟩;have C:=o.get A (by simp);have t:=o.get A4 (by simp;omega);have E:=o.get Z (by simp;omega);have b0:g.cell? ⟨d.heap.size+2,0,none⟩=some (.slice (H 6).ao c.length (H 6).cap):=by rw[aa C];rfl
      have b1:g.cell? ⟨d.heap.size+2,1,none⟩=some (.slice m h i):=by rw[aa C];rfl
      have b2:g.cell? ⟨d.heap.size+2,2,none⟩=some (.slice (some ⟨d.heap.size+2+1,0,none⟩) c.length c.length):=by rw[aa C];rfl
      have a0:g.cell? ⟨w.heap.size,0,none⟩=some (.slice none 0 0):=by rw[aa t];rfl
      have a1:g.cell? ⟨w.heap.size,1,none⟩=some (.slice none 0 0):=by rw[aa t];rfl
      have a2:g.cell? ⟨w.heap.size,2,none⟩=some (.slice none 0 0):=by rw[aa t];rfl
      obtain⟨z0,z1,z2,z3⟩:=b8 E;have ya:=am t;have yf:=am E;have B:=ae t;have D:=ae E
      have KW:ab [] w g:=by
        have q:=(hK.trans K);exact⟨o.os.trans q.os,o.tape.trans q.tape,o.output.trans q.output,Q3 q.size o.size,fun k p _=>(o.block k (QX p q.size) (by simp;omega)).trans (q.block k p (by simp))⟩
      have T:=oP g w.heap.size (w.heap.size+1);have N:Hid (gj g c H):=L.recd.Vn;have I:=hI L.arr;have v:=hI T;clear L T C t E A A4 Z X;go_wp2
      exact QY (v:=.tuple #[.agg #[.slice (H 6).ao c.length (H 6).cap,.slice m h i,.slice (some ⟨d.heap.size+2+1,0,none⟩) c.length c.length],.agg #[.int .i64 0,.string ⟨#[]⟩,.int .i64 0,.int .i64 0]]) (by simp[results,results53,go_sem,a0,a1,a2,z0,z1,z2,z3]) rfl
        ⟨⟨H,d.heap.size+2+1,⟨m,h,i,rfl⟩,N.out.kept (v.out _ _ _ _ _ _ _) (fun k p=>by have:=S.out k p;simp;omega),(v.out _ _ _ _ _ _ _).get I.out (by simp;omega),fun k p=>by have:=S.out k p;omega,by omega⟩,ni KW (QR _) (TO _) _ _ _ _ _ _ _⟩
structure nI(w:World)(x:Nat)(fs:Fs)(l:List St)(H:Nat->Hd)(g:Nat):Prop where
  ver:∃(a7:Option Addr) (n7 c7:Nat),iI w x fs true (.slice (H 6).ao l.length (H 6).cap) (.slice a7 n7 c7) (.slice (some ⟨g,0,none⟩) l.length l.length)
  Vn:gj w l H
  arr:w.heap[g]?=some (.cells (kL (jZ l l.length)).toArray 38 (0,0))
  far:x≠g/\∀k,f9 H k->k≠x
theorem nI.anyR(h:nI f n z7 T o i):li f n z7:=by
  obtain⟨c,a,b,h⟩:=h.ver;exact h.anyR
theorem nI.Vb(h:nI f n z7 T o i)(k:ab [] f I):nI I n z7 T o i:=by
  obtain⟨c,d,a,b⟩:=h.ver;exact⟨⟨c,d,a,bi.kept b k (by simp)⟩,h.Vn.Vb k,k.get h.arr (by simp),h.far⟩
theorem nI.tell(h:nI f n z7 T o i):TellAt f n 10 i (jZ T T.length):=by
  obtain⟨c,d,b,a⟩:=h.ver;refine⟨⟨_,_,a.1,?_⟩,h.arr⟩;rw[oN];rfl
theorem Ip(h:ab z6 f I)(a:f.heap.size<=n)(d e b c:Value) :
    ab z6 f ((((I.setCell ⟨n,0,none⟩ d).setCell ⟨n,1,none⟩ e).setCell ⟨n,2,none⟩ b).setCell ⟨n,3,none⟩ c) :=
  (((h.setCell (QV a) _).setCell (QV a) _).setCell (QV a) _).setCell (QV a) _
theorem wi :
    ab [l] z5 ((((z5.setCell ⟨l,0,none⟩ y0).setCell ⟨l,1,none⟩ y1).setCell ⟨l,2,none⟩ y2).setCell ⟨l,3,none⟩ y3) :=
  ((((ab.refl [l] z5).setCell (Q1 (by simp)) _).setCell (Q1 (by simp)) _).setCell (Q1 (by simp)) _).setCell (Q1 (by simp)) _
theorem rs(h:ab z6 f I)(b:n∈z6∨f.heap.size<=n)(a:i∈z6∨f.heap.size<=i)(e m l k g j c d:Value) :
    ab z6 f ((((((((I.setCell ⟨n,9,none⟩ e).setCell ⟨n,10,none⟩ m).setCell ⟨n,11,none⟩ l).setCell ⟨n,12,none⟩ k).setCell ⟨i,0,none⟩ g).setCell ⟨i,1,none⟩ j).setCell ⟨i,2,none⟩ c).setCell ⟨i,3,none⟩ d) :=
  (((((((h.setCell b _).setCell b _).setCell b _).setCell b _).setCell a _).setCell a _).setCell a _).setCell a _
def FV(fs:Fs)(k0 x:Nat)(w:World)(e:Ending)(w':World):Prop :=
  (if((bK fs k0).1.1==0)=true then e=.returned (.tuple #[gU cY,.int .i64 0])/\∃H g,nI w' x fs (bK fs k0).2.2.Vn H g/\w.heap.size<=g/\∀k,f9 H k->w.heap.size<=k
   else e=.returned (.tuple #[gU (bK fs k0).1,.int .i64 6])/\jR w' x fs)/\ab [x] w w'
theorem FD(m:Fs)(n:ByteArray)(w:World)(h:li w a m)(hf:bF m n=b)(L:b<m.length)(E:∀j,j<m.length->(ak m j).size<=1024) :
    Calls prog 36 #[.pointer (some ⟨a,0,none⟩),.string n] w fun e F=>FV m b a w e F:=by
  have ap:=h.lt;obtain⟨W,C⟩:∃W,W=w.alloc (.cells #[.int .i64 0,.string ⟨#[]⟩,.int .i64 0,.int .i64 0] 87):=⟨_,rfl⟩
  have hK:ab [] w W:=by rw[C];exact(ab.refl [] _).alloc _
  have U:W.heap[w.heap.size]?=some (.cells bA 87 (0,0)):=by rw[C];exact QS _ _
  have B:=h.kept hK (by simp);have HW:=hI C.symm
  have FA:Calls prog 50 #[.pointer (some ⟨a,0,none⟩),.string n] W fun e F=>e=.returned (.int .i64 b)/\F=W:=by
    obtain⟨al,aS,az,c,hv⟩:=B;rw[<-hf];exact lN a _ m _ n W hv
  have D:=hI FA;have DA:=vW a m W B;have M:=hI DA;clear FA DA C;have ar:¬((b:Int)<0):=by omega
  have K:=fun(P:World) (i:jR P a m)=>Pk a _ b m _ P i L E
  unfold Dz at K;have y:=hI K;clear K;unfold FV;generalize bK m b=R at *;obtain⟨⟨r,pf,pl,pc⟩,an,d'⟩:=R;simp only[gU,cY]at y ⊢;generalize d'.Vn=l at *;go_enter func36,ntmps36;go_wp2_with fail;rw[HW.out];refine QU D.out ?_;rintro e w9 ⟨rfl,rfl⟩;go_wp2_with fail;refine QU M.out ?_;rintro e P ⟨rfl,i,q⟩;have O:=q.get U (by simp;omega);go_wp2_with fail;refine QU (y.out _ i) ?_;rintro e z ⟨d,o⟩;have t:=o.get O (by simp);have f:=i.kept o (by simp);have u:ab [a] w z:=((hK.mono (by simp)).trans q).trans (o.mono (by simp));obtain⟨z0,X,Y,z3⟩:=b8 t;have yf:=am t;have p:=ae t;have ax:w.heap.size≠a:=by omega
  have ac:a≠w.heap.size:=by omega
  cases A:(r==0)
  · have S:(r != 0)=true:=by simp[bne,A]
    simp only[A,Bool.false_eq_true,if_false]at d ⊢;subst d;have G:=hI f;clear f i B;go_wp2
    exact QY (v:=.tuple #[.agg #[.int .i64 r,.string pf,.int .i64 pl,.int .i64 pc],.int .i64 6]) (by simp[results,results36,go_sem,z0,X,Y,z3,p]) rfl
      ⟨⟨rfl,G.out.kept (((wi z w.heap.size _ _ _ _).alloc _).alloc _) (by simp;omega)⟩,((Ip u (QR _) _ _ _ _).alloc _).alloc _⟩
  · have S:(r != 0)=false:=by simp[bne,A]
    simp only[A,if_true]at d ⊢;obtain⟨H,g,a7,V,Z,rfl,hS,hA,hN,hg⟩:=d;have ag:=ae U;have ai:=q.size;have af:=o.size;obtain⟨c9,I,Q,N⟩:=iI.cells f;have yv:=bi.free f;have HT:=hI (iI.turn f true (.slice (H 6).ao l.length (H 6).cap) (.slice a7 V Z) (.slice (some ⟨g,0,none⟩) l.length l.length));have J:=hI hS;have T:=hI hA;have s:=hI hN;have ad:a<z.heap.size:=bi.lt f;clear f i B hS hA hN;unfold NO at I Q N;unfold Dh at HT;go_wp2
    exact QY (v:=.tuple #[.agg #[.int .i64 0,.string ⟨#[]⟩,.int .i64 0,.int .i64 0],.int .i64 0]) (by simp[results,results36,go_sem,z0,X,Y,z3,p]) rfl
      ⟨⟨rfl,H,g,⟨⟨a7,V,Z,bi.kept HT.out (((wi _ w.heap.size _ _ _ _).alloc _).alloc _) (by simp;omega)⟩,J.out.kept (((rs (ab.refl [a,w.heap.size] z) (Q1 (by simp)) (Q1 (by simp)) _ _ _ _ _ _ _ _).alloc _).alloc _) (fun k x=>by have:=s.out k x;simp;omega),(((rs (ab.refl [a,w.heap.size] z) (Q1 (by simp)) (Q1 (by simp)) _ _ _ _ _ _ _ _).alloc _).alloc _).get T.out (by simp;omega),⟨by omega,fun k x=>by have:=s.out k x;omega⟩⟩,by omega,fun k x=>by have:=s.out k x;omega⟩,
        ((rs u (Q1 (by simp)) (QV (QR _)) _ _ _ _ _ _ _ _).alloc _).alloc _⟩
def mD(l:List St)(lab:ByteArray)(n:Nat):Bool:=match l[n]? with | some s=>(s.label.toList==lab.toList)&&qP s.kind | none=>false
def gC(l:List St)(lab:ByteArray):Option Nat:=(List.range l.length).find? (mD l lab)
theorem yQ(a:ByteArray)(n:Nat)(h:n<w.length):mD w a n=((w[n].label.toList==a.toList)&&qP w[n].kind):=by
 unfold mD;rw[QP h]
theorem sG(d:ByteArray)(l:List St)(H:Nat->Hd)(w:World)(h:dF w a b l H)(B:l.length<=1073741824) :
  Calls prog 134 #[.pointer (some ⟨a,b,none⟩),.string d] w fun e v=>e=.returned (.int .i64 (nB (gC l d)))/\ab [] w v:=by
 have x:=h.lt;go_enter func134,ntmps134;go_wp2
 go_loopg [5] l.length (fun g i wr=>∃k:Nat,k<=l.length/\g=l.length-k/\i=.int .i64 k/\Hid (∀i,i<k->mD l d i=false)/\ab [] w wr)
 case atStart=>exact⟨0,by omega,by omega,rfl,fun i u=>by omega,ab.refl _ _⟩
 case round =>
  obtain⟨k,L,N,rfl,f,q⟩:=hrel;have o:=h.Vb q;have c:=o.at
  by_cases m:k<l.length
  ·obtain⟨g,A,I,D,E,K,M,F,J,O,G,C⟩:=o.Vn.stmt k m
   rw[A]at c;have p:=hI (yQ l d k m)
   have next:Hid (mD l d k=false->∀i,i<k+1->mD l d i=false):=by
    intro z i u
    by_cases e:i=k
    ·subst e;exact z
    ·exact f.out i (by omega)
   generalize l[k]=s at *
   cases t:(s.label.toList==d.toList)
   ·have n:Hid (mD l d k=false):=by show _=_;rw[p.out,t];simp
    clear p o;go_wp2
    go_roundg (l.length-(k+1))
    case measure=>omega
    case rel=>exact⟨k+1,by omega,rfl,by go_num,next.out n.out,q⟩
   ·cases r:qP s.kind
    ·have n:Hid (mD l d k=false):=by show _=_;rw[p.out,r];simp
     clear p o;go_wp2_with (go_at_call 160;refine(dc s.kind _ _ _ _ _ _ _ _).mono ?_;rintro e y ⟨rfl,j⟩;rw[r])
     go_roundg (l.length-(k+1))
     case measure=>omega
     case rel=>exact⟨k+1,by omega,rfl,by go_num,next.out n.out,q.trans j⟩
    ·have n:Hid (gC l d=some k):=nV m (by rw[p.out,t,r];rfl) f.out
     clear p o;go_wp2_with (go_at_call 160;refine(dc s.kind _ _ _ _ _ _ _ _).mono ?_;rintro e y ⟨rfl,j⟩;rw[r]);go_ret;exact⟨QN (by rw[n.out];rfl),q.trans j⟩
  ·have n:Hid (gC l d=none):=mI (fun i u=>f.out i (by omega))
   clear o;go_wp2;go_ret;exact⟨QN (by rw[n.out];rfl),q⟩
def sN(k:Int):ByteArray:=if(k==2)=true then⟨#[36,102]⟩ else if(k==3)=true then⟨#[36,101]⟩ else if(k==4)=true then⟨#[36,97]⟩ else⟨#[36,112]⟩
theorem Cg:Calls prog 182 #[.int .i64 z4] k fun e f=>e=.returned (.string (sN z4))/\f=k:=by
 cases b:(z4==2)
 ·cases c:(z4==3)
  ·cases d:(z4==4)
   ·have a:Hid (sN z4=⟨#[36,112]⟩):=by show _=_;simp only[sN,b,c,d];rfl
    go_enter func182,ntmps182;go_wp2;go_ret;exact⟨by rw[a.out];rfl,rfl⟩
   ·have a:Hid (sN z4=⟨#[36,97]⟩):=by show _=_;simp only[sN,b,c,d];rfl
    go_enter func182,ntmps182;go_wp2;go_ret;exact⟨by rw[a.out];rfl,rfl⟩
  ·have a:Hid (sN z4=⟨#[36,101]⟩):=by show _=_;simp only[sN,b,c];rfl
   go_enter func182,ntmps182;go_wp2;go_ret;exact⟨by rw[a.out];rfl,rfl⟩
 ·have a:Hid (sN z4=⟨#[36,102]⟩):=by show _=_;simp only[sN,b];rfl
  go_enter func182,ntmps182;go_wp2;go_ret;exact⟨by rw[a.out];rfl,rfl⟩
def nz(s:St)(k:Nat):ByteArray:=(s.U6.take k).foldl (fun t x=>t++(⟨#[32]⟩++x)) (s.label++⟨#[32]⟩++sN s.kind)
def sR(s:St):ByteArray:=nz s s.U6.length
theorem uK(h:b<H.U6.length):nz H (b+1)=nz H b++(⟨#[32]⟩++H.U6[b]):=by
 unfold nz;rw[jo H.U6 b h,Sw];rfl
structure M5(s:St):Prop where
 label:s.label.size<=100000
 syms:∀x∈s.U6,x.size<=100000
theorem yJ:(sN z4).size=2:=by
 unfold sN
 repeat' split
 all_goals rfl
theorem mG:(⟨#[32]⟩:ByteArray).size=1:=rfl
theorem uL(h:M5 H)(k:Nat)(b:k<=H.U6.length):(nz H k).size<=100003+k*100001:=by
 induction k with
 | zero =>
  unfold nz;have:=h.label;simp only[List.take_zero,List.foldl_nil,ByteArray.size_append,mG,yJ];omega
 | succ k a =>
  have c:=h.syms _ (Rb (show k<H.U6.length by omega));rw[uK H k (by omega)];simp only[ByteArray.size_append,mG];have:=a (by omega);omega
def mQ(l:List St)(n:Nat):Option ByteArray:=match l[n]? with
 | some s=>if(s.kind==2)=true then some (aL s) else none
 | none=>none
def jc(l:List St)(hs:List Nat)(k:Nat):List ByteArray:=(hs.take k).filterMap (mQ l)
def eW(l:List St)(hs:List Nat):List ByteArray:=hs.filterMap (mQ l)
theorem FB(h:b<S.length)(c:S[b]<w.length)(a:(w[S[b]].kind==2)=true):jc w S (b+1)=jc w S b++[aL w[S[b]]]:=by
 unfold jc;rw[jo S b h,SU];have:mQ w S[b]=some (aL w[S[b]]):=by unfold mQ;rw[QP c];simp[a]
 simp[this]
theorem J3(h:b<S.length)(c:S[b]<w.length)(a:(w[S[b]].kind==2)=false):jc w S (b+1)=jc w S b:=by
 unfold jc;rw[jo S b h,SU];have:mQ w S[b]=none:=by unfold mQ;rw[QP c];simp[a]
 simp[this]
theorem Fz:(jc w S b).length<=S.length:=by
 unfold jc;have a:=To (mQ w) (S.take b);have c:(S.take b).length<=S.length:=by simp;omega
 omega
theorem vh(h:dF k L x w d)(ok:iH w)(F:aw k N (bB S))(al:S.length<=10000)(I:∀c∈S,c<w.length) :
  Calls prog 180 #[.pointer (some ⟨L,x,none⟩),.slice N.ao S.length N.cap] k fun e w'=>∃f:Hd,e=.returned (.slice f.ao (eW w S).length f.cap)/\aw w' f (aB (eW w S))/\(∀c,f.blk=some c->k.heap.size<=c)/\ab [] k w':=by
 obtain⟨i0,hi,ad,af,X⟩:=Re js;have az:=ok.len;have HE:Hid (jc w S S.length=eW w S):=by show _=_;unfold jc eW;rw[RK]
 rw[<-HE.out];clear HE;obtain⟨AO,A⟩:∃AO,Hid (N.ao=AO):=⟨_,rfl⟩
 rw[A.out];go_enter func180,ntmps180;go_wp2
 go_loopg [5,6] S.length (fun gk sv i wr=>∃(a:Nat) (f:Hd),a<=S.length/\gk=S.length-a/\i=.int .i64 a/\sv=.slice f.ao (jc w S a).length f.cap/\aw wr f (aB (jc w S a))/\(∀c,f.blk=some c->k.heap.size<=c)/\ab [] k wr)
 case atStart=>exact⟨0,⟨none,0⟩,by omega,by omega,rfl,rfl,QZ _ _ _ _,by intro c r;simp[Hd.blk]at r,ab.refl _ _⟩
 case round =>
  obtain⟨a,f,hk,hg,rfl,rfl,U,O,M⟩:=hrel;have hr:=h.Vb M;have ar:=Fz w S a
  by_cases s:a<S.length
  ·have l:=I S[a] (Rb s)
   have m:aw wr N (bB S):=F.Vg (fun c r=>M.block c (F.lt r) (by simp))
   rcases m.Vm with ⟨_,h0,_⟩ | ⟨gh,an,Z,ai,Q,-⟩
   ·have:S.length=0:=h0
    omega
   have ch:=m.cell Z a (.int .i64 S[a]) (jP S a s);have W:AO=some ⟨gh,0,none⟩:=by rw[<-A.out];exact Z
   subst W;have aS:(a:Int)<S.length:=by omega
   have HY:=hI (FB w S a s l);have B:=hI (J3 w S a s l);have ax:=ok.syms S[a] l;clear Z ai Q m A;generalize S[a]=q at *;have R:=mq w[q] (d (10+2*q)) (d (11+2*q));unfold ee at R;have T:=hI R;clear R
   go_upto_region 6 with (go_at_call 97;refine(a9 L x q w d _ (by exact hr) l).mono ?_;rintro e o ⟨rfl,ac⟩;unfold ee)
   obtain⟨g,p⟩:∃g,g=o.alloc (.cells #[.int .i64 w[q].kind,.string w[q].label,.slice (d (10+2*q)).ao w[q].U6.length (d (10+2*q)).cap,.slice (d (11+2*q)).ao w[q].Vh.length (d (11+2*q)).cap,.string w[q].fin.file,.int .i64 w[q].fin.line,.int .i64 w[q].fin.col,.int .i64 w[q].til] 158):=⟨_,rfl⟩
   have y:ab [] wr g:=by rw[p];exact ac.alloc _
   have t:g.heap[o.heap.size]?=some (.cells #[.int .i64 w[q].kind,.string w[q].label,.slice (d (10+2*q)).ao w[q].U6.length (d (10+2*q)).cap,.slice (d (11+2*q)).ao w[q].Vh.length (d (11+2*q)).cap,.string w[q].fin.file,.int .i64 w[q].fin.line,.int .i64 w[q].fin.col,.int .i64 w[q].til] 158 (0,0)):=by rw[p];exact QS _ _
   rw[<-p];clear p;have u0:g.cell? ⟨o.heap.size,0,none⟩=some (.int .i64 w[q].kind):=by rw[aa t];rfl
   have u1:g.cell? ⟨o.heap.size,1,none⟩=some (.string w[q].label):=by rw[aa t];rfl
   have u2:g.cell? ⟨o.heap.size,2,none⟩=some (.slice (d (10+2*q)).ao w[q].U6.length (d (10+2*q)).cap):=by rw[aa t];rfl
   have u3:g.cell? ⟨o.heap.size,3,none⟩=some (.slice (d (11+2*q)).ao w[q].Vh.length (d (11+2*q)).cap):=by rw[aa t];rfl
   have u4:g.cell? ⟨o.heap.size,4,none⟩=some (.string w[q].fin.file):=by rw[aa t];rfl
   have u5:g.cell? ⟨o.heap.size,5,none⟩=some (.int .i64 w[q].fin.line):=by rw[aa t];rfl
   have u6:g.cell? ⟨o.heap.size,6,none⟩=some (.int .i64 w[q].fin.col):=by rw[aa t];rfl
   have u7:g.cell? ⟨o.heap.size,7,none⟩=some (.int .i64 w[q].til):=by rw[aa t];rfl
   have P:=hr.Vb y;have z:aw g f (aB (jc w S a)):=U.Vg (fun c r=>y.block c (U.lt r) (by simp));have Y:=(P.Vn.syms q w[q] (QP l)).view;have J:=M.trans y
   cases h2:(w[q].kind==2)
   ·have G:=hI (B.out h2)
    clear HY B;go_wp2
    go_roundg (S.length-(a+1))
    case measure=>omega
    case rel=>exact⟨a+1,f,by omega,rfl,by go_num,by rw[G.out],by rw[G.out];exact z,O,J⟩
   ·have G:=hI (HY.out h2)
    clear HY B;go_wp2_with (first | (go_at_call 189;refine(T.out _ (by exact Y) (by omega)).mono ?_;rintro e w5 ⟨rfl,k5⟩;have H:=z.Vg (fun c r=>(k5.alloc (.cells #[.string (aL w[q])] 9)).block c (z.lt r) (by simp))) | (at_builtin;refine aM _ rfl (.tmp 23) (.tmp 26) 61 rfl i0 (.string ⟨#[]⟩) 16 f (aB (jc w S a)) underlying61 hi ad af X rfl Rc rfl (by exact H) ⟨_,0,none⟩ 1 1 [.string (aL w[q])] rfl rfl ?d1 ?d2 Rc ?d3 ?d4 ?_))
    case d1=>intro j u K;match j,K with | 0,K=>simp at K;subst K;simp[Addr.add]
    case d2=>intro u hu;simp at hu;subst hu;rfl
    case d3=>simp only[aB];unfold maxLen;omega
    case d4=>simp only[aB];omega
    intro g6 D w6 E v b;rw[dr (jc w S a) (aL w[q]),<-G.out]at E;have C:=(J.trans k5).alloc (.cells #[.string (aL w[q])] 9);have ag:=C.grown v O
    have ap:k.heap.size<=g6:=by
     rcases b with e | e
     ·exact O g6 e
     ·have:=C.size;simp at e this;omega
    have V:Hid ((aB (jc w S a)).n+1=(jc w S (a+1)).length):=by show _=_;rw[G.out];simp[aB]
    rw[V.out];clear v b H;go_wp2
    go_roundg (S.length-(a+1))
    case measure=>omega
    case rel=>exact⟨a+1,⟨some ⟨g6,0,none⟩,D⟩,by omega,rfl,by go_num,rfl,E,by intro c r;simp[Hd.blk]at r;omega,ag⟩
  ·have e:a=S.length:=by omega
   subst e;go_wp2;go_ret;exact⟨f,rfl,U,O,M⟩
theorem Cl(b d:Hd)(w:World)(D:jT w b H.U6)(u:H.U6.length<=10000)(j:M5 H) :
  Calls prog 136 #[ee H b d] w fun e z=>e=.returned (.string (sR H))/\ab [] w z:=by
 unfold ee;have r:=j.label;have B:=yJ H.kind;have L:Hid (H.label++⟨#[32]⟩++sN H.kind=nz H 0):=rfl;obtain⟨X,h⟩:∃X,X=w.alloc (.cells #[.int .i64 H.kind,.string H.label,.slice b.ao H.U6.length b.cap,.slice d.ao H.Vh.length d.cap,.string H.fin.file,.int .i64 H.fin.line,.int .i64 H.fin.col,.int .i64 H.til] 158):=⟨_,rfl⟩
 have J:ab [] w X:=by rw[h];exact(ab.refl [] _).alloc _
 have l:X.heap[w.heap.size]?=some (.cells #[.int .i64 H.kind,.string H.label,.slice b.ao H.U6.length b.cap,.slice d.ao H.Vh.length d.cap,.string H.fin.file,.int .i64 H.fin.line,.int .i64 H.fin.col,.int .i64 H.til] 158 (0,0)):=by rw[h];exact QS _ _
 have E:X.cell? ⟨w.heap.size,0,none⟩=some (.int .i64 H.kind):=by rw[aa l];rfl
 have Q:X.cell? ⟨w.heap.size,1,none⟩=some (.string H.label):=by rw[aa l];rfl
 have C:=hI h.symm;clear h;go_enter func136,ntmps136
 go_upto_region 1 with fail
 rw[C.out]
 go_quiet ((go_at_call 182;exact Rd (Cg _ _)))
 rw[L.out];obtain⟨f,c⟩:∃f,f=X.drewN nq:=⟨_,rfl⟩
 rw[<-c];have o:ab [] w f:=by rw[c];exact J.drewN _
 have q:f.heap[w.heap.size]?=some (.cells #[.int .i64 H.kind,.string H.label,.slice b.ao H.U6.length b.cap,.slice d.ao H.Vh.length d.cap,.string H.fin.file,.int .i64 H.fin.line,.int .i64 H.fin.col,.int .i64 H.til] 158 (0,0)):=by rw[c];exact((ab.refl [] X).drewN _).get l (by simp)
 have K:f.cell? ⟨w.heap.size,2,none⟩=some (.slice b.ao H.U6.length b.cap):=by rw[aa q];rfl
 have m:=D.Vb o;have G:=ae q;clear c E Q;go_wp2
 go_loopg [3,4] H.U6.length (fun g I i wr=>∃k:Nat,k<=H.U6.length/\g=H.U6.length-k/\i=.int .i64 k/\I=.string (nz H k)/\wr=f)
 case atStart=>exact⟨0,by omega,by omega,rfl,rfl,rfl⟩
 case round =>
  obtain⟨k,N,V,rfl,rfl,rfl⟩:=hrel
  by_cases a:k<H.U6.length
  ·have v:=uL H j k N
   have W:=j.syms _ (Rb a);have A:=(show Hid _ from(uK H k a).symm);have P:(k:Int)<H.U6.length:=by omega
   rcases m with M | ⟨g,n,x,t,O,F,p,S,T⟩
   ·rw[M]at a;simp at a
   ·have R:wr.cell? ⟨g,n+k,none⟩=some (.string H.U6[k]):=by rw[aa F];exact p k _ (QP a)
    rw[O]at K;have s:=uL H j (k+1) a;clear p;generalize H.U6[k]=y at *;generalize nz H k=U at *;go_wp2
    go_roundg (H.U6.length-(k+1))
    case measure=>omega
    case rel=>exact⟨k+1,by omega,rfl,by go_num,congrArg Value.string A.out,rfl⟩
  ·have e:k=H.U6.length:=by omega
   subst e;go_wp2;go_ret;exact⟨rfl,o⟩
end Go.Proofs.YtpddjjabfbfifaaGreat
