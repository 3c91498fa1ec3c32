import Derived.BigQuiet
import Derived.Test.YtpddjjabfbfifaaGreatG04
namespace Go.Proofs.YtpddjjabfbfifaaGreat
open Go.RowKit Tryz
set_option maxRecDepth 100000
set_option maxHeartbeats 40000000
variable{n i yd:World}{T d y4:Nat}{g:List Value}{S:Nat->Hd}{a:List St}{y5:Nat->Prop}{z6:List Nat}{y9:Nat->Bool}{zb y0:Hd}{z5:List ByteArray}{yg:ByteArray}{y1:List Bool}{zt:Nat->dN}(D o b:Nat)(z7:Fs)(y6:List Value)(w:List St)(k:Nat->Hd)(x:List ByteArray)(N:List Bool)(L:St)(y3 z4 M:Hd)(f:List ByteArray)(v:List Nat)(y2:List Bool)(y7:Value)(y l:Nat)(I:ByteArray)(H:World)(y8:List ByteArray)
structure gj(w:World)(l:List St)(H:Nat->Hd):Prop where
  own:aw w (H 6) (iE l H)
  syms:∀i s,l[i]?=some s->aw w (H (10+2*i)) (aB s.U6)
  prfs:∀i s,l[i]?=some s->aw w (H (11+2*i)) (gN s.Vh)
theorem aR.record{a:List Value}{b:Db}(h:aR n T d g a b S):gj n b.Vn S:=by
  refine⟨h.own 6,fun i s c=>?_,fun i s c=>?_⟩
  · have:=h.own (10+2*i)
    rw[show 10+2*i=2*i+10 by omega]at this ⊢;have e:aU b S (2*i+10)=aB s.U6:=by simp[aU,inner,symsAt,c]
    rw[e]at this;exact this
  · have:=h.own (11+2*i)
    rw[show 11+2*i=(2*i+1)+10 by omega]at this ⊢;have q:(2*i+1) % 2=1:=by omega
    have f:(2*i+1) / 2=i:=by omega
    have e:aU b S ((2*i+1)+10)=gN s.Vh:=by simp[aU,inner,ti,q,f,c]
    rw[e]at this;exact this
theorem gj.keptP(h:gj n a S)(k:eK y5 n i)(e:∀x,f9 S x->¬y5 x):gj i a S :=
  ⟨h.own.Vg (fun x b=>k.block x (h.own.lt b) (e x ⟨6,b⟩)),fun c s d=>(h.syms c s d).Vg (fun x b=>k.block x ((h.syms c s d).lt b) (e x ⟨_,b⟩)),fun c s d=>(h.prfs c s d).Vg (fun x b=>k.block x ((h.prfs c s d).lt b) (e x ⟨_,b⟩))⟩
theorem gj.kept(h:gj n a S)(k:ab z6 n i)(b:∀x,f9 S x->x∉z6):gj i a S :=
  h.keptP (k.toP (P:=(·∈z6)) (fun _ c _=>c)) b
theorem gj.Vb(h:gj n a S)(k:ab [] n i):gj i a S:=h.kept k (by simp)
def mE:Nat->Hd:=fun _=>⟨none,0⟩
theorem ua:¬f9 mE l:=by rintro ⟨i,h⟩;simp[mE,Hd.blk]at h
def F3:List Bool:=[false,false,false,false]
theorem aR.begin(h:n.heap[T]?=some (.cells (g++(b9 fm mE++[])).toArray d (0,0))):aR n T d g [] fm mE:=by
  refine⟨h,?_,fun i j _=>Q1 rfl,fun i e=>by simp[mE,Hd.blk]at e⟩;intro i
  match i with
  | 0=>exact QZ _ _ _ _
  | 1=>exact QZ _ _ _ _
  | 2=>exact QZ _ _ _ _
  | 3=>exact QZ _ _ _ _
  | 4=>exact QZ _ _ _ _
  | 5=>exact QZ _ _ _ _
  | 6=>exact QZ _ _ _ _
  | 7=>exact QZ _ _ _ _
  | 8=>exact QZ _ _ _ _
  | 9=>exact QZ _ _ _ _
  | n+10 =>
    have e:aU fm mE (n+10)=if n % 2=0 then aB [] else gN []:=by simp[aU,inner,fm,symsAt,ti]
    rw[e]
    split
    · exact QZ _ _ _ _
    · exact QZ _ _ _ _
theorem E4(a:List Value)(d:Db)(H:Nat->Hd)(w:World)(h:aR w D o y6 a d H)(k:y6.length=b) :
    Calls prog 112 #[.pointer (some ⟨D,b,none⟩)] w fun e n=>e=.returned (.agg #[.slice (H 6).ao d.Vn.length (H 6).cap,.slice (H 7).ao d.rbl.length (H 7).cap])/\ab [] w n:=by
  obtain⟨s,l,r,j,m,q,x,u,p,t,c,f,g⟩:=h.cells b k;clear s l r j m q p t c f g;have i:=h.lt;go_enter func112,ntmps112;go_wp2;exact QY (v:=.agg #[.slice (H 6).ao d.Vn.length (H 6).cap,.slice (H 7).ao d.rbl.length (H 7).cap]) (by simp[results,results112,go_sem]) rfl ⟨rfl,(ab.refl _ _).alloc _⟩
theorem Al(a:∀j,j<z7.length->(ak z7 j).size<=1024)(b:List Bool):dP z7 b<=4104:=by
  have h:∀j,MX z7 b j<=1026:=by
    intro j;unfold MX
    split
    · omega
    · rcases UR j z7.length with h | h
      · have:=a j h;omega
      · have:(ak z7 j).size=0:=by unfold ak;rw[QQ,Rx h];rfl
        omega
  have c:=h 0;have e:=h 1;have f:=h 2;have d:=h 3;unfold dP;omega
theorem Ad(h:ab z6 n i)(b:T∈z6∨n.heap.size<=T)(a:d∈z6∨n.heap.size<=d)(f g k j c e:Value) :
    ab z6 n ((((((i.setCell ⟨T,0,none⟩ f).setCell ⟨T,1,none⟩ g).setCell ⟨d,0,none⟩ k).setCell ⟨d,1,none⟩ j).setCell ⟨d,2,none⟩ c).setCell ⟨d,3,none⟩ e) :=
  (((((h.setCell b _).setCell b _).setCell a _).setCell a _).setCell a _).setCell a _
def bK(fs:Fs)(root:Nat):FP:=cn fs 5000 root F3 fm
theorem Md(U:bi H D o z7 y6)(P:b<z7.length)(n:∀j,j<z7.length->(ak z7 j).size<=1024) :
    Calls prog 79 #[.pointer (some ⟨D,0,none⟩),.int .i64 b] H fun e V =>
      (if((bK z7 b).1.1==0)=true then ∃p,e=.returned (.tuple #[.agg #[.slice (p 6).ao (bK z7 b).2.2.Vn.length (p 6).cap,.slice (p 7).ao (bK z7 b).2.2.rbl.length (p 7).cap],gU cY])/\gj V (bK z7 b).2.2.Vn p/\(∀k,f9 p k->H.heap.size<=k)
       else e=.returned (.tuple #[.agg #[.slice none 0 0,.slice none 0 0],gU (bK z7 b).1]))/\ab [] H V:=by
  have ad:=U.lt
  obtain⟨W,s⟩:∃W,W=((H.alloc (.cells #[.slice none 0 0,.slice none 0 0] 76)).alloc (.cells #[.int .i64 0,.string ⟨#[]⟩,.int .i64 0,.int .i64 0] 87)).alloc (.cells #[.pointer (some ⟨D,0,none⟩),.bool false,.bool false,.bool false,.bool false,
    .slice none 0 0,.slice none 0 0,.slice none 0 0,.slice none 0 0,.slice none 0 0,.slice none 0 0,.slice none 0 0,.slice none 0 0,.int .i64 0,.string ⟨#[]⟩,.slice none 0 0,.bool false,.slice none 0 0] 200):=⟨_,rfl⟩
  have l:ab [] H W:=by rw[s];exact(((ab.refl [] _).alloc _).alloc _).alloc _
  have hA:W.heap[H.heap.size]?=some (.cells #[.slice none 0 0,.slice none 0 0] 76 (0,0)):=by
    rw[s];exact(((ab.refl [] _).alloc _).alloc _).get (QS _ _) (by simp)
  have X:W.heap[H.heap.size+1]?=some (.cells bA 87 (0,0)):=by
    rw[s];have e:(H.alloc (.cells #[.slice none 0 0,.slice none 0 0] 76)).heap.size=H.heap.size+1:=by simp
    rw[<-e];exact((ab.refl [] _).alloc _).get (QS _ _) (by simp)
  have Y:aR W (H.heap.size+2) 200 (dM D F3) [] fm mE:=by
    refine aR.begin ?_;rw[s];have e:((H.alloc (.cells #[.slice none 0 0,.slice none 0 0] 76)).alloc (.cells #[.int .i64 0,.string ⟨#[]⟩,.int .i64 0,.int .i64 0] 87)).heap.size=H.heap.size+2:=by simp
    rw[<-e];exact QS _ _
  have hT:bi W D o z7 y6:=U.kept l (by simp);have HW:=hI s.symm;have L:=Av (H.heap.size+2) D o z7 y6 n (by omega) 5000 b F3 fm mE W 0 P rfl nE.empty (by have:=Al z7 n F3;omega) (by have:=Al z7 n F3;omega) Y hT (ua _);unfold jD at L;have t:=hI L;clear s L;have y:Hid ((cn z7 5000 b F3 fm).2.1.length=4):=((Ll z7 5000).2 b F3 fm 0 rfl nE.empty).1;have S:Hid (bK z7 b=cn z7 5000 b F3 fm):=rfl;rw[S.out];clear S;generalize cn z7 5000 b F3 fm=R at *;obtain⟨⟨r,pf,pl,pc⟩,v,A⟩:=R;simp only[gU]at t y ⊢;go_enter func79,ntmps79
  go_upto_region 2 with fail
  rw[HW.out];go_wp2_with fail;refine QU t.out ?_;rintro e B ⟨rfl,f,K,c⟩;have a:=c.1.get hA (by rintro (e | e);omega;exact ua _ e);have d:=c.1.get X (by rintro (e | e);omega;exact ua _ e);have ac:=c.1.size;have af:=K.lt
  have O:Hid (∀k,f9 f k->H.heap.size<=k):=fun k i=>by
    rcases c.2 k i with h | h
    · exact absurd h (ua _)
    · have:=l.size;omega
  have N:Hid (∀k,f9 f k->k≠H.heap.size/\k≠H.heap.size+1/\k≠H.heap.size+2):=fun k i=>by
    have hz:=ae X;have ag:=Y.lt
    rcases c.2 k i with h | h
    · exact absurd h (ua _)
    · omega
  have K2:Hid (ab [] H B):=⟨c.1.os.trans l.os,c.1.tape.trans l.tape,c.1.output.trans l.output,Q3 l.size c.1.size,fun k i _=>(c.1.block k (QX i l.size) (by rintro (e | e);omega;exact ua _ e)).trans (l.block k i (by simp))⟩;have I:B.cell? ⟨H.heap.size,0,none⟩=some (.slice none 0 0):=by rw[aa a];rfl
  have F:B.cell? ⟨H.heap.size,1,none⟩=some (.slice none 0 0):=by rw[aa a];rfl
  obtain⟨C,G,E,J⟩:=b8 d;have Q:=am a;have Z:=am d;have z:=ae a;have w:=ae d
  cases T:(r==0)
  · have M:(r != 0)=true:=by simp[bne,T]
    go_wp2_with fail
    go_region
    all_goals go_wp2
    all_goals exact QY (v:=.tuple #[.agg #[.slice none 0 0,.slice none 0 0],.agg #[.int .i64 r,.string pf,.int .i64 pl,.int .i64 pc]]) (by simp[results,results79,go_sem,I,F,C,G,E,J,z,w]) rfl ⟨rfl,((Ad K2.out (QV (QR _)) (QV (TO _)) _ _ _ _ _ _).alloc _).drew⟩
  · have M:(r != 0)=false:=by simp[bne,T]
    go_wp2_with fail;refine(E4 (H.heap.size+2) 200 5 (dM D v) [] A f _ (by exact K.Vb ((ab.refl [] _).alloc _)) (jl D v y.out)).mono ?_;rintro e q ⟨rfl,x⟩;have g:ab [] B q:=((ab.refl [] _).alloc _).trans x;have m:=g.get a (by simp);have u:=g.get d (by simp);have K4:Hid (ab [] H q):=K2.out.trans g;have S4:Hid (gj q A.Vn f):=K.record.Vb g;clear I F C G E J Q Z x;have I:q.cell? ⟨H.heap.size,0,none⟩=some (.slice none 0 0):=by rw[aa m];rfl
    have F:q.cell? ⟨H.heap.size,1,none⟩=some (.slice none 0 0):=by rw[aa m];rfl
    obtain⟨C,G,E,J⟩:=b8 u;have Q:=am m;have Z:=am u;go_wp2
    exact QY (v:=.tuple #[.agg #[.slice (f 6).ao A.Vn.length (f 6).cap,.slice (f 7).ao A.rbl.length (f 7).cap],.agg #[.int .i64 0,.string ⟨#[]⟩,.int .i64 0,.int .i64 0]]) (by simp[results,results79,go_sem,I,F,C,G,E,J]) rfl
      ⟨⟨f,rfl,S4.out.kept (Ad (ab.refl [H.heap.size,H.heap.size+1] q) (Q1 (by simp)) (Q1 (by simp)) _ _ _ _ _ _) (fun k i=>by have:=N.out k i;simp;omega),O.out⟩,
        Ad K4.out (QV (QR _)) (QV (TO _)) _ _ _ _ _ _⟩
structure dF(w:World)(b o:Nat)(l:List St)(H:Nat->Hd):Prop where
 cell:∃arr t,w.heap[b]?=some (.cells arr t (0,0))/\arr[o]?=some (.slice (H 6).ao l.length (H 6).cap)
 Vn:gj w l H
theorem dF.at(h:dF n T d a S):n.cell? ⟨T,d,none⟩=some (.slice (S 6).ao a.length (S 6).cap):=by
 obtain⟨b,t,c,e⟩:=h.cell;rw[aa c];exact e
theorem dF.lt(h:dF n T d a S):T<n.heap.size:=by
 obtain⟨c,t,b,e⟩:=h.cell;exact ae b
theorem dF.kept(h:dF n T d a S)(k:ab z6 n i)(e:T∉z6)(c:∀x,f9 S x->x∉z6):dF i T d a S:=by
 obtain⟨b,t,f,g⟩:=h.cell;exact⟨⟨b,t,k.get f e,g⟩,h.Vn.kept k c⟩
theorem dF.Vb(h:dF n T d a S)(k:ab [] n i):dF i T d a S:=h.kept k (by simp) (by simp)
theorem gj.stmt(h:gj n a S)(b:Nat)(l:b<a.length) :
  ∃g,(S 6).ao=some ⟨g,0,none⟩/\a.length<=(S 6).cap/\(S 6).cap<=9223372036854775807/\n.cell? ⟨g,b*8,none⟩=some (.int .i64 a[b].kind)/\n.cell? ⟨g,b*8+1,none⟩=some (.string a[b].label)/\n.cell? ⟨g,b*8+2,none⟩=some (.slice (S (10+2*b)).ao a[b].U6.length (S (10+2*b)).cap) /\
  n.cell? ⟨g,b*8+3,none⟩=some (.slice (S (11+2*b)).ao a[b].Vh.length (S (11+2*b)).cap)/\n.cell? ⟨g,b*8+4,none⟩=some (.string a[b].fin.file)/\n.cell? ⟨g,b*8+5,none⟩=some (.int .i64 a[b].fin.line) /\
  n.cell? ⟨g,b*8+6,none⟩=some (.int .i64 a[b].fin.col)/\n.cell? ⟨g,b*8+7,none⟩=some (.int .i64 a[b].til):=by
 rcases h.own.Vm with ⟨_,m,_⟩ | ⟨g,f,d,p,k,e,-⟩
 ·have:a.length=0:=m
  omega
 ·have c:=fun j (i:j<8) v (o:(JO a[b] (S (10+2*b)) (S (11+2*b)))[j]?=some v)=>h.own.cell d (b*8+j) v ((GP a S b l j i).trans o)
  exact⟨g,d,k,by unfold maxLen at e;exact e,c 0 (by omega) _ rfl,c 1 (by omega) _ rfl,c 2 (by omega) _ rfl,c 3 (by omega) _ rfl,c 4 (by omega) _ rfl,c 5 (by omega) _ rfl,c 6 (by omega) _ rfl,c 7 (by omega) _ rfl⟩
theorem eM(h:dF H o b w k) :
  Calls prog 80 #[.pointer (some ⟨o,b,none⟩)] H fun e a=>e=.returned (.int .i64 w.length)/\a=H:=by
 have c:=h.at;go_enter func80,ntmps80;go_wp2;go_ret;exact⟨rfl,rfl⟩
def ee(s:St)(a b:Hd):Value :=
 .agg #[.int .i64 s.kind,.string s.label,.slice a.ao s.U6.length a.cap,.slice b.ao s.Vh.length b.cap,.string s.fin.file,.int .i64 s.fin.line,.int .i64 s.fin.col,.int .i64 s.til]
theorem a9(h:dF H D o w k)(d:b<w.length) :
  Calls prog 97 #[.pointer (some ⟨D,o,none⟩),.int .i64 b] H fun e j=>e=.returned (ee w[b] (k (10+2*b)) (k (11+2*b)))/\ab [] H j:=by
 have c:=h.at;have f:=h.lt;obtain⟨g,a,l,t,u,p,s,m,n,x,r,q⟩:=h.Vn.stmt b d;have i:=h.Vn.own.lt (k:=g) (by unfold Hd.blk;rw[a];rfl);rw[a]at c;unfold ee;clear h;go_enter func97,ntmps97;go_wp2
 exact QY (v:=.agg #[.int .i64 w[b].kind,.string w[b].label,.slice (k (10+2*b)).ao w[b].U6.length (k (10+2*b)).cap,.slice (k (11+2*b)).ao w[b].Vh.length (k (11+2*b)).cap,.string w[b].fin.file,.int .i64 w[b].fin.line,.int .i64 w[b].fin.col,.int .i64 w[b].til])
  (by simp[results,results97,go_sem]) rfl ⟨rfl,(ab.refl _ _).alloc _⟩
def g7(l:List St)(n a:Nat):Bool:=match l[n]? with | some s=>decide (n<a)&&(s.til==0||decide (a<s.til)) | none=>false
theorem Nx(h:y<w.length):g7 w y l=(decide (y<l)&&(w[y].til==0||decide (l<w[y].til))):=by
 unfold g7;rw[QP h]
theorem gF(a:List St)(H:Nat->Hd)(w:World)(h:dF w o b a H)(k:y<a.length) :
  Calls prog 187 #[.pointer (some ⟨o,b,none⟩),.int .i64 y,.int .i64 l] w fun e s=>e=.returned (.bool (g7 a y l))/\s=w:=by
 have c:=h.at;obtain⟨g,r,A,C,x,q,v,n,p,z,u,B⟩:=h.Vn.stmt y k;clear x q v n p z u;rw[r]at c;have f:=hI (Nx a y l k);generalize a[y].til=t at *;clear h
 by_cases j:y<l
 ·cases m:((t:Int)==0)
  ·have d:(t==0)=false:=by cases t <;> simp at m ⊢
   have i:Hid (g7 a y l=decide (l<t)):=by show _=_;rw[f.out,d];simp[j]
   clear f;go_enter func187,ntmps187;go_wp2;go_ret;exact⟨aD (by rw[i.out]),rfl⟩
  ·have d:(t==0)=true:=by cases t <;> simp at m ⊢ <;> omega
   have i:Hid (g7 a y l=true):=by show _=_;rw[f.out,d];simp[j]
   clear f;go_enter func187,ntmps187;go_wp2;go_ret;exact⟨aD (by rw[i.out]),rfl⟩
 ·have i:Hid (g7 a y l=false):=by show _=_;rw[f.out];simp[j]
  clear f;go_enter func187,ntmps187;go_wp2;go_ret;exact⟨aD (by rw[i.out]),rfl⟩
def oE(l:List St)(lab:ByteArray)(a n:Nat):Bool:=match l[n]? with | some s=>(s.label.toList==lab.toList) && !(s.kind==1)&&g7 l n a | none=>false
def my(l:List St)(lab:ByteArray)(a:Nat):Option Nat:=(List.range l.length).find? (oE l lab a)
def nB:Option Nat->Int
 | some n=>n
 | none=>-1
theorem LI(a n:Nat)(h:n<w.length):oE w I a n=((w[n].label.toList==I.toList) && !(w[n].kind==1)&&g7 w n a):=by
 unfold oE;rw[QP h]
theorem nV(c:d<T)(b:y9 d=true)(a:∀i,i<d->y9 i=false):(List.range T).find? y9=some d :=
 Sj.2 ⟨b,by simpa using c,fun j e=>by simp[a j e]⟩
theorem mI(a:∀i,i<T->y9 i=false):(List.range T).find? y9=none :=
 Sk.2 (fun i b=>by simp[a i (by simpa using b)])
theorem iq(a:List St)(H:Nat->Hd)(w:World)(h:dF w b y a H)(J:a.length<=1073741824) :
  Calls prog 185 #[.pointer (some ⟨b,y,none⟩),.string I,.int .i64 l] w fun e A=>e=.returned (.int .i64 (nB (my a I l)))/\A=w:=by
 have c:=h.at;go_enter func185,ntmps185;go_wp2
 go_loopg [7] a.length (fun g i wr=>∃k:Nat,k<=a.length/\g=a.length-k/\i=.int .i64 k/\Hid (∀i,i<k->oE a I l i=false)/\wr=w)
 case atStart=>exact⟨0,by omega,by omega,rfl,fun i s=>by omega,rfl⟩
 case round =>
  obtain⟨k,K,P,rfl,d,rfl⟩:=hrel
  by_cases f:k<a.length
  ·obtain⟨g,z,L,N,O,M,C,u,v,G,B,x⟩:=h.Vn.stmt k f
   clear C u v G B x;rw[z]at c;have m:=hI (LI a I l k f);have t:Hid (dF wr b y a H):=h;generalize a[k].label=D at *;generalize a[k].kind=o at *
   have next:Hid (oE a I l k=false->∀i,i<k+1->oE a I l i=false):=by
    intro F i s
    by_cases e:i=k
    ·subst e;exact F
    ·exact d.out i (by omega)
   cases r:(D.toList==I.toList)
   ·have j:Hid (oE a I l k=false):=by show _=_;rw[m.out,r];simp
    clear m h;go_wp2
    go_roundg (a.length-(k+1))
    case measure=>omega
    case rel=>exact⟨k+1,by omega,rfl,by go_num,next.out j.out,rfl⟩
   ·cases n:(o==1)
    ·have p:(o != 1)=true:=by simp[bne,n]
     cases q:g7 a k l
     ·have j:Hid (oE a I l k=false):=by show _=_;rw[m.out,q];simp
      clear m h;go_wp2_with (go_at_call 187;refine(gF b y k l a H _ t.out f).mono ?_;rintro e E ⟨rfl,rfl⟩)
      go_roundg (a.length-(k+1))
      case measure=>omega
      case rel=>exact⟨k+1,by omega,rfl,by go_num,next.out j.out,rfl⟩
     ·have j:Hid (my a I l=some k):=nV f (by rw[m.out,r,n,q];rfl) d.out
      clear m h;go_wp2_with (go_at_call 187;refine(gF b y k l a H _ t.out f).mono ?_;rintro e E ⟨rfl,rfl⟩);go_ret;exact⟨QN (by rw[j.out];rfl),rfl⟩
    ·have p:(o != 1)=false:=by simp[bne,n]
     have j:Hid (oE a I l k=false):=by show _=_;rw[m.out,n];simp
     clear m h;go_wp2
     go_roundg (a.length-(k+1))
     case measure=>omega
     case rel=>exact⟨k+1,by omega,rfl,by go_num,next.out j.out,rfl⟩
  ·have j:Hid (my a I l=none):=mI (fun i s=>d.out i (by omega))
   clear h;go_wp2;go_ret;exact⟨QN (by rw[j.out];rfl),rfl⟩
def jT(w:World)(h:Hd)(l:List ByteArray):Prop :=
 l=[]∨∃g off cur t,h.ao=some ⟨g,off,none⟩/\w.heap[g]?=some (.cells cur t (0,0))/\(∀j x,l[j]?=some x->cur[off+j]?=some (.string x))/\l.length<=h.cap/\h.cap<=9223372036854775807
theorem aw.view(o:aw n zb (aB z5)):jT n zb z5:=by
 rcases o.Vm with ⟨_,l,_⟩ | ⟨g,a,k,f,i,d,m,e⟩
 ·exact Q1 (Rk l)
 ·refine QV ⟨g,0,a,_,k,f,?_,i,by unfold maxLen at d;exact d⟩
  intro j x c;have h:j<z5.length:=(Q8.1 c).1;have b:a.toList.take (z5.length*1)=cN z5:=e;have:(cN z5)[j]?=some (.string x):=by simp[cN,c]
  rw[<-b,Tj]at this;rw[SJ];simp at this;exact this.2
theorem jT.kept(v:jT n zb z5)(k:ab z6 n i)(d:∀x,zb.blk=some x->x∉z6):jT i zb z5:=by
 rcases v with v | ⟨g,b,a,t,c,e,f⟩
 ·exact Q1 v
 ·exact QV ⟨g,b,a,t,c,k.get e (d g (by unfold Hd.blk;rw[c];rfl)),f⟩
theorem jT.Vb(v:jT n zb z5)(k:ab [] n i):jT i zb z5:=v.kept k (by simp)
theorem qs{b:ByteArray}(h:yg=b):Ending.returned (.string yg)=.returned (.string b):=by rw[h]
theorem Ld(q:jT H M f)(m:f.length<=1073741824) :
  Calls prog 218 #[.slice M.ao f.length M.cap,.string I] H fun e p=>e=.returned (.bool (aJ f I))/\p=H:=by
 obtain⟨v,r⟩:=M
 rcases q with rfl | ⟨g,d,o,t,j,n,h,x,u⟩
 ·clear m
  go_enter func218,ntmps218;go_wp2;refine SZ 1 ?_;rw[Tr];go_wp2;go_ret;exact⟨rfl,rfl⟩
 ·simp only at j
  subst j;go_enter func218,ntmps218;go_wp2
  go_loopg [5] f.length (fun g i wr=>∃k:Nat,k<=f.length/\g=f.length-k/\i=.int .i64 k/\Hid (aJ f I=aJ (f.drop k) I)/\wr=H)
  case atStart=>exact⟨0,by omega,by omega,rfl,rfl,rfl⟩
  case round =>
   obtain⟨k,s,y,rfl,b,rfl⟩:=hrel
   by_cases a:k<f.length
   ·have w:wr.cell? ⟨g,d+k,none⟩=some (.string f[k]):=(aa n (d+k)).trans (h k f[k] (QP a))
    cases l:((f[k]).toList==I.toList)
    ·have c:Hid (aJ f I=aJ (f.drop (k+1)) I):=BU f I k a b.out l
     clear b h;go_wp2
     go_roundg (f.length-(k+1))
     case measure=>omega
     case rel=>exact⟨k+1,by omega,rfl,by go_num,c,rfl⟩
    ·have c:Hid (aJ f I=true):=Gn f I k a b.out l
     clear b h;go_wp2;go_ret;exact⟨aD c.out.symm,rfl⟩
   ·have c:Hid (aJ f I=false):=BZ f I k a b.out
    clear b h;go_wp2;go_ret;exact⟨aD c.out.symm,rfl⟩
def iz(s:St):ByteArray:=s.U6.getD 0 ⟨#[]⟩
def aL(s:St):ByteArray:=if(s.kind==2)=true/\2<=s.U6.length then s.U6.getD 1 ⟨#[]⟩ else⟨#[]⟩
theorem qm(h:l<f.length):f.getD l ⟨#[]⟩=f[l]:=by rw[QQ,QP h];rfl
theorem AI(p:jT H z4 L.U6)(l:L.U6.length<=1073741824) :
  Calls prog 191 #[ee L z4 M] H fun e o=>e=.returned (.string (iz L))/\ab [] H o:=by
 unfold ee;obtain⟨s,q⟩:=z4
 rcases p with f | ⟨g,c,m,t,j,i,k,v,r⟩
 ·have b:Hid (iz L=⟨#[]⟩):=by show _=_;unfold iz;rw[f];rfl
  rw[f];simp only[List.length_nil];clear l f;go_enter func191,ntmps191;go_wp2;go_ret;exact⟨qs b.out.symm,(ab.refl _ _).alloc _⟩
 ·simp only at j
  subst j
  by_cases d:L.U6.length=0
  ·have h:((L.U6.length:Int)==0)=true:=by simp[d]
   have b:Hid (iz L=⟨#[]⟩):=by show _=_;unfold iz;rw[Rk d];rfl
   clear d;go_enter func191,ntmps191;go_wp2;go_ret;exact⟨qs b.out.symm,(ab.refl _ _).alloc _⟩
  ·have h:((L.U6.length:Int)==0)=false:=Rh.2 (by omega)
   have a:0<L.U6.length:=by omega
   have b:Hid (iz L=L.U6[0]):=qm _ _ a;have u:H.cell? ⟨g,c,none⟩=some (.string L.U6[0]):=(aa i c).trans (k 0 _ (QP a));have n:=ae i;clear k d;go_enter func191,ntmps191;go_wp2;go_ret;exact⟨qs b.out.symm,(ab.refl _ _).alloc _⟩
theorem mq(n:jT H z4 L.U6)(q:L.U6.length<=1073741824) :
  Calls prog 189 #[ee L z4 M] H fun e m=>e=.returned (.string (aL L))/\ab [] H m:=by
 unfold ee
 cases d:(L.kind==2)
 ·have f:(L.kind != 2)=true:=by simp[bne,d]
  have b:Hid (aL L=⟨#[]⟩):=by show _=_;unfold aL;rw[d];simp
  go_enter func189,ntmps189;go_wp2;go_ret;exact⟨qs b.out.symm,(ab.refl _ _).alloc _⟩
 ·have f:(L.kind != 2)=false:=by simp[bne,d]
  by_cases v:L.U6.length<2
  ·have b:Hid (aL L=⟨#[]⟩):=by show _=_;unfold aL;rw[QT (by omega)]
   go_enter func189,ntmps189;go_wp2;go_ret;exact⟨qs b.out.symm,(ab.refl _ _).alloc _⟩
  ·have a:1<L.U6.length:=by omega
   obtain⟨s,p⟩:=z4
   rcases n with o | ⟨g,c,k,t,i,h,j,w,r⟩
   ·rw[o]at a;simp at a
   ·simp only at i
    subst i;have b:Hid (aL L=L.U6[1]):=by show _=_;unfold aL;rw[QW ⟨d,by omega⟩];exact qm _ _ a
    have u:H.cell? ⟨g,c+1,none⟩=some (.string L.U6[1]):=(aa h (c+1)).trans (j 1 _ (QP a));have l:=ae h;clear j;go_enter func189,ntmps189;go_wp2;go_ret;exact⟨qs b.out.symm,(ab.refl _ _).alloc _⟩
def pN(s:St)(syms:List ByteArray):Bool:=if(s.kind==2)=true then aJ syms (aL s) else(s.kind==3)
theorem u9(n:jT H y3 L.U6)(d:jT H M f)(m:L.U6.length<=1073741824)(c:f.length<=1073741824) :
  Calls prog 188 #[ee L y3 z4,.slice M.ao f.length M.cap] H fun e b=>e=.returned (.bool (pN L f))/\ab [] H b:=by
 have k:=fun(b:World) (h:jT b y3 L.U6)=>mq L y3 z4 b h m
 have a:=hI k;unfold ee at a ⊢;clear k
 cases l:(L.kind==2)
 ·have i:Hid (pN L f=(L.kind==3)):=by show _=_;unfold pN;rw[l];simp
  go_enter func188,ntmps188;go_wp2;go_ret;exact⟨aD (by rw[i.out]),(ab.refl _ _).alloc _⟩
 ·have i:Hid (pN L f=aJ f (aL L)):=by show _=_;unfold pN;rw[l];simp
  go_enter func188,ntmps188;go_wp2_with fail;refine(a.out _ (by exact n.Vb ((ab.refl [] _).alloc _))).mono ?_;rintro e p ⟨rfl,g⟩;have j:=((ab.refl [] H).alloc _).trans g;go_wp2_with fail;refine(Ld M f _ _ (by exact d.Vb j) c).mono ?_;rintro e o ⟨rfl,rfl⟩;go_wp2;go_ret;exact⟨aD (by rw[i.out]),j⟩
section
structure iH(l:List St):Prop where
 len:l.length<=10000
 pos:∀i (h:i<l.length),0<l[i].U6.length
 syms:∀i (h:i<l.length),l[i].U6.length<=10000
 prfs:∀i (h:i<l.length),l[i].Vh.length<=10000
theorem ab.grown{b:Option Nat}(K:ab [] n i)(g:i.grownBy yd b)(c:∀k,b=some k->n.heap.size<=k):ab [] n yd :=
 ⟨g.os.trans K.os,g.tape.trans K.tape,g.output.trans K.output,Q3 K.size g.size,fun k a _=>(g.block k (QX a K.size) (fun e=>by have:=c k e.symm;omega)).trans (K.block k a (by simp))⟩
theorem wa(k l c u:Int)(a f:ByteArray)(e h:Option Addr)(d b g i:Nat) :
  (Instr.field 158 (.agg #[.int .i64 k,.string a,.slice e d b,.slice h g i,.string f,.int .i64 l,.int .i64 c,.int .i64 u]) 2).run prog H=.ok (.slice e d b) H:=by kernel_rfl
attribute [local go_sem] wa
def zQ(l:List St)(a n:Nat):Bool:=match l[n]? with | some s=>(s.kind==3)&&g7 l n a | none=>false
theorem OT(h:l<w.length):zQ w y l=((w[l].kind==3)&&g7 w l y):=by
 unfold zQ;rw[QP h]
def eJ(l:List St)(a k:Nat):List ByteArray:=symsAt l a++((List.range k).filter (zQ l a)).flatMap (symsAt l)
def f8(l:List St)(a:Nat):List ByteArray:=eJ l a l.length
theorem od(h:l<w.length):symsAt w l=w[l].U6:=by
 unfold symsAt;rw[QP h]
theorem uS:eJ w l 0=symsAt w l:=by unfold eJ;rw[List.range_zero];rw[List.filter_nil,List.flatMap_nil,Rl]
theorem xo(h:zQ w y l=true):eJ w y (l+1)=eJ w y l++symsAt w l:=by
 unfold eJ;rw[R6,RV];simp[h]
theorem uu(h:zQ w y l=false):eJ w y (l+1)=eJ w y l:=by
 unfold eJ;rw[R6,RV];simp[h]
theorem xn(k:Nat)(a:iH w)(b:l<w.length)(f:k<=w.length):(eJ w l k).length<=10000+k*10000:=by
 induction k with
 | zero =>
  have:=a.syms l b;have e:=congrArg List.length (uS w l);have c:=congrArg List.length (od w l b);omega
 | succ k d =>
  have:=d (by omega)
  cases h:zQ w l k with
  | true =>
   have e:=congrArg List.length (xo w l k h);have c:=congrArg List.length (od w k (by omega));have:=a.syms k (by omega);rw[Q0]at e;omega
  | false =>
   have e:=congrArg List.length (uu w l k h);omega
theorem xR(h:dF H D o w k)(K:b<w.length)(M:iH w) :
  Calls prog 186 #[.pointer (some ⟨D,o,none⟩),.int .i64 b] H fun e w'=>∃l:Hd,e=.returned (.slice l.ao (f8 w b).length l.cap)/\aw w' l (aB (f8 w b))/\(∀a,l.blk=some a->H.heap.size<=a)/\ab [] H w':=by
 obtain⟨i0,hi,O,Q,W⟩:=Re js;have ai:=M.len;have al:=h.lt;go_enter func186,ntmps186;go_wp2_with fail;refine(a9 D o b w k _ h K).mono ?_;rintro e w1 ⟨rfl,v⟩;have h1:=h.Vb v;have O1:=h1.Vn.syms b w[b] (QP K);have hp:=M.pos b K;have hm:=M.syms b K
 rcases O1.Vm with ⟨_,h0,_⟩ | ⟨g1,ag,e1,-⟩
 ·have:w[b].U6.length=0:=h0
  omega
 ·unfold ee
  rw[e1];have d:Hid (∀j u,(cN w[b].U6)[j]?=some u->w1.cell? ((⟨g1,0,none⟩:Addr).add j)=some u):=fun j u hj=>by rw[bL];exact O1.cell e1 j u hj
  have ES:Hid (eJ w b 0=w[b].U6):=by show _=_;rw[uS];exact od w b K
  have HO:Hid (aw w1 ⟨none,0⟩ (aB [])):=QZ _ _ _ _;clear O1;go_wp2_with (at_builtin;refine aM _ rfl (.tmp 8) (.tmp 12) 61 rfl i0 (.string ⟨#[]⟩) 16 ⟨none,0⟩ (aB []) underlying61 hi O Q W rfl Rc rfl HO.out ⟨g1,0,none⟩ w[b].U6.length (k (10+2*b)).cap (cN w[b].U6) rfl ?c0 d.out (lY _) hp ?c3 ?c4 ?_)
  case c0=>simp[cN,aB]
  case c3=>simp only[aB,List.length_nil];unfold maxLen;omega
  case c4=>simp only[aB,List.length_nil];omega
  intro g T w2 F R m;rw[qu [] w[b].U6,Uu,<-ES.out]at F;have S:ab [] H w2:=v.grown R (by simp[Hd.blk])
  have ap:H.heap.size<=g:=by
   rcases m with e | e
   ·simp[Hd.blk]at e
   ·exact Q3 v.size e
  have s:Hid ((aB []).n+w[b].U6.length=(eJ w b 0).length):=by show _=_;rw[ES.out];simp[aB]
  rw[s.out];clear d HO R m h1 v e1 hp hm s ES;go_wp2
  go_loopg [5,6] w.length (fun gk sv i wr=>∃(a:Nat) (l:Hd),a<=w.length/\gk=w.length-a/\i=.int .i64 a/\sv=.slice l.ao (eJ w b a).length l.cap/\aw wr l (aB (eJ w b a))/\(∀x,l.blk=some x->H.heap.size<=x)/\ab [] H wr)
  case atStart=>exact⟨0,⟨some ⟨g,0,none⟩,T⟩,by omega,by omega,rfl,rfl,F,by intro x G;simp[Hd.blk]at G;omega,S⟩
  case round =>
   obtain⟨a,l,hk,hg,rfl,rfl,L,X,U⟩:=hrel;have z:=h.Vb U;clear F S
   by_cases c:a<w.length
   ·have an:=xn w b a M K (by omega)
    have p:=hI (OT w b a c);have ar:=M.syms a c;have ad:=M.pos a c;have J:=z.Vn.syms a w[a] (QP c)
    rcases J.Vm with ⟨_,h0,_⟩ | ⟨r,af,ek,-⟩
    ·have:w[a].U6.length=0:=h0
     omega
    ·have SY:Hid (symsAt w a=w[a].U6):=od w a c
     cases Y:(w[a].kind==3)
     ·have A:Hid (eJ w b (a+1)=eJ w b a):=uu w b a (by rw[p.out,Y];rfl)
      clear p J;go_wp2_with (first | (go_at_call 80;refine(eM D o w k _ (by exact z)).mono ?_;rintro e N ⟨rfl,rfl⟩) | (go_at_call 97;refine(a9 D o a w k _ (by exact z) c).mono ?_;rintro e N ⟨rfl,q⟩;unfold ee))
      go_roundg (w.length-(a+1))
      case measure=>omega
      case rel=>exact⟨a+1,l,by omega,rfl,by go_num,by rw[A.out],by rw[A.out];exact L.Vg (fun x G=>(q.trans ((ab.refl [] _).alloc _)).block x (L.lt G) (by simp)),X,(U.trans q).alloc _⟩
     ·go_wp2_with (first | (go_at_call 80;refine(eM D o w k _ (by exact z)).mono ?_;rintro e wc ⟨rfl,rfl⟩) | (go_at_call 97;refine(a9 D o a w k _ (by exact z) c).mono ?_;rintro e N ⟨rfl,q⟩;unfold ee))
      obtain⟨C,t⟩:∃C,C=N.alloc (.cells #[.int .i64 w[a].kind,.string w[a].label,.slice (some ⟨r,0,none⟩) w[a].U6.length (k (10+2*a)).cap,.slice (k (11+2*a)).ao w[a].Vh.length (k (11+2*a)).cap,.string w[a].fin.file,.int .i64 w[a].fin.line,.int .i64 w[a].fin.col,.int .i64 w[a].til] 158):=⟨_,rfl⟩
      rw[<-t];have k4:ab [] wc C:=by rw[t];exact q.alloc _
      have B4:C.heap[N.heap.size]?=some (.cells #[.int .i64 w[a].kind,.string w[a].label,.slice (some ⟨r,0,none⟩) w[a].U6.length (k (10+2*a)).cap,.slice (k (11+2*a)).ao w[a].Vh.length (k (11+2*a)).cap,.string w[a].fin.file,.int .i64 w[a].fin.line,.int .i64 w[a].fin.col,.int .i64 w[a].til] 158 (0,0)):=by rw[t];exact QS _ _
      have q2:C.cell? ⟨N.heap.size,2,none⟩=some (.slice (some ⟨r,0,none⟩) w[a].U6.length (k (10+2*a)).cap):=by rw[aa B4];rfl
      have B:=z.Vb k4;have I:aw C l (aB (eJ w b a)):=L.Vg (fun x G=>k4.block x (L.lt G) (by simp));have Z:=B.Vn.syms a w[a] (QP c);have E:=U.trans k4;have d:Hid (∀j u,(cN w[a].U6)[j]?=some u->C.cell? ((⟨r,0,none⟩:Addr).add j)=some u):=fun j u hj=>by rw[bL];exact Z.cell ek j u hj
      clear t q k4 B4 z L J Z U
      cases hh:g7 w a b
      ·have A:Hid (eJ w b (a+1)=eJ w b a):=uu w b a (by rw[p.out,hh];simp)
       clear p;go_wp2_with (go_at_call 187;refine(gF D o a b w k _ (by exact B) c).mono ?_;rintro e w5 ⟨rfl,rfl⟩)
       go_roundg (w.length-(a+1))
       case measure=>omega
       case rel=>exact⟨a+1,l,by omega,rfl,by go_num,by rw[A.out],by rw[A.out];exact I,X,E⟩
      ·have A:Hid (eJ w b (a+1)=eJ w b a++w[a].U6):=by show _=_;rw[xo w b a (by rw[p.out,Y,hh];rfl),SY.out]
       clear p SY;go_wp2_with (first | (go_at_call 187;refine(gF D o a b w k _ (by exact B) c).mono ?_;rintro e w5 ⟨rfl,rfl⟩) | (at_builtin;refine aM _ rfl (.tmp 32) (.tmp 34) 61 rfl i0 (.string ⟨#[]⟩) 16 l (aB (eJ w b a)) underlying61 hi O Q W rfl Rc rfl (by exact I) ⟨r,0,none⟩ w[a].U6.length (k (10+2*a)).cap (cN w[a].U6) rfl ?d0 d.out (lY _) ad ?d3 ?d4 ?_))
       case d0=>simp[cN,aB]
       case d3=>simp only[aB];unfold maxLen;omega
       case d4=>simp only[aB];omega
       intro g5 P w5 V y f;rw[qu (eJ w b a) w[a].U6,<-A.out]at V;have ac:=E.grown y X
       have ax:H.heap.size<=g5:=by
        rcases f with e | e
        ·exact X g5 e
        ·exact Q3 E.size e
       have s:Hid ((aB (eJ w b a)).n+w[a].U6.length=(eJ w b (a+1)).length):=by show _=_;rw[A.out];simp[aB]
       rw[s.out];clear d y f q2 I;go_wp2
       go_roundg (w.length-(a+1))
       case measure=>omega
       case rel=>exact⟨a+1,⟨some ⟨g5,0,none⟩,P⟩,by omega,rfl,by go_num,rfl,V,by intro x G;simp[Hd.blk]at G;omega,ac⟩
   ·have e:a=w.length:=by omega
    subst e;go_wp2_with (go_at_call 80;refine(eM D o w k _ (by exact z)).mono ?_;rintro e N ⟨rfl,rfl⟩);go_ret;exact⟨l,rfl,L,X,U⟩
end
def l6(l:List St)(syms:List ByteArray)(a n:Nat):Bool:=match l[n]? with | some s=>g7 l n a&&pN s syms | none=>false
theorem QO(h:l<w.length):l6 w f y l=(g7 w l y&&pN w[l] f):=by
 unfold l6;rw[QP h]
def dG(l:List St)(a k:Nat):List Nat:=(List.range k).filter (l6 l (f8 l a) a)
def aK(l:List St)(a:Nat):List Nat:=dG l a l.length
theorem wn(h:l6 w (f8 w y) y l=true):dG w y (l+1)=dG w y l++[l]:=by
 unfold dG;rw[R6,RV];simp[h]
theorem tX(h:l6 w (f8 w y) y l=false):dG w y (l+1)=dG w y l:=by
 unfold dG;rw[R6,RV];simp[h]
theorem oy:(dG w y l).length<=l:=by
 unfold dG;have:=Sc (l6 w (f8 w y) y) (List.range l);simpa using this
theorem Fp(a:iH w)(b:l<w.length):(f8 w l).length<=1073741824:=by
 have e:=xn w l w.length a b (QR _);have c:=a.len;have d:w.length*10000<=10000*10000:=Ur _ c;unfold f8;omega
theorem mA(h:dF H D o w k)(ha:b<w.length)(N:iH w) :
  Calls prog 142 #[.pointer (some ⟨D,o,none⟩),.int .i64 b] H fun e A=>∃g:Hd,e=.returned (.slice g.ao (aK w b).length g.cap)/\aw A g (bB (aK w b))/\(∀a,g.blk=some a->H.heap.size<=a)/\ab [] H A:=by
 obtain⟨i0,hi,P,X,S⟩:=Re yH;have Z:=N.len;have ad:=h.lt;have G:=Fp w b N ha;go_enter func142,ntmps142;go_wp2_with fail;refine(xR D o b w k _ h ha N).mono ?_;rintro e Y ⟨W,rfl,U,ag,v⟩;go_wp2
 go_loopg [5,7] w.length (fun gk sv i wr=>∃(a:Nat) (g:Hd),a<=w.length/\gk=w.length-a/\i=.int .i64 a/\sv=.slice g.ao (dG w b a).length g.cap/\aw wr g (bB (dG w b a))/\(∀x,g.blk=some x->Y.heap.size<=x)/\ab [] Y wr)
 case atStart=>exact⟨0,⟨none,0⟩,by omega,by omega,rfl,rfl,QZ _ _ _ _,by intro x p;simp[Hd.blk]at p,ab.refl _ _⟩
 case round =>
  obtain⟨a,g,hk,hg,rfl,rfl,B,I,C⟩:=hrel;have m:=(h.Vb v).Vb C;have y:jT wr W (f8 w b):=(U.view).Vb C;have af:=oy w b a
  by_cases f:a<w.length
  ·have z:=hI (QO w (f8 w b) b a f)
   have ac:=N.syms a f;have t:=(m.Vn.syms a w[a] (QP f)).view
   cases hh:g7 w a b
   ·have s:Hid (dG w b (a+1)=dG w b a):=tX w b a (by rw[z.out,hh];rfl)
    clear z t y;go_wp2_with (first | (go_at_call 80;refine(eM D o w k _ (by exact m)).mono ?_;rintro e wc ⟨rfl,rfl⟩) | (go_at_call 187;refine(gF D o a b w k _ (by exact m) f).mono ?_;rintro e wd ⟨rfl,rfl⟩))
    go_roundg (w.length-(a+1))
    case measure=>omega
    case rel=>exact⟨a+1,g,by omega,rfl,by go_num,by rw[s.out],by rw[s.out];exact B,I,C⟩
   ·have ME:=fun(A:World) (v1:jT A (k (10+2*a)) w[a].U6) (v2:jT A W (f8 w b))=>u9 w[a] (k (10+2*a)) (k (11+2*a)) W (f8 w b) A v1 v2 (by omega) G
    have q:=hI ME;clear ME
    cases M:pN w[a] (f8 w b)
    ·have s:Hid (dG w b (a+1)=dG w b a):=tX w b a (by rw[z.out,M];simp)
     rw[M]at q;clear z;go_wp2_with (first | (go_at_call 80;refine(eM D o w k _ (by exact m)).mono ?_;rintro e wc ⟨rfl,rfl⟩) | (go_at_call 187;refine(gF D o a b w k _ (by exact m) f).mono ?_;rintro e wd ⟨rfl,rfl⟩) | (go_at_call 97;refine(a9 D o a w k _ (by exact m) f).mono ?_;rintro e w3 ⟨rfl,c⟩) | (go_at_call 188;refine(q.out _ (by exact t.Vb c) (by exact y.Vb c)).mono ?_;rintro e w4 ⟨rfl,l⟩))
     go_roundg (w.length-(a+1))
     case measure=>omega
     case rel=>exact⟨a+1,g,by omega,rfl,by go_num,by rw[s.out],by rw[s.out];exact B.Vg (fun x p=>(c.trans l).block x (B.lt p) (by simp)),I,(C.trans c).trans l⟩
    ·have s:Hid (dG w b (a+1)=dG w b a++[a]):=wn w b a (by rw[z.out,hh,M];rfl)
     rw[M]at q;clear z;go_wp2_with (first | (go_at_call 80;refine(eM D o w k _ (by exact m)).mono ?_;rintro e wc ⟨rfl,rfl⟩) | (go_at_call 187;refine(gF D o a b w k _ (by exact m) f).mono ?_;rintro e wd ⟨rfl,rfl⟩) | (go_at_call 97;refine(a9 D o a w k _ (by exact m) f).mono ?_;rintro e w3 ⟨rfl,c⟩) | (go_at_call 188;refine(q.out _ (by exact t.Vb c) (by exact y.Vb c)).mono ?_;rintro e w4 ⟨rfl,l⟩;have J:=B.Vg (fun x p=>((c.trans l).alloc (.cells #[.int .i64 a] 3)).block x (B.lt p) (by simp))) | (at_builtin;refine aM _ rfl (.tmp 28) (.tmp 30) 26 rfl i0 (.int .i64 0) 8 g (bB (dG w b a)) underlying26 hi P X S rfl Rc rfl (by exact J) ⟨_,0,none⟩ 1 1 [.int .i64 a] rfl rfl ?d1 ?d2 Rc ?d3 ?d4 ?_))
     case d1=>intro j u L;match j,L with | 0,L=>simp at L;subst L;simp[Addr.add]
     case d2=>intro u hu;simp at hu;subst hu;rfl
     case d3=>simp only[bB];unfold maxLen;omega
     case d4=>simp only[bB];omega
     intro Q E w5 K r d;rw[mv (dG w b a) a,<-s.out]at K;have F:=((C.trans c).trans l).alloc (.cells #[.int .i64 a] 3);have V:=F.grown r I
     have ai:Y.heap.size<=Q:=by
      rcases d with e | e
      ·exact I Q e
      ·have:=F.size;simp at e this;omega
     have T:Hid ((bB (dG w b a)).n+1=(dG w b (a+1)).length):=by show _=_;rw[s.out];simp[bB]
     rw[T.out];clear r d J;go_wp2
     go_roundg (w.length-(a+1))
     case measure=>omega
     case rel=>exact⟨a+1,⟨some ⟨Q,0,none⟩,E⟩,by omega,rfl,by go_num,rfl,K,by intro x p;simp[Hd.blk]at p;omega,V⟩
  ·have e:a=w.length:=by omega
   subst e;have O:=v.trans C;have R:=v.size;go_wp2_with (go_at_call 80;refine(eM D o w k _ (by exact m)).mono ?_;rintro e w3 ⟨rfl,rfl⟩);go_ret;exact⟨g,rfl,B,fun x p=>Q3 R (I x p),O⟩
theorem Oz:(prog.info? 26).map (fun i=>(i.zero,i.size,i.bytes))=some (some (.slice none 0 0),1,24):=by kernel_rfl
theorem Ak(h:l<y):(madeCells #[y7] y)[l]?=some y7:=by
 simp[madeCells,h,Nat.mod_one]
def sM(l:List St)(n:Nat):Bool:=match l[n]? with | some s=>qP s.kind | none=>false
theorem z9(h:l<w.length):sM w l=qP w[l].kind:=by
 unfold sM;rw[QP h]
def lO(l:List St)(k n:Nat):List Nat:=if n<k/\sM l n=true then aK l n else []
structure gW(w:World)(g:Nat)(l:List St)(k:Nat)(K:Nat->Hd):Prop where
 arr:∃arr,w.heap[g]?=some (.cells arr 26 (0,0))/\arr.size=l.length/\∀n,n<l.length->arr[n]?=some (.slice (K n).ao (lO l k n).length (K n).cap)
 own:∀n,n<l.length->aw w (K n) (bB (lO l k n))
 off:∀n,(K n).blk≠some g
theorem gW.kept(h:gW n T a d S)(q:ab z6 n i)(j:T∉z6)(g:∀b x,(S b).blk=some x->x∉z6):gW i T a d S:=by
 obtain⟨c,l,m,k⟩:=h.arr;exact⟨⟨c,q.get l j,m,k⟩,fun b e=>(h.own b e).Vg (fun x f=>q.block x ((h.own b e).lt f) (g b x f)),h.off⟩
theorem gW.Vb(h:gW n T a d S)(q:ab [] n i):gW i T a d S:=h.kept q (by simp) (by simp)
theorem gW.cell(h:gW n T a d S)(b:Nat)(e:b<a.length):n.cell? ⟨T,b,none⟩=some (.slice (S b).ao (lO a d b).length (S b).cap):=by
 obtain⟨c,g,i,f⟩:=h.arr;rw[aa g];exact f b e
theorem gW.free(h:gW n T a d S)(b:Nat):n.frozen? ⟨T,b,none⟩=false:=by
 obtain⟨c,e,g,f⟩:=h.arr;exact am e b
theorem gW.lt{k:Nat}(h:gW n T a k S):T<n.heap.size:=by
 obtain⟨c,b,e,d⟩:=h.arr;exact ae b
theorem gW.skip(h:gW n T a d S)(g:sM a d=false):gW n T a (d+1) S:=by
 have e:∀b,lO a (d+1) b=lO a d b:=by
  intro b;unfold lO
  by_cases i:b=d
  ·subst i;rw[QT (by rw[g];simp),QT (by rw[g];simp)]
  ·have:(b<d+1/\sM a b=true) ↔ (b<d/\sM a b=true):=and_congr_left (fun _=>by omega)
   simp only[this]
 obtain⟨c,k,l,j⟩:=h.arr;exact⟨⟨c,k,l,fun b f=>by rw[e];exact j b f⟩,fun b f=>by rw[e];exact h.own b f,h.off⟩
theorem gW.store{k:Nat}(h:gW n T a k S)(p:sM a k=true)(s:k<a.length)(d:Hd)(o:aw n d (bB (aK a k)))(j:d.blk≠some T) :
  gW (n.setCell ⟨T,k,none⟩ (.slice d.ao (aK a k).length d.cap)) T a (k+1) (g9 S k d):=by
 have e:∀b,b≠k->lO a (k+1) b=lO a k b:=by
  intro b c;unfold lO;have:(b<k+1/\sM a b=true) ↔ (b<k/\sM a b=true):=and_congr_left (fun _=>by omega);simp only[this]
 have i:lO a (k+1) k=aK a k:=by unfold lO;rw[QW ⟨by omega,p⟩]
 obtain⟨m,r,l,q⟩:=h.arr;refine⟨⟨_,ah r _ _,by simpa using l,?_⟩,?_,?_⟩
 ·intro b f
  by_cases c:b=k
  ·subst c
   rw[dh,i];simp[l,f]
  ·rw[bU _ _ _ _ c,e b c]
   rw[Uk (by omega)];exact q b f
 ·intro b f
  by_cases c:b=k
  ·subst c
   rw[dh,i];exact o.Vg (fun x g=>Q4 _ _ _ _ (by rintro rfl;exact j g))
  ·rw[bU _ _ _ _ c,e b c]
   exact(h.own b f).Vg (fun x g=>Q4 _ _ _ _ (by rintro rfl;exact h.off b g))
 ·intro b
  by_cases c:b=k
  ·subst c;rw[dh];exact j
  ·rw[bU _ _ _ _ c];exact h.off b
theorem rY(h:dF H o b w k)(S:iH w) :
  Calls prog 113 #[.pointer (some ⟨o,b,none⟩)] H fun e Q=>∃(g:Nat) (K:Nat->Hd),e=.returned (.slice (some ⟨g,0,none⟩) w.length w.length)/\gW Q g w w.length K/\H.heap.size<=g/\(∀n x,(K n).blk=some x->H.heap.size<=x)/\ab [] H Q:=by
 obtain⟨T,Z,B,I,C⟩:=Re Oz;have M:=S.len;have U:=h.lt;have N:=fun H=>dB (P:=prog) H 181 26 T _ underlying181 Z B w.length 1 I (by rw[C];omega) (by omega)
 obtain⟨y,l⟩:∃y,y=madeCells (Value.slice none 0 0).cells (w.length*1):=⟨_,rfl⟩
 rw[<-l]at N
 have O:Hid (gW (H.alloc (.cells y 26)) H.heap.size w 0 mE):=by
  refine⟨⟨y,QS _ _,by rw[l,Su];omega,?_⟩,?_,fun n e=>by simp[mE,Hd.blk]at e⟩
  ·intro n Y
   have e:lO w 0 n=[]:=by unfold lO;rw[QT (by omega)]
   rw[e,l];exact Ak _ _ _ (by omega)
  ·intro n Y
   have e:lO w 0 n=[]:=by unfold lO;rw[QT (by omega)]
   rw[e];exact QZ _ _ _ _
 clear l;go_enter func113,ntmps113;go_wp2_with (go_at_call 80;refine(eM o b w k _ (by exact h)).mono ?_;rintro e wc ⟨rfl,A⟩;rw[A])
 go_loopg [4] w.length (fun gk i wr=>∃(a:Nat) (K:Nat->Hd),a<=w.length/\gk=w.length-a/\i=.int .i64 a/\gW wr H.heap.size w a K/\(∀n x,(K n).blk=some x->H.heap.size<=x)/\ab [] H wr)
 case atStart=>exact⟨0,mE,by omega,by omega,rfl,O.out,fun n x q=>by simp[mE,Hd.blk]at q,(ab.refl _ _).alloc _⟩
 case round =>
  obtain⟨a,K,hk,hg,rfl,u,D,s⟩:=hrel;have E:=h.Vb s;clear O N
  by_cases d:a<w.length
  ·have L:=hI (z9 w a d)
   cases R:qP w[a].kind
   ·have z:Hid (gW wr H.heap.size w (a+1) K):=u.skip (by rw[L.out,R])
    clear L;go_wp2_with (first | (go_at_call 97;refine(a9 o b a w k _ (by exact E) d).mono ?_;rintro e w3 ⟨rfl,f⟩;unfold ee) | (go_at_call 160;refine(dc w[a].kind _ _ _ _ _ _ _ _).mono ?_;rintro e X ⟨rfl,j⟩))
    go_roundg (w.length-(a+1))
    case measure=>omega
    case rel=>exact⟨a+1,K,by omega,rfl,by go_num,(z.out.Vb f).Vb j,D,(s.trans f).trans j⟩
   ·go_wp2_with (first | (go_at_call 97;refine(a9 o b a w k _ (by exact E) d).mono ?_;rintro e w3 ⟨rfl,f⟩;unfold ee) | (go_at_call 160;refine(dc w[a].kind _ _ _ _ _ _ _ _).mono ?_;rintro e X ⟨rfl,j⟩))
    have c:=f.trans j;refine(mA o b a w k _ (E.Vb c) d S).mono ?_;rintro e w5 ⟨v,rfl,t,p,r⟩;have m:=(u.Vb c).Vb r;have W:=(u.Vb c).lt;have F:v.blk≠some H.heap.size:=fun e=>by have:=p _ e;omega
    have z:=hI (m.store (by rw[L.out,R]) d v t F);have G:=(s.trans c).trans r;have V:=(s.trans c).size
    have J:Hid (∀n x,(g9 K a v n).blk=some x->H.heap.size<=x):=by
     intro n x q
     by_cases e:n=a
     ·subst e;rw[dh]at q;have:=p x q;omega
     ·rw[bU _ _ _ _ e]at q;exact D n x q
    have c1:=m.cell a d;have hf:=m.free;clear p t;go_wp2
    go_roundg (w.length-(a+1))
    case measure=>omega
    case rel=>exact⟨a+1,g9 K a v,by omega,rfl,by go_num,z.out,J.out,G.setCell (QV (QR _)) _⟩
  ·have e:a=w.length:=by omega
   subst e;go_wp2;go_ret;exact⟨H.heap.size,K,rfl,u,QR _,D,s⟩
def pu(vs:List ByteArray)(x:ByteArray):Option Nat:=(List.range vs.length).find? (fun i=>(vs.getD i ⟨#[]⟩).toList==x.toList)
def si(l:List Bool):List Value:=l.map Value.bool
def pU(l:List Bool):dN:=⟨4,1,l.length,si l⟩
structure kQ(w:World)(tb:Nat)(vs:List ByteArray)(ms:List Bool)(hv hm:Hd):Prop where
 blk:w.heap[tb]?=some (.cells #[.slice hv.ao vs.length hv.cap,.slice hm.ao ms.length hm.cap] 327 (0,0))
 vars:aw w hv (aB vs)
 marks:aw w hm (pU ms)
 o1:hv.blk≠some tb
 o2:hm.blk≠some tb
 o3:hv.blk=none∨hv.blk≠hm.blk
theorem kQ.cells(h:kQ n T z5 y1 zb y0):n.cell? ⟨T,0,none⟩=some (.slice zb.ao z5.length zb.cap)/\n.cell? ⟨T,1,none⟩=some (.slice y0.ao y1.length y0.cap):=by
 refine⟨?_,?_⟩ <;> (rw[aa h.blk];rfl)
theorem kQ.lt(h:kQ n T z5 y1 zb y0):T<n.heap.size:=ae h.blk
theorem kQ.kept(h:kQ n T z5 y1 zb y0)(k:ab z6 n i)(c:T∉z6)(b:∀x,zb.blk=some x∨y0.blk=some x->x∉z6):kQ i T z5 y1 zb y0 :=
 ⟨k.get h.blk c,h.vars.Vg (fun x a=>k.block x (h.vars.lt a) (b x (Q1 a))),h.marks.Vg (fun x a=>k.block x (h.marks.lt a) (b x (QV a))),h.o1,h.o2,h.o3⟩
theorem kQ.Vb(h:kQ n T z5 y1 zb y0)(k:ab [] n i):kQ i T z5 y1 zb y0:=h.kept k (by simp) (by simp)
theorem sZ(h:kQ H b x N z4 M)(u:x.length<=1073741824) :
  Calls prog 260 #[.pointer (some ⟨b,0,none⟩),.string I] H fun e q=>e=.returned (.int .i64 (nB (pu x I)))/\q=H:=by
 obtain⟨s,w⟩:=h.cells;go_enter func260,ntmps260;go_wp2
 go_loopg [5] x.length (fun g i wr=>∃k:Nat,k<=x.length/\g=x.length-k/\i=.int .i64 k/\Hid (∀i,i<k->((x.getD i ⟨#[]⟩).toList==I.toList)=false)/\wr=H)
 case atStart=>exact⟨0,by omega,by omega,rfl,fun i m=>by omega,rfl⟩
 case round =>
  obtain⟨k,v,A,rfl,a,rfl⟩:=hrel
  by_cases c:k<x.length
  ·rcases h.vars.Vm with ⟨_,t,_⟩ | ⟨g,o,j,-,r,-⟩
   ·have:x.length=0:=t
    omega
   ·have z:=h.vars.cell j k (.string x[k]) (tC x k c)
    rw[j]at s;have d:=hI (qm x k c);have n:x.length<=z4.cap:=r;generalize x[k]=y at *
    cases l:(y.toList==I.toList)
    ·have p:Hid (∀i,i<k+1->((x.getD i ⟨#[]⟩).toList==I.toList)=false):=by
      intro i m
      by_cases e:i=k
      ·subst e;rw[d.out];exact l
      ·exact a.out i (by omega)
     clear d h;go_wp2
     go_roundg (x.length-(k+1))
     case measure=>omega
     case rel=>exact⟨k+1,by omega,rfl,by go_num,p,rfl⟩
    ·have f:Hid (pu x I=some k):=nV c (by rw[d.out];exact l) a.out
     clear d h;go_wp2;go_ret;exact⟨QN (by rw[f.out];rfl),rfl⟩
  ·have f:Hid (pu x I=none):=mI (fun i m=>a.out i (by omega))
   clear h;go_wp2;go_ret;exact⟨QN (by rw[f.out];rfl),rfl⟩
def bD(vs ws:List ByteArray):List Nat:=ws.filterMap (pu vs)
theorem wN(h:y<f.length)(a:pu x f[y]=some l):bD x (f.take (y+1))=bD x (f.take y)++[l]:=by
 unfold bD;rw[jo f y h,SU];simp[a]
theorem wM(h:l<f.length)(a:pu x f[l]=none):bD x (f.take (l+1))=bD x (f.take l):=by
 unfold bD;rw[jo f l h,SU];simp[a]
theorem qT:(bD f y8).length<=y8.length:=To _ _
theorem xN(h:kQ H b x N y3 z4)(hl:x.length<=1073741824)(K:jT H M f)(Q:f.length<=1000000) :
  Calls prog 238 #[.pointer (some ⟨b,0,none⟩),.slice M.ao f.length M.cap] H fun e U=>∃c:Hd,e=.returned (.slice c.ao (bD x f).length c.cap)/\aw U c (bB (bD x f))/\(∀l,c.blk=some l->H.heap.size<=l)/\ab [] H U:=by
 obtain⟨i0,hi,I,S,L⟩:=Re yH;obtain⟨ao,af⟩:=M
 rcases K with rfl | ⟨g,A,ad,t,T,e2,X,e4,e5⟩
 ·clear Q
  go_enter func238,ntmps238;go_wp2;refine SZ 1 ?_;rw[Tr];go_wp2;go_ret;exact⟨⟨none,0⟩,rfl,QZ _ _ _ _,by intro l o;simp[Hd.blk]at o,ab.refl _ _⟩
 simp only at T;subst T;go_enter func238,ntmps238;go_wp2
 go_loopg [5,6] f.length (fun gk sv i wr=>∃(k:Nat) (c:Hd),k<=f.length/\gk=f.length-k/\i=.int .i64 k/\sv=.slice c.ao (bD x (f.take k)).length c.cap/\aw wr c (bB (bD x (f.take k)))/\(∀l,c.blk=some l->H.heap.size<=l)/\ab [] H wr)
 case atStart=>exact⟨0,⟨none,0⟩,by omega,by omega,rfl,rfl,QZ _ _ _ _,by intro l o;simp[Hd.blk]at o,ab.refl _ _⟩
 case round =>
  obtain⟨k,c,hk,hg,rfl,rfl,B,G,C⟩:=hrel;have hr:=h.Vb C;have ac:=qT x (f.take k);have W:(f.take k).length<=k:=by simp;omega
  by_cases q:k<f.length
  ·have c2:wr.cell? ⟨g,A+k,none⟩=some (.string f[k]):=(aa (C.get e2 (by simp)) (A+k)).trans (X k f[k] (QP q))
   ·skip
    have V:=fun p=>wN x f k p q
    have PN:=wM x f k q;have s:=hI V;have r:=hI PN;have Y:=sZ b x N y3 z4 f[k] wr hr hl;have d:=hI Y;clear V PN Y X;generalize f[k]=y at *
    rcases hp:pu x y with _ | p
    ·have E:=hI (r.out hp)
     rw[hp]at d;simp only[nB]at d;clear s r;go_wp2_with (go_at_call 260;refine QU d.out ?_;rintro e w3 ⟨rfl,rfl⟩)
     go_roundg (f.length-(k+1))
     case measure=>omega
     case rel=>exact⟨k+1,c,by omega,rfl,by go_num,by rw[E.out],by rw[E.out];exact B,G,C⟩
    ·have E:=hI (s.out p hp)
     rw[hp]at d;simp only[nB]at d;have z:=B.Vg (fun l o=>((ab.refl [] wr).alloc (.cells #[.int .i64 p] 3)).block l (B.lt o) (by simp));clear s r;go_wp2_with (first | (go_at_call 260;refine QU d.out ?_;rintro e w3 ⟨rfl,P⟩;rw[P]) | (at_builtin;refine aM _ rfl (.tmp 22) (.tmp 24) 26 rfl i0 (.int .i64 0) 8 c (bB (bD x (f.take k))) underlying26 hi I S L rfl Rc rfl (by exact z) ⟨_,0,none⟩ 1 1 [.int .i64 p] rfl rfl ?d1 ?d2 Rc ?d3 ?d4 ?_))
     case d1=>intro j u F;match j,F with | 0,F=>simp at F;subst F;simp[Addr.add]
     case d2=>intro u Z;simp at Z;subst Z;rfl
     case d3=>simp only[bB];unfold maxLen;omega
     case d4=>simp only[bB];omega
     intro J v w5 D m a;rw[mv (bD x (f.take k)) p,<-E.out]at D;have w:=C.alloc (.cells #[.int .i64 p] 3);have R:=w.grown m G
     have ag:H.heap.size<=J:=by
      rcases a with e | e
      ·exact G J e
      ·have:=w.size;simp at e this;omega
     have O:Hid ((bB (bD x (f.take k))).n+1=(bD x (f.take (k+1))).length):=by show _=_;rw[E.out];simp[bB]
     rw[O.out];clear m a z;go_wp2
     go_roundg (f.length-(k+1))
     case measure=>omega
     case rel=>exact⟨k+1,⟨some ⟨J,0,none⟩,v⟩,by omega,rfl,by go_num,rfl,D,by intro l o;simp[Hd.blk]at o;omega,R⟩
  ·have e:k=f.length:=by omega
   subst e;rw[RK]at B ⊢;go_wp2;go_ret;exact⟨c,rfl,B,G,C⟩
def kI(side mi:Nat)(mem:List Nat)(ms:List Bool):List Bool:=mem.foldl (fun ms mj=>ms.set (mi*side+mj) true) ms
def lS(side:Nat)(mem:List Nat)(ms:List Bool):List Bool:=mem.foldl (fun ms mi=>kI side mi mem ms) ms
def jB(side:Nat)(mem:List Nat)(ms:List Bool)(i j:Nat):List Bool:=kI side (mem.getD i 0) (mem.take j) ((mem.take i).foldl (fun ms mi=>kI side mi mem ms) ms)
theorem pO(b:List Nat)(c:List Bool):(kI y l b c).length=c.length:=by
 unfold kI
 induction b generalizing c with
 | nil=>rfl
 | cons a r d=>rw[TA,d];simp
theorem sU(r:List Nat)(c:List Bool):(r.foldl (fun c d=>kI b d v c) c).length=c.length:=by
 induction r generalizing c with
 | nil=>rfl
 | cons a r e=>rw[TA,e,pO]
theorem jV:(jB b v y2 y l).length=y2.length:=by
 unfold jB;rw[pO,sU]
theorem Cs(a:l<v.length):jB b v y2 y (l+1)=(jB b v y2 y l).set (v.getD y 0*b+v[l]) true:=by
 unfold jB kI;rw[jo v l a,Sw];rfl
theorem EB(a:l<v.length):jB b v y2 l v.length=jB b v y2 (l+1) 0:=by
 have e:v.getD l 0=v[l]:=by rw[QQ,QP a];rfl
 unfold jB;rw[RK,jo v l a,Sw,e];rfl
theorem EA:jB b v y2 v.length 0=lS b v y2:=by
 unfold jB lS;rw[RK];rfl
theorem yl:(si y2).length=y2.length*1:=by simp[si]
theorem kQ.mark(h:kQ n T z5 y1 zb y0)(d:Nat)(e:y0.ao=some ⟨d,0,none⟩)(i:Nat)(s:i<y1.length) :
  kQ (n.setCell ⟨d,i,none⟩ (.bool true)) T z5 (y1.set i true) zb y0:=by
 have k:y0.blk=some d:=by unfold Hd.blk;rw[e];rfl
 refine⟨?_,?_,?_,h.o1,h.o2,h.o3⟩
 ·rw[Q4 _ _ _ _ (by rintro rfl;exact h.o2 k),h.blk];simp
 ·refine h.vars.Vg (fun x f=>Q4 _ _ _ _ ?_)
  rintro rfl
  rcases h.o3 with a | a
  ·rw[a]at f;cases f
  ·exact a (f.trans k.symm)
 ·rcases h.marks.Vm with ⟨_,r,_⟩ | ⟨g,c,b,m,p,q,l,o⟩
  ·have:y1.length=0:=r
   omega
  ·have:g=d:=by rw[e]at b;injection b with b;injection b with b;exact b.symm
   subst this;refine⟨by simp only[pU];rw[yl],QV ⟨g,y0.cap,c.setIfInBounds i (.bool true),?_,Ro _,ah m _ _,?_,q,?_,?_⟩⟩
   ·simp[pU,e]
   ·simpa [pU] using p
   ·simpa [pU] using l
   ·have j:c.toList.take (y1.length*1)=si y1:=o
    simp only[pU,List.length_set,Array.toList_setIfInBounds,List.take_set,j];simp[si,List.map_set]
theorem jP(h:l<v.length):(jX v)[l]?=some (.int .i64 v[l]):=by simp[jX,h]
theorem Cp(h:kQ H b x N y3 z4)(R:N.length=x.length*x.length)(J:x.length<=10000)(E:aw H M (bB v))(O:v.length<=1000000)(p:∀i (hi:i<v.length),v[i]<x.length)(l:∀f,M.blk=some f->z4.blk≠some f) :
  Calls prog 237 #[.pointer (some ⟨b,0,none⟩),.slice M.ao v.length M.cap] H fun e X=>e=.returned (.tuple #[])/\kQ X b x (lS x.length v N) y3 z4/\eK (fun k=>z4.blk=some k) H X:=by
 obtain⟨ao,r⟩:=M
 rcases E.Vm with ⟨e0,F,_⟩ | ⟨g,ai,W,e2,Z,P,-⟩
 ·have t:v.length=0:=F
  have T:v=[]:=Rk t;subst T;clear E F t e0 O p l;go_enter func237,ntmps237;go_wp2;refine SZ 1 ?_;rw[Tr];go_wp2;go_end0;exact⟨rfl,h,eK.refl _ _⟩
 simp only at W Z P;have af:v.length<=r:=Z;have ap:r<=9223372036854775807:=by unfold maxLen at P;exact P
 subst W;have an:z4.blk≠some g:=l g rfl;go_enter func237,ntmps237;go_wp2
 go_loopg [4] v.length (fun gk i wr=>∃k:Nat,k<=v.length/\gk=v.length-k/\i=.int .i64 k/\kQ wr b x (jB x.length v N k 0) y3 z4/\eK (fun k=>z4.blk=some k) H wr)
 case atStart=>exact⟨0,by omega,by omega,rfl,h,eK.refl _ _⟩
 case round =>
  obtain⟨k,hk,hg,rfl,C,L⟩:=hrel
  by_cases d:k<v.length
  ·have HR:=hI (EB x.length v N k d)
   go_wp2_with fail
   go_loopg [5] v.length (fun K i2 A=>∃j:Nat,j<=v.length/\K=v.length-j/\i2=.int .i64 j/\kQ A b x (jB x.length v N k j) y3 z4/\eK (fun k=>z4.blk=some k) H A)
   case atStart=>exact⟨0,by omega,by omega,rfl,C,L⟩
   case round =>
    obtain⟨j,hj,ag,rfl,a,o⟩:=hrel;clear C L
    by_cases m:j<v.length
    ·have G:=p k d
     have ad:=p j m;have s:aw wr ⟨some ⟨g,0,none⟩,r⟩ (bB v):=E.Vg (fun f D=>o.block f (E.lt D) (fun e=>l f D e));have p1:=s.cell rfl k (.int .i64 v[k]) (jP v k d);have p2:=s.cell rfl j (.int .i64 v[j]) (jP v j m);obtain⟨c0,V⟩:=a.cells;rw[jV]at V;have S:=Cs x.length v N k j m;have Y:v.getD k 0=v[k]:=by rw[QQ,QP d];rfl
     rw[Y]at S
     have c:v[k]*x.length+v[j]<N.length:=by
      rw[R];have:(v[k]+1)*x.length<=x.length*x.length:=Ur _ G;rw[Uc]at this;omega
     have Q:v[k]*x.length<=10000*10000:=SL (by omega) J;have u:=hI (fun I e=>a.mark I e (v[k]*x.length+v[j]) (by rw[jV];exact c));have z:=hI S
     rcases a.marks.Vm with ⟨_,F,_⟩ | ⟨I,U,B,n,w,-⟩
     ·have:(jB x.length v N k j).length=0:=F
      rw[jV]at this;omega
     ·have ac:N.length<=z4.cap:=by have:(jB x.length v N k j).length<=z4.cap:=w;rw[jV]at this;exact this
      have ax:=am n;have ar:=ae n;have p3:=a.marks.cell B (v[k]*x.length+v[j]) (.bool ((jB x.length v N k j)[v[k]*x.length+v[j]]'(by rw[jV];exact c))) (by simp[pU,si,jV,c]);rw[B]at V;clear S n w s;generalize (jB x.length v N k j)[v[k]*x.length+v[j]]'(by rw[jV];exact c)=old at *;generalize D:v[k]=f at *;generalize hy:v[j]=y at *;obtain⟨q,hq⟩:∃q,f*x.length=q:=⟨_,rfl⟩
      have al:(f:Int)*(x.length:Int)=(q:Int):=by rw[<-hq];simp
      rw[hq]at c Q p3 u z;clear D hy Y;go_wp2_with fail
      go_quiet (fail)
      go_wp2
      go_roundg (v.length-(j+1))
      case measure=>omega
      case rel=>exact⟨j+1,by omega,rfl,by go_num,by rw[z.out];exact(u.out I B).Vb ((ab.refl [] _).drewN nq),(o.Vb ((ab.refl [] _).drewN nq)).setCell (Q1 (by unfold Hd.blk;rw[B];rfl)) _⟩
    ·have e:j=v.length:=by omega
     subst e;rw[HR.out]at a;go_wp2
     go_roundg (v.length-(k+1))
     case measure=>omega
     case rel=>exact⟨k+1,by omega,rfl,by go_num,a,o⟩
  ·have e:k=v.length:=by omega
   subst e;rw[EA]at C;go_wp2;go_end0;exact⟨rfl,C,L⟩
def eD(side:Nat)(ms:List Bool)(i j:Nat):Bool:=!(i==j)&&ms.getD (i*side+j) false
theorem zj(a:T<y4)(b:d<y4):T*y4+d<y4*y4:=by
 have:(T+1)*y4<=y4*y4:=Ur _ a;rw[Uc]at this;omega
theorem qh(h:kQ H b x N z4 M)(m:N.length=x.length*x.length)(g:x.length<=10000)(C:y<x.length)(u:l<x.length) :
  Calls prog 215 #[.pointer (some ⟨b,0,none⟩),.int .i64 y,.int .i64 l] H fun e B=>e=.returned (.bool (eD x.length N y l))/\B=H:=by
 obtain⟨F,v⟩:=h.cells;have a:y*x.length+l<N.length:=by rw[m];exact zj C u
 have k:y*x.length<=10000*10000:=SL (by omega) g
 rcases h.marks.Vm with ⟨_,D,_⟩ | ⟨E,p,o,j,d,-⟩
 ·have:N.length=0:=D
  omega
 ·have s:N.length<=M.cap:=d
  have A:=h.marks.cell o (y*x.length+l) (.bool N[y*x.length+l]) (by simp[pU,si,a]);have r:N.getD (y*x.length+l) false=N[y*x.length+l]:=by rw[QQ,QP a];rfl
  have f:Hid (eD x.length N y l=(!(y==l)&&N[y*x.length+l])):=by show _=_;unfold eD;rw[r]
  rw[o]at v;generalize N[y*x.length+l]=i at *;obtain⟨q,t⟩:∃q,y*x.length=q:=⟨_,rfl⟩
  have z:(y:Int)*(x.length:Int)=(q:Int):=by rw[<-t];simp
  rw[t]at a k A;clear r j d h
  by_cases c:y=l
  ·have w:((y:Int) != (l:Int))=false:=by simp[c]
   have n:Hid (eD x.length N y l=false):=by show _=_;rw[f.out];simp[c]
   clear f;go_enter func215,ntmps215;go_wp2;go_ret;exact⟨aD n.out.symm,rfl⟩
  ·have w:((y:Int) != (l:Int))=true:=by simp;omega
   have n:Hid (eD x.length N y l=i):=by show _=_;rw[f.out];simp[c]
   clear f;go_enter func215,ntmps215;go_wp2;go_ret;exact⟨aD n.out.symm,rfl⟩
def sA(l:List St)(a n:Nat):Bool:=match l[n]? with | some s=>(s.kind==1)&&g7 l n a | none=>false
theorem Nj(h:l<w.length):sA w y l=((w[l].kind==1)&&g7 w l y):=by
 unfold sA;rw[QP h]
def de(l:List St)(a:Nat)(vs:List ByteArray):Nat->List Bool
 | 0=>List.replicate (vs.length*vs.length) false
 | k+1=>if sA l a k=true then lS vs.length (bD vs (symsAt l k)) (de l a vs k) else de l a vs k
def fN(l:List St)(a:Nat)(vs:List ByteArray):List Bool:=de l a vs l.length
theorem ko(k:Nat):(de w l y8 k).length=y8.length*y8.length:=by
 induction k with
 | zero=>simp[de]
 | succ k a =>
  rw[de]
  split
  ·unfold lS;rw[sU,a]
  ·exact a
theorem GB(h:pu z5 yg=some T):T<z5.length:=by
 have:=Rz h;simpa using this
theorem s9(h:l<(bD x f).length):(bD x f)[l]<x.length:=by
 have a:=Rb h;unfold bD at a;rw[UE]at a;obtain⟨c,_,b⟩:=a;exact GB b
theorem OU:(prog.info? 4).map (fun i=>(i.zero,i.size,i.bytes))=some (some (.bool false),1,1):=by kernel_rfl
theorem Co:madeCells #[y7] l=(List.replicate l y7).toArray:=by
 apply Array.ext
 ·rw[Su];simp
 ·intro i a b
  have h:i<l:=by rw[Su]at a;exact a
  have:=Ak y7 l i h;rw[Array.getElem?_eq_getElem a]at this;simp at this ⊢;exact this
theorem ab.ofP(K:ab [] n i)(g:eK y5 i yd)(b:∀k,y5 k->n.heap.size<=k):ab [] n yd :=
 ⟨g.os.trans K.os,g.tape.trans K.tape,g.output.trans K.output,Q3 K.size g.size,fun k a _=>(g.block k (QX a K.size) (fun e=>by have:=b k e;omega)).trans (K.block k a (by simp))⟩
theorem DH(h:dF H D o w k)(ok:iH w)(hO:aw H M (aB f))(F:f.length<=10000) :
  Calls prog 209 #[.pointer (some ⟨D,o,none⟩),.int .i64 b,.slice M.ao f.length M.cap] H fun e w'=>∃(tb:Nat) (u s:Hd),e=.returned (.pointer (some ⟨tb,0,none⟩))/\kQ w' tb f (fN w b f) u s/\H.heap.size<=tb/\(∀x,u.blk=some x∨s.blk=some x->H.heap.size<=x)/\ab [] H w':=by
 obtain⟨i0,hi,ad,T,az⟩:=Re js;obtain⟨i1,ai,an,ap,a1⟩:=Re OU;have a3:=ok.len;have a4:=h.lt;obtain⟨q,hq⟩:∃q,f.length*f.length=q:=⟨_,rfl⟩
 have a6:(f.length:Int)*(f.length:Int)=(q:Int):=by rw[<-hq];simp
 have ba:q<=10000*10000:=by rw[<-hq];exact SL F F
 have m1:=fun H=>dB (P:=prog) H 61 9 i0 _ underlying61 hi ad f.length 1 T (by rw[az];omega) (by omega)
 have m2:=fun H=>dB (P:=prog) H 134 4 i1 _ underlying134 ai an q 1 ap (by rw[a1];omega) (by omega)
 obtain⟨v,l⟩:∃mc,mc=madeCells (Value.string ⟨#[]⟩).cells (f.length*1):=⟨_,rfl⟩
 obtain⟨p,m⟩:∃mc,mc=madeCells (Value.bool false).cells (q*1):=⟨_,rfl⟩
 have z1:v.size=f.length*1:=by rw[l,Su]
 have ac:Hid (p=(si (de w b f 0)).toArray):=by
  show _=_
  rw[m,UZ,<-hq];have:(Value.bool false).cells=#[.bool false]:=rfl;rw[this,Co];simp[de,si]
 rw[<-l]at m1;rw[<-m]at m2;clear l m;have K2:ab [] H (H.alloc (.cells v 9)):=(ab.refl [] _).alloc _;have B:Hid ((prog.info? (aB f).e).map (·.size)=some (aB f).size):=by show _=_;simp[aB,hi,T]
 obtain⟨g,X,K,U,W⟩:=tP (P:=prog) (H.alloc (.cells v 9)) 61 61 3 H.heap.size f.length M (aB f) v 9 underlying61 B.out (QS _ _) (hO.Vg (fun x t=>K2.block x (hO.lt t) (by simp))) z1 (lY _);simp only[aB]at X K;have A:g.heap.size=H.heap.size+1:=by rw[W];simp
 have K3:ab [] H g:=((K2.mono (S':=[H.heap.size]) (by simp)).trans U).mono (by simp);obtain⟨W4,d⟩:∃W4,W4=(g.alloc (.cells p 4)).alloc (.cells #[.slice (some ⟨H.heap.size,0,none⟩) f.length f.length,.slice (some ⟨g.heap.size,0,none⟩) q q] 327):=⟨_,rfl⟩
 have K4:ab [] H W4:=by rw[d];exact(K3.alloc _).alloc _
 have I:Hid (q=(de w b f 0).length):=by show _=_;rw[ko,hq]
 have A4:kQ W4 (g.heap.size+1) f (de w b f 0) ⟨some ⟨H.heap.size,0,none⟩,f.length⟩ ⟨some ⟨g.heap.size,0,none⟩,q⟩:=by
  refine⟨?_,?_,?_,?_,?_,?_⟩
  ·rw[d,<-I.out]
   have:=QS (g.alloc (.cells p 4)) (.cells #[.slice (some ⟨H.heap.size,0,none⟩) f.length f.length,.slice (some ⟨g.heap.size,0,none⟩) q q] 327);simpa using this
  ·refine aw.made (r:=aB f) ?_ (C9 _) (by simp only[aB];unfold maxLen;omega)
   rw[d];exact(((ab.refl [] _).alloc _).alloc _).get K (by simp)
  ·have e:(⟨some ⟨g.heap.size,0,none⟩,q⟩:Hd)=⟨some ⟨g.heap.size,0,none⟩,(pU (de w b f 0)).n⟩:=by rw[I.out];rfl
   rw[e];refine aw.made (r:=pU (de w b f 0)) ?_ (yl _) (by simp only[pU];rw[<-I.out];unfold maxLen;omega);rw[d];have:=((ab.refl [] (g.alloc (.cells p 4))).alloc (.cells #[.slice (some ⟨H.heap.size,0,none⟩) f.length f.length,.slice (some ⟨g.heap.size,0,none⟩) q q] 327)).get (QS g (.cells p 4)) (by simp);rw[this,ac.out];rfl
  ·intro e;simp[Hd.blk]at e;omega
  ·intro e;simp[Hd.blk]at e
  ·right;intro e;simp[Hd.blk]at e;omega
 have E:=hI d.symm;rw[A]at E A4;clear d U K ac K2 hO B z1 W;obtain⟨u,L⟩:∃u:Hd,u=⟨some ⟨H.heap.size,0,none⟩,f.length⟩:=⟨_,rfl⟩
 obtain⟨s,J⟩:∃s:Hd,s=⟨some ⟨H.heap.size+1,0,none⟩,q⟩:=⟨_,rfl⟩
 rw[<-L,<-J]at A4
 have HB:Hid (∀x,u.blk=some x∨s.blk=some x->H.heap.size<=x/\x<=H.heap.size+1):=by
  intro x t;rw[L,J]at t;simp[Hd.blk]at t;omega
 clear L J;go_enter func209,ntmps209
 go_upto_region 4 with fail
 rw[E.out];clear E m1 m2 X K3 A;go_wp2
 go_loopg [9] w.length (fun gk i wr=>∃a:Nat,a<=w.length/\gk=w.length-a/\i=.int .i64 a/\kQ wr (H.heap.size+1+1) f (de w b f a) u s/\ab [] H wr)
 case atStart=>exact⟨0,by omega,by omega,rfl,A4,K4⟩
 case round =>
  obtain⟨a,hk,hg,rfl,hA,Z⟩:=hrel;have G:=h.Vb Z;have bd:=hA.lt;clear A4 K4
  by_cases c:a<w.length
  ·have N:=hI (Nj w b a c)
   have a5:=ok.syms a c;have a7:=ok.pos a c;have SY:Hid (symsAt w a=w[a].U6):=od w a c;have O:Hid (de w b f (a+1)=if sA w b a=true then lS f.length (bD f (symsAt w a)) (de w b f a) else de w b f a):=rfl
   cases S:(w[a].kind==1)
   ·have V:Hid (de w b f (a+1)=de w b f a):=by show _=_;rw[O.out,N.out,S];simp
    clear N O SY;go_wp2_with (first | (go_at_call 80;refine(eM D o w k _ (by exact G)).mono ?_;rintro e wc ⟨rfl,rfl⟩) | (go_at_call 97;refine(a9 D o a w k _ (by exact G) c).mono ?_;rintro e w5 ⟨rfl,j⟩;unfold ee))
    go_roundg (w.length-(a+1))
    case measure=>omega
    case rel=>exact⟨a+1,by omega,rfl,by go_num,by rw[V.out];exact(hA.Vb j).Vb ((ab.refl [] _).alloc _),(Z.trans j).alloc _⟩
   ·go_wp2_with (first | (go_at_call 80;refine(eM D o w k _ (by exact G)).mono ?_;rintro e wc ⟨rfl,af⟩;rw[af]) | (go_at_call 97;refine(a9 D o a w k _ (by exact G) c).mono ?_;rintro e w5 ⟨rfl,j⟩;unfold ee))
    obtain⟨Y,z⟩:∃Y,Y=w5.alloc (.cells #[.int .i64 w[a].kind,.string w[a].label,.slice (k (10+2*a)).ao w[a].U6.length (k (10+2*a)).cap,.slice (k (11+2*a)).ao w[a].Vh.length (k (11+2*a)).cap,.string w[a].fin.file,.int .i64 w[a].fin.line,.int .i64 w[a].fin.col,.int .i64 w[a].til] 158):=⟨_,rfl⟩
    rw[<-z];have k6:ab [] wr Y:=by rw[z];exact j.alloc _
    have B6:Y.heap[w5.heap.size]?=some (.cells #[.int .i64 w[a].kind,.string w[a].label,.slice (k (10+2*a)).ao w[a].U6.length (k (10+2*a)).cap,.slice (k (11+2*a)).ao w[a].Vh.length (k (11+2*a)).cap,.string w[a].fin.file,.int .i64 w[a].fin.line,.int .i64 w[a].fin.col,.int .i64 w[a].til] 158 (0,0)):=by rw[z];exact QS _ _
    have q2:Y.cell? ⟨w5.heap.size,2,none⟩=some (.slice (k (10+2*a)).ao w[a].U6.length (k (10+2*a)).cap):=by rw[aa B6];rfl
    have C:=G.Vb k6;have y:=hA.Vb k6;have Q:=Z.trans k6;have a2:=(C.Vn.syms a w[a] (QP c)).view;clear z j k6 B6 G hA Z
    cases hh:g7 w a b
    ·have V:Hid (de w b f (a+1)=de w b f a):=by show _=_;rw[O.out,N.out,hh];simp
     clear N O SY;go_wp2_with (go_at_call 187;refine(gF D o a b w k _ (by exact C) c).mono ?_;rintro e w7 ⟨rfl,rfl⟩)
     go_roundg (w.length-(a+1))
     case measure=>omega
     case rel=>exact⟨a+1,by omega,rfl,by go_num,by rw[V.out];exact y,Q⟩
    ·have V:Hid (de w b f (a+1)=lS f.length (bD f w[a].U6) (de w b f a)):=by show _=_;rw[O.out,N.out,S,hh,SY.out];simp
     clear N O SY;go_wp2_with (first | (go_at_call 187;refine(gF D o a b w k _ (by exact C) c).mono ?_;rintro e w7 ⟨rfl,aT⟩;rw[aT]) | (go_at_call 238;refine(xN (H.heap.size+1+1) f (de w b f a) u s (k (10+2*a)) w[a].U6 _ (by exact y) (by omega) (by exact a2) (by omega)).mono ?_;rintro e w8 ⟨hd,rfl,al,a0,R⟩));have aS:=y.Vb R;have bc:=qT f w[a].U6
     refine(Cp (H.heap.size+1+1) f (de w b f a) u s hd (bD f w[a].U6) _ aS (ko _ _ _ _) F al (by omega) (fun i hi=>s9 f w[a].U6 i hi) (by
      intro x t e;have h1:=a0 x t;have h2:=HB.out x (QV e);have h3:=y.lt
      omega)).mono ?_
     rintro e w9 ⟨rfl,ar,ax⟩;have ag:=(Q.trans R).ofP ax (fun x t=>(HB.out x (QV t)).1);go_wp2
     go_roundg (w.length-(a+1))
     case measure=>omega
     case rel=>exact⟨a+1,by omega,rfl,by go_num,by rw[V.out];exact ar,ag⟩
  ·have e:a=w.length:=by omega
   subst e;go_wp2_with (go_at_call 80;refine(eM D o w k _ (by exact G)).mono ?_;rintro e wc ⟨rfl,rfl⟩);go_ret;exact⟨H.heap.size+1+1,u,s,rfl,hA,by omega,fun x t=>(HB.out x t).1,Z⟩
structure a8(w:World)(b t:Nat)(cs:List Value)(rows:Nat->dN)(H:Nat->Hd):Prop where
 blk:w.heap[b]?=some (.cells cs.toArray t (0,0))
 own:∀i,aw w (H i) (rows i)
 apart:∀i j,i≠j->(H i).blk=none∨(H i).blk≠(H j).blk
 off:∀i,(H i).blk≠some b
theorem a8.lt(h:a8 n T d g zt S):T<n.heap.size:=ae h.blk
theorem a8.inlt(h:a8 n T d g zt S)(b:f9 S y4):y4<n.heap.size:=by
 obtain⟨i,a⟩:=b;exact(h.own i).lt a
theorem a8.free(h:a8 n T d g zt S)(i:Nat):n.frozen? ⟨T,i,none⟩=false:=am h.blk i
theorem a8.cell(h:a8 n T d g zt S)(i:Nat):n.cell? ⟨T,i,none⟩=g[i]?:=by rw[aa h.blk];simp
theorem a8.keptP(h:a8 n T d g zt S)(c:eK y5 n i)(e:¬y5 T)(f:∀k,f9 S k->¬y5 k):a8 i T d g zt S :=
 ⟨c.get h.blk e,fun b=>(h.own b).Vg (fun k a=>c.block k ((h.own b).lt a) (f k ⟨b,a⟩)),h.apart,h.off⟩
theorem a8.kept(h:a8 n T d g zt S)(a:ab z6 n i)(c:T∉z6)(e:∀k,f9 S k->k∉z6):a8 i T d g zt S :=
 h.keptP (a.toP (P:=(·∈z6)) (fun _ b _=>b)) c e
theorem a8.Vb(h:a8 n T d g zt S)(a:ab [] n i):a8 i T d g zt S:=h.kept a (by simp) (by simp)
theorem a8.put{rows':Nat->dN}(h:a8 n T d g zt S)(c f:Nat)(r:Hd)(E:aw i r (rows' f))(v:n.grownBy i (S f).blk)(b:r.blk=none∨r.blk=(S f).blk∨∃w,r.blk=some w/\n.heap.size<=w)(x:∀j,j≠f->rows' j=zt j)(u:Value) :
  a8 (i.setCell ⟨T,c,none⟩ u) T d (g.set c u) rows' (g9 S f r)/\aA T n S (i.setCell ⟨T,c,none⟩ u) (g9 S f r):=by
 have D:=h.lt;have z:i.heap[T]?=some (.cells g.toArray d (0,0)):=(v.block T D (fun e=>h.off f e.symm)).trans h.blk
 have s:∀j,(g9 S f r j).blk≠some T:=by
  intro j
  by_cases e:j=f
  ·subst e;rw[dh];intro t
   rcases b with b | b | ⟨w,b,p⟩
   ·rw[b]at t;cases t
   ·exact h.off j (b ▸ t)
   ·rw[b]at t;cases t;omega
  ·rw[bU _ _ _ _ e];exact h.off j
 refine⟨⟨?_,?_,?_,s⟩,⟨v.os,v.tape,v.output,by have:=v.size;simp[World.setCell];omega,?_⟩,?_⟩
 ·rw[ah z,Ru]
 ·intro j
  have q:aw i (g9 S f r j) (rows' j):=by
   by_cases e:j=f
   ·subst e;rw[dh];exact E
   ·rw[bU _ _ _ _ e,x j e]
    refine(h.own j).Vg (fun k m=>v.block k ((h.own j).lt m) ?_);intro y
    rcases h.apart j f e with a | a
    ·rw[a]at m;cases m
    ·exact a (m.trans y)
  refine q.Vg (fun k m=>Q4 _ _ _ _ ?_);rintro rfl;exact s j m
 ·intro j l o
  by_cases e:j=f
  ·subst e
   rw[dh,bU _ _ _ _ (fun e=>o e.symm)]
   rcases b with b | b | ⟨w,b,p⟩
   ·exact Q1 b
   ·rw[b];exact h.apart j l o
   ·right;rw[b];intro y;have:=(h.own l).lt y.symm;omega
  ·rw[bU _ _ _ _ e]
   by_cases A:l=f
   ·subst A
    rw[dh]
    rcases b with b | b | ⟨w,b,p⟩
    ·rw[b];cases (S j).blk <;> simp
    ·rw[b];exact h.apart j l o
    ·cases t:(S j).blk with
     | none=>exact Q1 rfl
     | some k=>right;rw[b];intro y;cases y;have:=(h.own j).lt t;omega
   ·rw[bU _ _ _ _ A];exact h.apart j l o
 ·intro k m C
  rw[Q4 _ _ _ _ (fun e=>C (Q1 e))];exact v.block k m (fun e=>C (QV ⟨f,e.symm⟩))
 ·intro k m
  obtain⟨j,e⟩:=m
  by_cases B:j=f
  ·subst B
   rw[dh]at e
   rcases b with b | b | ⟨w,b,p⟩
   ·rw[b]at e;cases e
   ·exact Q1 ⟨j,b ▸ e⟩
   ·rw[b]at e;cases e;exact QV p
  ·rw[bU _ _ _ _ B]at e
   exact Q1 ⟨j,e⟩
theorem a8.set(h:a8 n T d g zt S)(c:Nat)(u:Value) :
  a8 (n.setCell ⟨T,c,none⟩ u) T d (g.set c u) zt S/\aA T n S (n.setCell ⟨T,c,none⟩ u) S:=by
 refine⟨⟨?_,?_,h.apart,h.off⟩,(eK.refl _ _).setCell (Q1 (Q1 rfl)) _,fun _ a=>Q1 a⟩
 ·rw[ah h.blk,Ru]
 ·intro j
  refine(h.own j).Vg (fun k a=>Q4 _ _ _ _ ?_);rintro rfl;exact h.off j a
theorem a8.app{cs':List Value}{rows':Nat->dN}(h:a8 n T d g zt S)(c k b a m:Nat)(r:dN)(p:aw i ⟨some ⟨b,0,none⟩,a⟩ r)(u:r=rows' k)(o:n.grownBy i (S k).blk)(f:(S k).blk=some b∨n.heap.size<=b)(l:∀j,j≠k->rows' j=zt j)(s:Value)(v:g[c]?=some s)(t:g.set c (.slice (some ⟨b,0,none⟩) m a)=cs') :
  i.cell? ⟨T,c,none⟩=some s/\i.frozen? ⟨T,c,none⟩=false /\
  Hid (a8 (i.setCell ⟨T,c,none⟩ (.slice (some ⟨b,0,none⟩) m a)) T d cs' rows' (g9 S k ⟨some ⟨b,0,none⟩,a⟩) /\
   aA T n S (i.setCell ⟨T,c,none⟩ (.slice (some ⟨b,0,none⟩) m a)) (g9 S k ⟨some ⟨b,0,none⟩,a⟩)):=by
 have q:=(o.block T h.lt (fun e=>h.off k e.symm)).trans h.blk;subst u;subst t;refine⟨by rw[aa q];simpa using v,am q _,?_⟩
 exact h.put (rows':=rows') c k ⟨some ⟨b,0,none⟩,a⟩ p o
  (by
    rcases f with e | e
    ·exact QV (Q1 e.symm)
    ·exact QV (QV ⟨b,rfl,by simpa using e⟩)) l _
end Go.Proofs.YtpddjjabfbfifaaGreat
