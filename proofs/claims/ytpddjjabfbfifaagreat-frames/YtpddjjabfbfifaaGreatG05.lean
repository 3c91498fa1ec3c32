import Derived.BigQuiet
import Derived.Test.YtpddjjabfbfifaaGreatG04
namespace Go.Proofs.YtpddjjabfbfifaaGreat
open Go.RowKit Tryz
set_option maxRecDepth 100000
set_option maxHeartbeats 40000000
variable{f i yd:World}{T d y5:Nat}{g:List Value}{S:Nat->Hd}{a:List St}{y6:Nat->Prop}{z6:List Nat}{y9:Nat->Bool}{zb y2:Hd}{z5:List ByteArray}{yg:ByteArray}{y3:List Bool}{zt:Nat->dN}(D o b:Nat)(z7:Fs)(y7:List Value)(w:List St)(k:Nat->Hd)(y:List ByteArray)(N:List Bool)(L:St)(y4 z4 M:Hd)(y0:List ByteArray)(v:List Nat)(y1:List Bool)(y8:Value)(x:Nat)(n:List ByteArray)(l:Nat)(I:ByteArray)(H:World)
structure gj(w:World)(l:List St)(H:Nat->Hd):Prop where
  own:aw w (H 6) (iE l H)
  syms:∀i s,l[i]?=some s->aw w (H (10+2*i)) (aB s.U5)
  prfs:∀i s,l[i]?=some s->aw w (H (11+2*i)) (gN s.proof)
theorem aR.record{a:List Value}{b:Db}(h:aR f T d g a b S):gj f b.sts S:=by
  refine⟨h.own 6,fun i s c=>?_,fun i s c=>?_⟩
  · have:=h.own (10+2*i)
    rw[show 10+2*i=2*i+10 by omega]at this ⊢;have e:aU b S (2*i+10)=aB s.U5:=by simp[aU,inner,symsAt,c]
    rw[e]at this;exact this
  · have:=h.own (11+2*i)
    rw[show 11+2*i=(2*i+1)+10 by omega]at this ⊢;have q:(2*i+1) % 2=1:=by omega
    have j:(2*i+1) / 2=i:=by omega
    have e:aU b S ((2*i+1)+10)=gN s.proof:=by simp[aU,inner,te,q,j,c]
    rw[e]at this;exact this
theorem gj.keptP(h:gj f a S)(k:eK y6 f i)(e:∀x,f9 S x->¬y6 x):gj i a S :=
  ⟨h.own.Vf (fun x b=>k.block x (h.own.lt b) (e x ⟨6,b⟩)),fun d s c=>(h.syms d s c).Vf (fun x b=>k.block x ((h.syms d s c).lt b) (e x ⟨_,b⟩)),fun d s c=>(h.prfs d s c).Vf (fun x b=>k.block x ((h.prfs d s c).lt b) (e x ⟨_,b⟩))⟩
theorem gj.kept(h:gj f a S)(k:ab z6 f i)(c:∀x,f9 S x->x∉z6):gj i a S :=
  h.keptP (k.toP (P:=(·∈z6)) (fun _ b _=>b)) c
theorem gj.Va(h:gj f a S)(k:ab [] f i):gj i a S:=h.kept k (by simp)
def mD:Nat->Hd:=fun _=>⟨none,0⟩
theorem t9:¬f9 mD l:=by rintro ⟨i,h⟩;simp[mD,Hd.blk]at h
def FZ:List Bool:=[false,false,false,false]
theorem aR.begin(h:f.heap[T]?=some (.cells (g++(b9 fm mD++[])).toArray d (0,0))):aR f T d g [] fm mD:=by
  refine⟨h,?_,fun i j _=>Q0 rfl,fun i e=>by simp[mD,Hd.blk]at e⟩;intro i
  match i with
  | 0=>exact QY _ _ _ _
  | 1=>exact QY _ _ _ _
  | 2=>exact QY _ _ _ _
  | 3=>exact QY _ _ _ _
  | 4=>exact QY _ _ _ _
  | 5=>exact QY _ _ _ _
  | 6=>exact QY _ _ _ _
  | 7=>exact QY _ _ _ _
  | 8=>exact QY _ _ _ _
  | 9=>exact QY _ _ _ _
  | n+10 =>
    have e:aU fm mD (n+10)=if n % 2=0 then aB [] else gN []:=by simp[aU,inner,fm,symsAt,te]
    rw[e]
    split
    · exact QY _ _ _ _
    · exact QY _ _ _ _
theorem E2(a:List Value)(d:Db)(H:Nat->Hd)(w:World)(h:aR w D o y7 a d H)(m:y7.length=b) :
    Calls prog 112 #[.pointer (some ⟨D,b,none⟩)] w fun e q=>e=.returned (.agg #[.slice (H 6).ao d.sts.length (H 6).cap,.slice (H 7).ao d.rbl.length (H 7).cap])/\ab [] w q:=by
  obtain⟨s,j,i,r,l,p,u,x,k,t,g,f,c⟩:=h.cells b m;clear s j i r l p k t g f c;have n:=h.lt;go_enter func112,ntmps112;go_wp2;exact QX (v:=.agg #[.slice (H 6).ao d.sts.length (H 6).cap,.slice (H 7).ao d.rbl.length (H 7).cap]) (by simp[results,results112,go_sem]) rfl ⟨rfl,(ab.refl _ _).alloc _⟩
theorem Aj(a:∀j,j<z7.length->(ak z7 j).size<=1024)(b:List Bool):dP z7 b<=4104:=by
  have h:∀j,MW z7 b j<=1026:=by
    intro j;unfold MW
    split
    · omega
    · rcases UQ j z7.length with h | h
      · have:=a j h;omega
      · have:(ak z7 j).size=0:=by unfold ak;rw[QP,Rv h];rfl
        omega
  have e:=h 0;have f:=h 1;have c:=h 2;have d:=h 3;unfold dP;omega
theorem Ab(h:ab z6 f i)(b:T∈z6∨f.heap.size<=T)(a:d∈z6∨f.heap.size<=d)(c j k e g l:Value) :
    ab z6 f ((((((i.setCell ⟨T,0,none⟩ c).setCell ⟨T,1,none⟩ j).setCell ⟨d,0,none⟩ k).setCell ⟨d,1,none⟩ e).setCell ⟨d,2,none⟩ g).setCell ⟨d,3,none⟩ l) :=
  (((((h.setCell b _).setCell b _).setCell a _).setCell a _).setCell a _).setCell a _
def bK(fs:Fs)(root:Nat):FN:=cn fs 5000 root FZ fm
theorem Mb(T:bi H D o z7 y7)(N:b<z7.length)(n:∀j,j<z7.length->(ak z7 j).size<=1024) :
    Calls prog 79 #[.pointer (some ⟨D,0,none⟩),.int .i64 b] H fun e w' =>
      (if((bK z7 b).1.1==0)=true then ∃s,e=.returned (.tuple #[.agg #[.slice (s 6).ao (bK z7 b).2.2.sts.length (s 6).cap,.slice (s 7).ao (bK z7 b).2.2.rbl.length (s 7).cap],gU cY])/\gj w' (bK z7 b).2.2.sts s/\(∀k,f9 s k->H.heap.size<=k)
       else e=.returned (.tuple #[.agg #[.slice none 0 0,.slice none 0 0],gU (bK z7 b).1]))/\ab [] H w':=by
  have ad:=T.lt
  obtain⟨W,p⟩:∃W,W=((H.alloc (.cells #[.slice none 0 0,.slice none 0 0] 76)).alloc (.cells #[.int .i64 0,.string ⟨#[]⟩,.int .i64 0,.int .i64 0] 87)).alloc (.cells #[.pointer (some ⟨D,0,none⟩),.bool false,.bool false,.bool false,.bool false,
    .slice none 0 0,.slice none 0 0,.slice none 0 0,.slice none 0 0,.slice none 0 0,.slice none 0 0,.slice none 0 0,.slice none 0 0,.int .i64 0,.string ⟨#[]⟩,.slice none 0 0,.bool false,.slice none 0 0] 200):=⟨_,rfl⟩
  have l:ab [] H W:=by rw[p];exact(((ab.refl [] _).alloc _).alloc _).alloc _
  have hA:W.heap[H.heap.size]?=some (.cells #[.slice none 0 0,.slice none 0 0] 76 (0,0)):=by
    rw[p];exact(((ab.refl [] _).alloc _).alloc _).get (QR _ _) (by simp)
  have S:W.heap[H.heap.size+1]?=some (.cells bA 87 (0,0)):=by
    rw[p];have e:(H.alloc (.cells #[.slice none 0 0,.slice none 0 0] 76)).heap.size=H.heap.size+1:=by simp
    rw[<-e];exact((ab.refl [] _).alloc _).get (QR _ _) (by simp)
  have X:aR W (H.heap.size+2) 200 (dM D FZ) [] fm mD:=by
    refine aR.begin ?_;rw[p];have e:((H.alloc (.cells #[.slice none 0 0,.slice none 0 0] 76)).alloc (.cells #[.int .i64 0,.string ⟨#[]⟩,.int .i64 0,.int .i64 0] 87)).heap.size=H.heap.size+2:=by simp
    rw[<-e];exact QR _ _
  have hT:bi W D o z7 y7:=T.kept l (by simp);have HW:=hI p.symm;have M:=At (H.heap.size+2) D o z7 y7 n (by omega) 5000 b FZ fm mD W 0 N rfl nD.empty (by have:=Aj z7 n FZ;omega) (by have:=Aj z7 n FZ;omega) X hT (t9 _);unfold jD at M;have u:=hI M;clear p M;have t:Hid ((cn z7 5000 b FZ fm).2.1.length=4):=((Lj z7 5000).2 b FZ fm 0 rfl nD.empty).1;have V:Hid (bK z7 b=cn z7 5000 b FZ fm):=rfl;rw[V.out];clear V;generalize cn z7 5000 b FZ fm=R at *;obtain⟨⟨r,pf,pl,pc⟩,v,E⟩:=R;simp only[gU]at u t ⊢;go_enter func79,ntmps79
  go_upto_region 2 with fail
  rw[HW.out];go_wp2_with fail;refine QT u.out ?_;rintro e F ⟨rfl,f,L,c⟩;have a:=c.1.get hA (by rintro (e | e);omega;exact t9 _ e);have d:=c.1.get S (by rintro (e | e);omega;exact t9 _ e);have ag:=c.1.size;have af:=L.lt
  have P:Hid (∀k,f9 f k->H.heap.size<=k):=fun k i=>by
    rcases c.2 k i with h | h
    · exact absurd h (t9 _)
    · have:=l.size;omega
  have O:Hid (∀k,f9 f k->k≠H.heap.size/\k≠H.heap.size+1/\k≠H.heap.size+2):=fun k i=>by
    have hz:=ae S;have ac:=X.lt
    rcases c.2 k i with h | h
    · exact absurd h (t9 _)
    · omega
  have Q:Hid (ab [] H F):=⟨c.1.os.trans l.os,c.1.tape.trans l.tape,c.1.output.trans l.output,Q1 l.size c.1.size,fun k i _=>(c.1.block k (QW i l.size) (by rintro (e | e);omega;exact t9 _ e)).trans (l.block k i (by simp))⟩;have G:F.cell? ⟨H.heap.size,0,none⟩=some (.slice none 0 0):=by rw[aa a];rfl
  have A:F.cell? ⟨H.heap.size,1,none⟩=some (.slice none 0 0):=by rw[aa a];rfl
  obtain⟨C,J,I,B⟩:=b8 d;have Y:=am a;have Z:=am d;have w:=ae a;have y:=ae d
  cases U:(r==0)
  · have K:(r != 0)=true:=by simp[bne,U]
    go_wp2_with fail
    go_region
    all_goals go_wp2
    all_goals exact QX (v:=.tuple #[.agg #[.slice none 0 0,.slice none 0 0],.agg #[.int .i64 r,.string pf,.int .i64 pl,.int .i64 pc]]) (by simp[results,results79,go_sem,G,A,C,J,I,B,w,y]) rfl ⟨rfl,((Ab Q.out (QU (QQ _)) (QU (TN _)) _ _ _ _ _ _).alloc _).drew⟩
  · have K:(r != 0)=false:=by simp[bne,U]
    go_wp2_with fail;refine(E2 (H.heap.size+2) 200 5 (dM D v) [] E f _ (by exact L.Va ((ab.refl [] _).alloc _)) (jl D v t.out)).mono ?_;rintro e q ⟨rfl,x⟩;have g:ab [] F q:=((ab.refl [] _).alloc _).trans x;have m:=g.get a (by simp);have z:=g.get d (by simp);have K4:Hid (ab [] H q):=Q.out.trans g;have S4:Hid (gj q E.sts f):=L.record.Va g;clear G A C J I B Y Z x;have G:q.cell? ⟨H.heap.size,0,none⟩=some (.slice none 0 0):=by rw[aa m];rfl
    have A:q.cell? ⟨H.heap.size,1,none⟩=some (.slice none 0 0):=by rw[aa m];rfl
    obtain⟨C,J,I,B⟩:=b8 z;have Y:=am m;have Z:=am z;go_wp2
    exact QX (v:=.tuple #[.agg #[.slice (f 6).ao E.sts.length (f 6).cap,.slice (f 7).ao E.rbl.length (f 7).cap],.agg #[.int .i64 0,.string ⟨#[]⟩,.int .i64 0,.int .i64 0]]) (by simp[results,results79,go_sem,G,A,C,J,I,B]) rfl
      ⟨⟨f,rfl,S4.out.kept (Ab (ab.refl [H.heap.size,H.heap.size+1] q) (Q0 (by simp)) (Q0 (by simp)) _ _ _ _ _ _) (fun k i=>by have:=O.out k i;simp;omega),P.out⟩,
        Ab K4.out (QU (QQ _)) (QU (TN _)) _ _ _ _ _ _⟩
structure dF(w:World)(b o:Nat)(l:List St)(H:Nat->Hd):Prop where
 cell:∃arr t,w.heap[b]?=some (.cells arr t (0,0))/\arr[o]?=some (.slice (H 6).ao l.length (H 6).cap)
 sts:gj w l H
theorem dF.at(h:dF f T d a S):f.cell? ⟨T,d,none⟩=some (.slice (S 6).ao a.length (S 6).cap):=by
 obtain⟨c,t,e,b⟩:=h.cell;rw[aa e];exact b
theorem dF.lt(h:dF f T d a S):T<f.heap.size:=by
 obtain⟨b,t,c,e⟩:=h.cell;exact ae c
theorem dF.kept(h:dF f T d a S)(k:ab z6 f i)(j:T∉z6)(e:∀x,f9 S x->x∉z6):dF i T d a S:=by
 obtain⟨b,t,g,c⟩:=h.cell;exact⟨⟨b,t,k.get g j,c⟩,h.sts.kept k e⟩
theorem dF.Va(h:dF f T d a S)(k:ab [] f i):dF i T d a S:=h.kept k (by simp) (by simp)
theorem gj.stmt(h:gj f a S)(n:Nat)(o:n<a.length) :
  ∃g,(S 6).ao=some ⟨g,0,none⟩/\a.length<=(S 6).cap/\(S 6).cap<=9223372036854775807/\f.cell? ⟨g,n*8,none⟩=some (.int .i64 a[n].kind)/\f.cell? ⟨g,n*8+1,none⟩=some (.string a[n].label)/\f.cell? ⟨g,n*8+2,none⟩=some (.slice (S (10+2*n)).ao a[n].U5.length (S (10+2*n)).cap) /\
  f.cell? ⟨g,n*8+3,none⟩=some (.slice (S (11+2*n)).ao a[n].proof.length (S (11+2*n)).cap)/\f.cell? ⟨g,n*8+4,none⟩=some (.string a[n].fin.file)/\f.cell? ⟨g,n*8+5,none⟩=some (.int .i64 a[n].fin.line) /\
  f.cell? ⟨g,n*8+6,none⟩=some (.int .i64 a[n].fin.col)/\f.cell? ⟨g,n*8+7,none⟩=some (.int .i64 a[n].til):=by
 rcases h.own.ways with ⟨_,m,_⟩ | ⟨g,l,d,p,i,b,-⟩
 ·have:a.length=0:=m
  omega
 ·have c:=fun j (e:j<8) v (k:(JM a[n] (S (10+2*n)) (S (11+2*n)))[j]?=some v)=>h.own.cell d (n*8+j) v ((GN a S n o j e).trans k)
  exact⟨g,d,i,by unfold maxLen at b;exact b,c 0 (by omega) _ rfl,c 1 (by omega) _ rfl,c 2 (by omega) _ rfl,c 3 (by omega) _ rfl,c 4 (by omega) _ rfl,c 5 (by omega) _ rfl,c 6 (by omega) _ rfl,c 7 (by omega) _ rfl⟩
theorem eM(h:dF H o b w k) :
  Calls prog 80 #[.pointer (some ⟨o,b,none⟩)] H fun e a=>e=.returned (.int .i64 w.length)/\a=H:=by
 have c:=h.at;go_enter func80,ntmps80;go_wp2;go_ret;exact⟨rfl,rfl⟩
def ee(s:St)(a b:Hd):Value :=
 .agg #[.int .i64 s.kind,.string s.label,.slice a.ao s.U5.length a.cap,.slice b.ao s.proof.length b.cap,.string s.fin.file,.int .i64 s.fin.line,.int .i64 s.fin.col,.int .i64 s.til]
theorem a9(h:dF H D o w k)(d:b<w.length) :
  Calls prog 97 #[.pointer (some ⟨D,o,none⟩),.int .i64 b] H fun e j=>e=.returned (ee w[b] (k (10+2*b)) (k (11+2*b)))/\ab [] H j:=by
 have c:=h.at;have f:=h.lt;obtain⟨g,a,q,u,p,s,x,r,l,m,t,n⟩:=h.sts.stmt b d;have i:=h.sts.own.lt (k:=g) (by unfold Hd.blk;rw[a];rfl);rw[a]at c;unfold ee;clear h;go_enter func97,ntmps97;go_wp2
 exact QX (v:=.agg #[.int .i64 w[b].kind,.string w[b].label,.slice (k (10+2*b)).ao w[b].U5.length (k (10+2*b)).cap,.slice (k (11+2*b)).ao w[b].proof.length (k (11+2*b)).cap,.string w[b].fin.file,.int .i64 w[b].fin.line,.int .i64 w[b].fin.col,.int .i64 w[b].til])
  (by simp[results,results97,go_sem]) rfl ⟨rfl,(ab.refl _ _).alloc _⟩
def g7(l:List St)(n a:Nat):Bool:=match l[n]? with | some s=>decide (n<a)&&(s.til==0||decide (a<s.til)) | none=>false
theorem Nw(h:x<w.length):g7 w x l=(decide (x<l)&&(w[x].til==0||decide (l<w[x].til))):=by
 unfold g7;rw[QO h]
theorem gF(a:List St)(H:Nat->Hd)(w:World)(h:dF w o b a H)(k:x<a.length) :
  Calls prog 187 #[.pointer (some ⟨o,b,none⟩),.int .i64 x,.int .i64 l] w fun e s=>e=.returned (.bool (g7 a x l))/\s=w:=by
 have c:=h.at;obtain⟨g,r,B,C,q,v,z,u,n,p,y,A⟩:=h.sts.stmt x k;clear q v z u n p y;rw[r]at c;have f:=hI (Nw a x l k);generalize a[x].til=t at *;clear h
 by_cases j:x<l
 ·cases m:((t:Int)==0)
  ·have d:(t==0)=false:=by cases t <;> simp at m ⊢
   have i:Hid (g7 a x l=decide (l<t)):=by show _=_;rw[f.out,d];simp[j]
   clear f;go_enter func187,ntmps187;go_wp2;go_ret;exact⟨aD (by rw[i.out]),rfl⟩
  ·have d:(t==0)=true:=by cases t <;> simp at m ⊢ <;> omega
   have i:Hid (g7 a x l=true):=by show _=_;rw[f.out,d];simp[j]
   clear f;go_enter func187,ntmps187;go_wp2;go_ret;exact⟨aD (by rw[i.out]),rfl⟩
 ·have i:Hid (g7 a x l=false):=by show _=_;rw[f.out];simp[j]
  clear f;go_enter func187,ntmps187;go_wp2;go_ret;exact⟨aD (by rw[i.out]),rfl⟩
def oD(l:List St)(lab:ByteArray)(a n:Nat):Bool:=match l[n]? with | some s=>(s.label.toList==lab.toList) && !(s.kind==1)&&g7 l n a | none=>false
def mx(l:List St)(lab:ByteArray)(a:Nat):Option Nat:=(List.range l.length).find? (oD l lab a)
def nz:Option Nat->Int
 | some n=>n
 | none=>-1
theorem LH(a n:Nat)(h:n<w.length):oD w I a n=((w[n].label.toList==I.toList) && !(w[n].kind==1)&&g7 w n a):=by
 unfold oD;rw[QO h]
theorem nU(e:d<T)(c:y9 d=true)(a:∀i,i<d->y9 i=false):(List.range T).find? y9=some d :=
 Si.2 ⟨c,by simpa using e,fun j b=>by simp[a j b]⟩
theorem mH(a:∀i,i<T->y9 i=false):(List.range T).find? y9=none :=
 Sj.2 (fun i b=>by simp[a i (by simpa using b)])
theorem iq(a:List St)(H:Nat->Hd)(w:World)(h:dF w b x a H)(K:a.length<=1073741824) :
  Calls prog 185 #[.pointer (some ⟨b,x,none⟩),.string I,.int .i64 l] w fun e C=>e=.returned (.int .i64 (nz (mx a I l)))/\C=w:=by
 have c:=h.at;go_enter func185,ntmps185;go_wp2
 go_loopg [7] a.length (fun g i wr=>∃k:Nat,k<=a.length/\g=a.length-k/\i=.int .i64 k/\Hid (∀i,i<k->oD a I l i=false)/\wr=w)
 case atStart=>exact⟨0,by omega,by omega,rfl,fun i r=>by omega,rfl⟩
 case round =>
  obtain⟨k,J,N,rfl,f,rfl⟩:=hrel
  by_cases d:k<a.length
  ·obtain⟨g,A,M,P,L,O,G,D,u,y,E,z⟩:=h.sts.stmt k d
   clear G D u y E z;rw[A]at c;have m:=hI (LH a I l k d);have s:Hid (dF wr b x a H):=h;generalize a[k].label=v at *;generalize a[k].kind=p at *
   have next:Hid (oD a I l k=false->∀i,i<k+1->oD a I l i=false):=by
    intro F i r
    by_cases e:i=k
    ·subst e;exact F
    ·exact f.out i (by omega)
   cases t:(v.toList==I.toList)
   ·have j:Hid (oD a I l k=false):=by show _=_;rw[m.out,t];simp
    clear m h;go_wp2
    go_roundg (a.length-(k+1))
    case measure=>omega
    case rel=>exact⟨k+1,by omega,rfl,by go_num,next.out j.out,rfl⟩
   ·cases n:(p==1)
    ·have o:(p != 1)=true:=by simp[bne,n]
     cases q:g7 a k l
     ·have j:Hid (oD a I l k=false):=by show _=_;rw[m.out,q];simp
      clear m h;go_wp2_with (go_at_call 187;refine(gF b x k l a H _ s.out d).mono ?_;rintro e B ⟨rfl,rfl⟩)
      go_roundg (a.length-(k+1))
      case measure=>omega
      case rel=>exact⟨k+1,by omega,rfl,by go_num,next.out j.out,rfl⟩
     ·have j:Hid (mx a I l=some k):=nU d (by rw[m.out,t,n,q];rfl) f.out
      clear m h;go_wp2_with (go_at_call 187;refine(gF b x k l a H _ s.out d).mono ?_;rintro e B ⟨rfl,rfl⟩);go_ret;exact⟨QM (by rw[j.out];rfl),rfl⟩
    ·have o:(p != 1)=false:=by simp[bne,n]
     have j:Hid (oD a I l k=false):=by show _=_;rw[m.out,n];simp
     clear m h;go_wp2
     go_roundg (a.length-(k+1))
     case measure=>omega
     case rel=>exact⟨k+1,by omega,rfl,by go_num,next.out j.out,rfl⟩
  ·have j:Hid (mx a I l=none):=mH (fun i r=>f.out i (by omega))
   clear h;go_wp2;go_ret;exact⟨QM (by rw[j.out];rfl),rfl⟩
def jT(w:World)(h:Hd)(l:List ByteArray):Prop :=
 l=[]∨∃g off cur t,h.ao=some ⟨g,off,none⟩/\w.heap[g]?=some (.cells cur t (0,0))/\(∀j x,l[j]?=some x->cur[off+j]?=some (.string x))/\l.length<=h.cap/\h.cap<=9223372036854775807
theorem aw.view(o:aw f zb (aB z5)):jT f zb z5:=by
 rcases o.ways with ⟨_,h,_⟩ | ⟨g,a,i,m,e,d,n,l⟩
 ·exact Q0 (Rj h)
 ·refine QU ⟨g,0,a,_,i,m,?_,e,by unfold maxLen at d;exact d⟩
  intro j x c;have k:j<z5.length:=(Q7.1 c).1;have b:a.toList.take (z5.length*1)=cN z5:=l;have:(cN z5)[j]?=some (.string x):=by simp[cN,c]
  rw[<-b,Ti]at this;rw[SG];simp at this;exact this.2
theorem jT.kept(v:jT f zb z5)(k:ab z6 f i)(e:∀x,zb.blk=some x->x∉z6):jT i zb z5:=by
 rcases v with v | ⟨g,a,b,t,c,h,d⟩
 ·exact Q0 v
 ·exact QU ⟨g,a,b,t,c,k.get h (e g (by unfold Hd.blk;rw[c];rfl)),d⟩
theorem jT.Va(v:jT f zb z5)(k:ab [] f i):jT i zb z5:=v.kept k (by simp)
theorem qr{b:ByteArray}(h:yg=b):Ending.returned (.string yg)=.returned (.string b):=by rw[h]
theorem Lb(o:jT H M n)(l:n.length<=1073741824) :
  Calls prog 218 #[.slice M.ao n.length M.cap,.string I] H fun e p=>e=.returned (.bool (aJ n I))/\p=H:=by
 obtain⟨v,r⟩:=M
 rcases o with rfl | ⟨g,d,q,t,h,m,f,w,u⟩
 ·clear l
  go_enter func218,ntmps218;go_wp2;refine SV 1 ?_;rw[Tq];go_wp2;go_ret;exact⟨rfl,rfl⟩
 ·simp only at h
  subst h;go_enter func218,ntmps218;go_wp2
  go_loopg [5] n.length (fun g i wr=>∃k:Nat,k<=n.length/\g=n.length-k/\i=.int .i64 k/\Hid (aJ n I=aJ (n.drop k) I)/\wr=H)
  case atStart=>exact⟨0,by omega,by omega,rfl,rfl,rfl⟩
  case round =>
   obtain⟨k,s,x,rfl,b,rfl⟩:=hrel
   by_cases a:k<n.length
   ·have y:wr.cell? ⟨g,d+k,none⟩=some (.string n[k]):=(aa m (d+k)).trans (f k n[k] (QO a))
    cases j:((n[k]).toList==I.toList)
    ·have c:Hid (aJ n I=aJ (n.drop (k+1)) I):=BQ n I k a b.out j
     clear b f;go_wp2
     go_roundg (n.length-(k+1))
     case measure=>omega
     case rel=>exact⟨k+1,by omega,rfl,by go_num,c,rfl⟩
    ·have c:Hid (aJ n I=true):=Gl n I k a b.out j
     clear b f;go_wp2;go_ret;exact⟨aD c.out.symm,rfl⟩
   ·have c:Hid (aJ n I=false):=BS n I k a b.out
    clear b f;go_wp2;go_ret;exact⟨aD c.out.symm,rfl⟩
def iz(s:St):ByteArray:=s.U5.getD 0 ⟨#[]⟩
def aL(s:St):ByteArray:=if(s.kind==2)=true/\2<=s.U5.length then s.U5.getD 1 ⟨#[]⟩ else⟨#[]⟩
theorem qk(h:l<n.length):n.getD l ⟨#[]⟩=n[l]:=by rw[QP,QO h];rfl
theorem AD(n:jT H z4 L.U5)(l:L.U5.length<=1073741824) :
  Calls prog 191 #[ee L z4 M] H fun e o=>e=.returned (.string (iz L))/\ab [] H o:=by
 unfold ee;obtain⟨s,q⟩:=z4
 rcases n with h | ⟨g,c,p,t,i,j,k,u,r⟩
 ·have a:Hid (iz L=⟨#[]⟩):=by show _=_;unfold iz;rw[h];rfl
  rw[h];simp only[Rr];clear l h;go_enter func191,ntmps191;go_wp2;go_ret;exact⟨qr a.out.symm,(ab.refl _ _).alloc _⟩
 ·simp only at i
  subst i
  by_cases d:L.U5.length=0
  ·have f:((L.U5.length:Int)==0)=true:=by simp[d]
   have a:Hid (iz L=⟨#[]⟩):=by show _=_;unfold iz;rw[Rj d];rfl
   clear d;go_enter func191,ntmps191;go_wp2;go_ret;exact⟨qr a.out.symm,(ab.refl _ _).alloc _⟩
  ·have f:((L.U5.length:Int)==0)=false:=Rg.2 (by omega)
   have b:0<L.U5.length:=by omega
   have a:Hid (iz L=L.U5[0]):=qk _ _ b;have v:H.cell? ⟨g,c,none⟩=some (.string L.U5[0]):=(aa j c).trans (k 0 _ (QO b));have m:=ae j;clear k d;go_enter func191,ntmps191;go_wp2;go_ret;exact⟨qr a.out.symm,(ab.refl _ _).alloc _⟩
theorem mo(m:jT H z4 L.U5)(q:L.U5.length<=1073741824) :
  Calls prog 189 #[ee L z4 M] H fun e n=>e=.returned (.string (aL L))/\ab [] H n:=by
 unfold ee
 cases d:(L.kind==2)
 ·have f:(L.kind != 2)=true:=by simp[bne,d]
  have b:Hid (aL L=⟨#[]⟩):=by show _=_;unfold aL;rw[d];simp
  go_enter func189,ntmps189;go_wp2;go_ret;exact⟨qr b.out.symm,(ab.refl _ _).alloc _⟩
 ·have f:(L.kind != 2)=false:=by simp[bne,d]
  by_cases u:L.U5.length<2
  ·have b:Hid (aL L=⟨#[]⟩):=by show _=_;unfold aL;rw[QS (by omega)]
   go_enter func189,ntmps189;go_wp2;go_ret;exact⟨qr b.out.symm,(ab.refl _ _).alloc _⟩
  ·have a:1<L.U5.length:=by omega
   obtain⟨s,p⟩:=z4
   rcases m with k | ⟨g,c,o,t,h,i,j,v,r⟩
   ·rw[k]at a;simp at a
   ·simp only at h
    subst h;have b:Hid (aL L=L.U5[1]):=by show _=_;unfold aL;rw[QV ⟨d,by omega⟩];exact qk _ _ a
    have w:H.cell? ⟨g,c+1,none⟩=some (.string L.U5[1]):=(aa i (c+1)).trans (j 1 _ (QO a));have l:=ae i;clear j;go_enter func189,ntmps189;go_wp2;go_ret;exact⟨qr b.out.symm,(ab.refl _ _).alloc _⟩
def pM(s:St)(syms:List ByteArray):Bool:=if(s.kind==2)=true then aJ syms (aL s) else(s.kind==3)
theorem uZ(l:jT H y4 L.U5)(g:jT H M n)(m:L.U5.length<=1073741824)(f:n.length<=1073741824) :
  Calls prog 188 #[ee L y4 z4,.slice M.ao n.length M.cap] H fun e b=>e=.returned (.bool (pM L n))/\ab [] H b:=by
 have i:=fun(b:World) (d:jT b y4 L.U5)=>mo L y4 z4 b d m
 have a:=hI i;unfold ee at a ⊢;clear i
 cases k:(L.kind==2)
 ·have c:Hid (pM L n=(L.kind==3)):=by show _=_;unfold pM;rw[k];simp
  go_enter func188,ntmps188;go_wp2;go_ret;exact⟨aD (by rw[c.out]),(ab.refl _ _).alloc _⟩
 ·have c:Hid (pM L n=aJ n (aL L)):=by show _=_;unfold pM;rw[k];simp
  go_enter func188,ntmps188;go_wp2_with fail;refine(a.out _ (by exact l.Va ((ab.refl [] _).alloc _))).mono ?_;rintro e p ⟨rfl,h⟩;have j:=((ab.refl [] H).alloc _).trans h;go_wp2_with fail;refine(Lb M n _ _ (by exact g.Va j) f).mono ?_;rintro e o ⟨rfl,rfl⟩;go_wp2;go_ret;exact⟨aD (by rw[c.out]),j⟩
section
structure iH(l:List St):Prop where
 len:l.length<=10000
 pos:∀i (h:i<l.length),0<l[i].U5.length
 syms:∀i (h:i<l.length),l[i].U5.length<=10000
 prfs:∀i (h:i<l.length),l[i].proof.length<=10000
theorem ab.grown{b:Option Nat}(K:ab [] f i)(g:i.grownBy yd b)(c:∀k,b=some k->f.heap.size<=k):ab [] f yd :=
 ⟨g.os.trans K.os,g.tape.trans K.tape,g.output.trans K.output,Q1 K.size g.size,fun k a _=>(g.block k (QW a K.size) (fun e=>by have:=c k e.symm;omega)).trans (K.block k a (by simp))⟩
theorem v9(k l c u:Int)(a f:ByteArray)(e g:Option Addr)(d b i h:Nat) :
  (Instr.field 158 (.agg #[.int .i64 k,.string a,.slice e d b,.slice g i h,.string f,.int .i64 l,.int .i64 c,.int .i64 u]) 2).run prog H=.ok (.slice e d b) H:=by kernel_rfl
attribute [local go_sem] v9
def zO(l:List St)(a n:Nat):Bool:=match l[n]? with | some s=>(s.kind==3)&&g7 l n a | none=>false
theorem OS(h:l<w.length):zO w x l=((w[l].kind==3)&&g7 w l x):=by
 unfold zO;rw[QO h]
def eJ(l:List St)(a k:Nat):List ByteArray:=symsAt l a++((List.range k).filter (zO l a)).flatMap (symsAt l)
def f8(l:List St)(a:Nat):List ByteArray:=eJ l a l.length
theorem oc(h:l<w.length):symsAt w l=w[l].U5:=by
 unfold symsAt;rw[QO h]
theorem uR:eJ w l 0=symsAt w l:=by unfold eJ;rw[List.range_zero];rw[List.filter_nil,List.flatMap_nil,Rk]
theorem xn(h:zO w x l=true):eJ w x (l+1)=eJ w x l++symsAt w l:=by
 unfold eJ;rw[R4,RU];simp[h]
theorem ut(h:zO w x l=false):eJ w x (l+1)=eJ w x l:=by
 unfold eJ;rw[R4,RU];simp[h]
theorem xm(a:iH w)(b:x<w.length)(f:l<=w.length):(eJ w x l).length<=10000+l*10000:=by
 induction l with
 | zero =>
  have:=a.syms x b;have e:=congrArg List.length (uR w x);have d:=congrArg List.length (oc w x b);omega
 | succ l c =>
  have:=c (by omega)
  cases h:zO w x l with
  | true =>
   have e:=congrArg List.length (xn w x l h);have d:=congrArg List.length (oc w l (by omega));have:=a.syms l (by omega);rw[QZ]at e;omega
  | false =>
   have e:=congrArg List.length (ut w x l h);omega
theorem xP(h:dF H D o w k)(M:b<w.length)(N:iH w) :
  Calls prog 186 #[.pointer (some ⟨D,o,none⟩),.int .i64 b] H fun e w'=>∃l:Hd,e=.returned (.slice l.ao (f8 w b).length l.cap)/\aw w' l (aB (f8 w b))/\(∀a,l.blk=some a->H.heap.size<=a)/\ab [] H w':=by
 obtain⟨i0,hi,P,S,Z⟩:=Rd js;have ai:=N.len;have ar:=h.lt;go_enter func186,ntmps186;go_wp2_with fail;refine(a9 D o b w k _ h M).mono ?_;rintro e w1 ⟨rfl,s⟩;have h1:=h.Va s;have O1:=h1.sts.syms b w[b] (QO M);have hp:=N.pos b M;have hm:=N.syms b M
 rcases O1.ways with ⟨_,h0,_⟩ | ⟨g1,ag,e1,-⟩
 ·have:w[b].U5.length=0:=h0
  omega
 ·unfold ee
  rw[e1];have f:Hid (∀j u,(cN w[b].U5)[j]?=some u->w1.cell? ((⟨g1,0,none⟩:Addr).add j)=some u):=fun j u hj=>by rw[bL];exact O1.cell e1 j u hj
  have ES:Hid (eJ w b 0=w[b].U5):=by show _=_;rw[uR];exact oc w b M
  have HO:Hid (aw w1 ⟨none,0⟩ (aB [])):=QY _ _ _ _;clear O1;go_wp2_with (at_builtin;refine aM _ rfl (.tmp 8) (.tmp 12) 61 rfl i0 (.string ⟨#[]⟩) 16 ⟨none,0⟩ (aB []) underlying61 hi P S Z rfl Rb rfl HO.out ⟨g1,0,none⟩ w[b].U5.length (k (10+2*b)).cap (cN w[b].U5) rfl ?c0 f.out (lX _) hp ?c3 ?c4 ?_)
  case c0=>simp[cN,aB]
  case c3=>simp only[aB,Rr];unfold maxLen;omega
  case c4=>simp only[aB,Rr];omega
  intro g U w2 F X m;rw[qt [] w[b].U5,Ut,<-ES.out]at F;have V:ab [] H w2:=s.grown X (by simp[Hd.blk])
  have al:H.heap.size<=g:=by
   rcases m with e | e
   ·simp[Hd.blk]at e
   ·exact Q1 s.size e
  have t:Hid ((aB []).n+w[b].U5.length=(eJ w b 0).length):=by show _=_;rw[ES.out];simp[aB]
  rw[t.out];clear f HO X m h1 s e1 hp hm t ES;go_wp2
  go_loopg [5,6] w.length (fun gk sv i wr=>∃(a:Nat) (l:Hd),a<=w.length/\gk=w.length-a/\i=.int .i64 a/\sv=.slice l.ao (eJ w b a).length l.cap/\aw wr l (aB (eJ w b a))/\(∀x,l.blk=some x->H.heap.size<=x)/\ab [] H wr)
  case atStart=>exact⟨0,⟨some ⟨g,0,none⟩,U⟩,by omega,by omega,rfl,rfl,F,by intro x B;simp[Hd.blk]at B;omega,V⟩
  case round =>
   obtain⟨a,l,hk,hg,rfl,rfl,K,W,T⟩:=hrel;have y:=h.Va T;clear F V
   by_cases c:a<w.length
   ·have ax:=xm w b a N M (by omega)
    have p:=hI (OS w b a c);have ap:=N.syms a c;have ad:=N.pos a c;have I:=y.sts.syms a w[a] (QO c)
    rcases I.ways with ⟨_,h0,_⟩ | ⟨r,af,ek,-⟩
    ·have:w[a].U5.length=0:=h0
     omega
    ·have SY:Hid (symsAt w a=w[a].U5):=oc w a c
     cases Y:(w[a].kind==3)
     ·have z:Hid (eJ w b (a+1)=eJ w b a):=ut w b a (by rw[p.out,Y];rfl)
      clear p I;go_wp2_with (first | (go_at_call 80;refine(eM D o w k _ (by exact y)).mono ?_;rintro e L ⟨rfl,rfl⟩) | (go_at_call 97;refine(a9 D o a w k _ (by exact y) c).mono ?_;rintro e L ⟨rfl,q⟩;unfold ee))
      go_roundg (w.length-(a+1))
      case measure=>omega
      case rel=>exact⟨a+1,l,by omega,rfl,by go_num,by rw[z.out],by rw[z.out];exact K.Vf (fun x B=>(q.trans ((ab.refl [] _).alloc _)).block x (K.lt B) (by simp)),W,(T.trans q).alloc _⟩
     ·go_wp2_with (first | (go_at_call 80;refine(eM D o w k _ (by exact y)).mono ?_;rintro e wc ⟨rfl,rfl⟩) | (go_at_call 97;refine(a9 D o a w k _ (by exact y) c).mono ?_;rintro e L ⟨rfl,q⟩;unfold ee))
      obtain⟨J,v⟩:∃J,J=L.alloc (.cells #[.int .i64 w[a].kind,.string w[a].label,.slice (some ⟨r,0,none⟩) w[a].U5.length (k (10+2*a)).cap,.slice (k (11+2*a)).ao w[a].proof.length (k (11+2*a)).cap,.string w[a].fin.file,.int .i64 w[a].fin.line,.int .i64 w[a].fin.col,.int .i64 w[a].til] 158):=⟨_,rfl⟩
      rw[<-v];have k4:ab [] wc J:=by rw[v];exact q.alloc _
      have B4:J.heap[L.heap.size]?=some (.cells #[.int .i64 w[a].kind,.string w[a].label,.slice (some ⟨r,0,none⟩) w[a].U5.length (k (10+2*a)).cap,.slice (k (11+2*a)).ao w[a].proof.length (k (11+2*a)).cap,.string w[a].fin.file,.int .i64 w[a].fin.line,.int .i64 w[a].fin.col,.int .i64 w[a].til] 158 (0,0)):=by rw[v];exact QR _ _
      have q2:J.cell? ⟨L.heap.size,2,none⟩=some (.slice (some ⟨r,0,none⟩) w[a].U5.length (k (10+2*a)).cap):=by rw[aa B4];rfl
      have E:=y.Va k4;have G:aw J l (aB (eJ w b a)):=K.Vf (fun x B=>k4.block x (K.lt B) (by simp));have R:=E.sts.syms a w[a] (QO c);have C:=T.trans k4;have f:Hid (∀j u,(cN w[a].U5)[j]?=some u->J.cell? ((⟨r,0,none⟩:Addr).add j)=some u):=fun j u hj=>by rw[bL];exact R.cell ek j u hj
      clear v q k4 B4 y K I R T
      cases hh:g7 w a b
      ·have z:Hid (eJ w b (a+1)=eJ w b a):=ut w b a (by rw[p.out,hh];simp)
       clear p;go_wp2_with (go_at_call 187;refine(gF D o a b w k _ (by exact E) c).mono ?_;rintro e w5 ⟨rfl,rfl⟩)
       go_roundg (w.length-(a+1))
       case measure=>omega
       case rel=>exact⟨a+1,l,by omega,rfl,by go_num,by rw[z.out],by rw[z.out];exact G,W,C⟩
      ·have z:Hid (eJ w b (a+1)=eJ w b a++w[a].U5):=by show _=_;rw[xn w b a (by rw[p.out,Y,hh];rfl),SY.out]
       clear p SY;go_wp2_with (first | (go_at_call 187;refine(gF D o a b w k _ (by exact E) c).mono ?_;rintro e w5 ⟨rfl,rfl⟩) | (at_builtin;refine aM _ rfl (.tmp 32) (.tmp 34) 61 rfl i0 (.string ⟨#[]⟩) 16 l (aB (eJ w b a)) underlying61 hi P S Z rfl Rb rfl (by exact G) ⟨r,0,none⟩ w[a].U5.length (k (10+2*a)).cap (cN w[a].U5) rfl ?d0 f.out (lX _) ad ?d3 ?d4 ?_))
       case d0=>simp[cN,aB]
       case d3=>simp only[aB];unfold maxLen;omega
       case d4=>simp only[aB];omega
       intro g5 O w5 Q A d;rw[qt (eJ w b a) w[a].U5,<-z.out]at Q;have ac:=C.grown A W
       have an:H.heap.size<=g5:=by
        rcases d with e | e
        ·exact W g5 e
        ·exact Q1 C.size e
       have t:Hid ((aB (eJ w b a)).n+w[a].U5.length=(eJ w b (a+1)).length):=by show _=_;rw[z.out];simp[aB]
       rw[t.out];clear f A d q2 G;go_wp2
       go_roundg (w.length-(a+1))
       case measure=>omega
       case rel=>exact⟨a+1,⟨some ⟨g5,0,none⟩,O⟩,by omega,rfl,by go_num,rfl,Q,by intro x B;simp[Hd.blk]at B;omega,ac⟩
   ·have e:a=w.length:=by omega
    subst e;go_wp2_with (go_at_call 80;refine(eM D o w k _ (by exact y)).mono ?_;rintro e L ⟨rfl,rfl⟩);go_ret;exact⟨l,rfl,K,W,T⟩
end
def l5(l:List St)(syms:List ByteArray)(a n:Nat):Bool:=match l[n]? with | some s=>g7 l n a&&pM s syms | none=>false
theorem IM(h:l<w.length):l5 w y0 x l=(g7 w l x&&pM w[l] y0):=by
 unfold l5;rw[QO h]
def dG(l:List St)(a k:Nat):List Nat:=(List.range k).filter (l5 l (f8 l a) a)
def aK(l:List St)(a:Nat):List Nat:=dG l a l.length
theorem wm(h:l5 w (f8 w x) x l=true):dG w x (l+1)=dG w x l++[l]:=by
 unfold dG;rw[R4,RU];simp[h]
theorem tW(h:l5 w (f8 w x) x l=false):dG w x (l+1)=dG w x l:=by
 unfold dG;rw[R4,RU];simp[h]
theorem ox:(dG w x l).length<=l:=by
 unfold dG;have:=Sb (l5 w (f8 w x) x) (List.range l);simpa using this
theorem Fn(a:iH w)(c:l<w.length):(f8 w l).length<=1073741824:=by
 have e:=xm w l w.length a c (QQ _);have b:=a.len;have d:w.length*10000<=10000*10000:=Uq _ b;unfold f8;omega
theorem mz(h:dF H D o w k)(ha:b<w.length)(N:iH w) :
  Calls prog 142 #[.pointer (some ⟨D,o,none⟩),.int .i64 b] H fun e B=>∃g:Hd,e=.returned (.slice g.ao (aK w b).length g.cap)/\aw B g (bB (aK w b))/\(∀a,g.blk=some a->H.heap.size<=a)/\ab [] H B:=by
 obtain⟨i0,hi,P,U,Y⟩:=Rd yF;have ac:=N.len;have af:=h.lt;have J:=Fn w b N ha;go_enter func142,ntmps142;go_wp2_with fail;refine(xP D o b w k _ h ha N).mono ?_;rintro e W ⟨O,rfl,X,ai,v⟩;go_wp2
 go_loopg [5,7] w.length (fun gk sv i wr=>∃(a:Nat) (g:Hd),a<=w.length/\gk=w.length-a/\i=.int .i64 a/\sv=.slice g.ao (dG w b a).length g.cap/\aw wr g (bB (dG w b a))/\(∀x,g.blk=some x->W.heap.size<=x)/\ab [] W wr)
 case atStart=>exact⟨0,⟨none,0⟩,by omega,by omega,rfl,rfl,QY _ _ _ _,by intro x q;simp[Hd.blk]at q,ab.refl _ _⟩
 case round =>
  obtain⟨a,g,hk,hg,rfl,rfl,C,G,A⟩:=hrel;have m:=(h.Va v).Va A;have t:jT wr O (f8 w b):=(X.view).Va A;have ag:=ox w b a
  by_cases d:a<w.length
  ·have z:=hI (IM w (f8 w b) b a d)
   have al:=N.syms a d;have y:=(m.sts.syms a w[a] (QO d)).view
   cases Z:g7 w a b
   ·have s:Hid (dG w b (a+1)=dG w b a):=tW w b a (by rw[z.out,Z];rfl)
    clear z y t;go_wp2_with (first | (go_at_call 80;refine(eM D o w k _ (by exact m)).mono ?_;rintro e wc ⟨rfl,rfl⟩) | (go_at_call 187;refine(gF D o a b w k _ (by exact m) d).mono ?_;rintro e wd ⟨rfl,rfl⟩))
    go_roundg (w.length-(a+1))
    case measure=>omega
    case rel=>exact⟨a+1,g,by omega,rfl,by go_num,by rw[s.out],by rw[s.out];exact C,G,A⟩
   ·have ME:=fun(B:World) (v1:jT B (k (10+2*a)) w[a].U5) (v2:jT B O (f8 w b))=>uZ w[a] (k (10+2*a)) (k (11+2*a)) O (f8 w b) B v1 v2 (by omega) J
    have p:=hI ME;clear ME
    cases L:pM w[a] (f8 w b)
    ·have s:Hid (dG w b (a+1)=dG w b a):=tW w b a (by rw[z.out,L];simp)
     rw[L]at p;clear z;go_wp2_with (first | (go_at_call 80;refine(eM D o w k _ (by exact m)).mono ?_;rintro e wc ⟨rfl,rfl⟩) | (go_at_call 187;refine(gF D o a b w k _ (by exact m) d).mono ?_;rintro e wd ⟨rfl,rfl⟩) | (go_at_call 97;refine(a9 D o a w k _ (by exact m) d).mono ?_;rintro e w3 ⟨rfl,c⟩) | (go_at_call 188;refine(p.out _ (by exact y.Va c) (by exact t.Va c)).mono ?_;rintro e w4 ⟨rfl,l⟩))
     go_roundg (w.length-(a+1))
     case measure=>omega
     case rel=>exact⟨a+1,g,by omega,rfl,by go_num,by rw[s.out],by rw[s.out];exact C.Vf (fun x q=>(c.trans l).block x (C.lt q) (by simp)),G,(A.trans c).trans l⟩
    ·have s:Hid (dG w b (a+1)=dG w b a++[a]):=wm w b a (by rw[z.out,Z,L];rfl)
     rw[L]at p;clear z;go_wp2_with (first | (go_at_call 80;refine(eM D o w k _ (by exact m)).mono ?_;rintro e wc ⟨rfl,rfl⟩) | (go_at_call 187;refine(gF D o a b w k _ (by exact m) d).mono ?_;rintro e wd ⟨rfl,rfl⟩) | (go_at_call 97;refine(a9 D o a w k _ (by exact m) d).mono ?_;rintro e w3 ⟨rfl,c⟩) | (go_at_call 188;refine(p.out _ (by exact y.Va c) (by exact t.Va c)).mono ?_;rintro e w4 ⟨rfl,l⟩;have I:=C.Vf (fun x q=>((c.trans l).alloc (.cells #[.int .i64 a] 3)).block x (C.lt q) (by simp))) | (at_builtin;refine aM _ rfl (.tmp 28) (.tmp 30) 26 rfl i0 (.int .i64 0) 8 g (bB (dG w b a)) underlying26 hi P U Y rfl Rb rfl (by exact I) ⟨_,0,none⟩ 1 1 [.int .i64 a] rfl rfl ?d1 ?d2 Rb ?d3 ?d4 ?_))
     case d1=>intro j u M;match j,M with | 0,M=>simp at M;subst M;simp[Addr.add]
     case d2=>intro u hu;simp at hu;subst hu;rfl
     case d3=>simp only[bB];unfold maxLen;omega
     case d4=>simp only[bB];omega
     intro S E w5 F r f;rw[mu (dG w b a) a,<-s.out]at F;have K:=((A.trans c).trans l).alloc (.cells #[.int .i64 a] 3);have V:=K.grown r G
     have ad:W.heap.size<=S:=by
      rcases f with e | e
      ·exact G S e
      ·have:=K.size;simp at e this;omega
     have R:Hid ((bB (dG w b a)).n+1=(dG w b (a+1)).length):=by show _=_;rw[s.out];simp[bB]
     rw[R.out];clear r f I;go_wp2
     go_roundg (w.length-(a+1))
     case measure=>omega
     case rel=>exact⟨a+1,⟨some ⟨S,0,none⟩,E⟩,by omega,rfl,by go_num,rfl,F,by intro x q;simp[Hd.blk]at q;omega,V⟩
  ·have e:a=w.length:=by omega
   subst e;have T:=v.trans A;have Q:=v.size;go_wp2_with (go_at_call 80;refine(eM D o w k _ (by exact m)).mono ?_;rintro e w3 ⟨rfl,rfl⟩);go_ret;exact⟨g,rfl,C,fun x q=>Q1 Q (G x q),T⟩
theorem Oy:(prog.info? 26).map (fun i=>(i.zero,i.size,i.bytes))=some (some (.slice none 0 0),1,24):=by kernel_rfl
theorem Ai(h:l<x):(madeCells #[y8] x)[l]?=some y8:=by
 simp[madeCells,h,Nat.mod_one]
def sK(l:List St)(n:Nat):Bool:=match l[n]? with | some s=>qO s.kind | none=>false
theorem zZ(h:l<w.length):sK w l=qO w[l].kind:=by
 unfold sK;rw[QO h]
def lN(l:List St)(k n:Nat):List Nat:=if n<k/\sK l n=true then aK l n else []
structure gW(w:World)(g:Nat)(l:List St)(k:Nat)(K:Nat->Hd):Prop where
 arr:∃arr,w.heap[g]?=some (.cells arr 26 (0,0))/\arr.size=l.length/\∀n,n<l.length->arr[n]?=some (.slice (K n).ao (lN l k n).length (K n).cap)
 own:∀n,n<l.length->aw w (K n) (bB (lN l k n))
 off:∀n,(K n).blk≠some g
theorem gW.kept(h:gW f T a d S)(q:ab z6 f i)(m:T∉z6)(k:∀n x,(S n).blk=some x->x∉z6):gW i T a d S:=by
 obtain⟨b,l,g,j⟩:=h.arr;exact⟨⟨b,q.get l m,g,j⟩,fun n e=>(h.own n e).Vf (fun x c=>q.block x ((h.own n e).lt c) (k n x c)),h.off⟩
theorem gW.Va(h:gW f T a d S)(q:ab [] f i):gW i T a d S:=h.kept q (by simp) (by simp)
theorem gW.cell(h:gW f T a d S)(n:Nat)(c:n<a.length):f.cell? ⟨T,n,none⟩=some (.slice (S n).ao (lN a d n).length (S n).cap):=by
 obtain⟨b,g,i,e⟩:=h.arr;rw[aa g];exact e n c
theorem gW.free(h:gW f T a d S)(n:Nat):f.frozen? ⟨T,n,none⟩=false:=by
 obtain⟨b,c,e,g⟩:=h.arr;exact am c n
theorem gW.lt{k:Nat}(h:gW f T a k S):T<f.heap.size:=by
 obtain⟨b,c,e,d⟩:=h.arr;exact ae c
theorem gW.skip(h:gW f T a d S)(g:sK a d=false):gW f T a (d+1) S:=by
 have e:∀n,lN a (d+1) n=lN a d n:=by
  intro n;unfold lN
  by_cases j:n=d
  ·subst j;rw[QS (by rw[g];simp),QS (by rw[g];simp)]
  ·have:(n<d+1/\sK a n=true) ↔ (n<d/\sK a n=true):=and_congr_left (fun _=>by omega)
   simp only[this]
 obtain⟨b,l,i,k⟩:=h.arr;exact⟨⟨b,l,i,fun n c=>by rw[e];exact k n c⟩,fun n c=>by rw[e];exact h.own n c,h.off⟩
theorem gW.store{k:Nat}(h:gW f T a k S)(q:sK a k=true)(s:k<a.length)(c:Hd)(o:aw f c (bB (aK a k)))(l:c.blk≠some T) :
  gW (f.setCell ⟨T,k,none⟩ (.slice c.ao (aK a k).length c.cap)) T a (k+1) (g9 S k c):=by
 have e:∀n,n≠k->lN a (k+1) n=lN a k n:=by
  intro n b;unfold lN;have:(n<k+1/\sK a n=true) ↔ (n<k/\sK a n=true):=and_congr_left (fun _=>by omega);simp only[this]
 have j:lN a (k+1) k=aK a k:=by unfold lN;rw[QV ⟨by omega,q⟩]
 obtain⟨p,r,i,m⟩:=h.arr;refine⟨⟨_,ah r _ _,by simpa using i,?_⟩,?_,?_⟩
 ·intro n d
  by_cases b:n=k
  ·subst b
   rw[dh,j];simp[i,d]
  ·rw[bU _ _ _ _ b,e n b]
   rw[Uj (by omega)];exact m n d
 ·intro n d
  by_cases b:n=k
  ·subst b
   rw[dh,j];exact o.Vf (fun x g=>Q3 _ _ _ _ (by rintro rfl;exact l g))
  ·rw[bU _ _ _ _ b,e n b]
   exact(h.own n d).Vf (fun x g=>Q3 _ _ _ _ (by rintro rfl;exact h.off n g))
 ·intro n
  by_cases b:n=k
  ·subst b;rw[dh];exact l
  ·rw[bU _ _ _ _ b];exact h.off n
theorem rX(h:dF H o b w k)(S:iH w) :
  Calls prog 113 #[.pointer (some ⟨o,b,none⟩)] H fun e R=>∃(g:Nat) (K:Nat->Hd),e=.returned (.slice (some ⟨g,0,none⟩) w.length w.length)/\gW R g w w.length K/\H.heap.size<=g/\(∀n x,(K n).blk=some x->H.heap.size<=x)/\ab [] H R:=by
 obtain⟨T,U,z,C,G⟩:=Rd Oy;have O:=S.len;have W:=h.lt;have M:=fun H=>dB (P:=prog) H 181 26 T _ underlying181 U z w.length 1 C (by rw[G];omega) (by omega)
 obtain⟨v,f⟩:∃v,v=madeCells (Value.slice none 0 0).cells (w.length*1):=⟨_,rfl⟩
 rw[<-f]at M
 have Q:Hid (gW (H.alloc (.cells v 26)) H.heap.size w 0 mD):=by
  refine⟨⟨v,QR _ _,by rw[f,Ss];omega,?_⟩,?_,fun n e=>by simp[mD,Hd.blk]at e⟩
  ·intro n V
   have e:lN w 0 n=[]:=by unfold lN;rw[QS (by omega)]
   rw[e,f];exact Ai _ _ _ (by omega)
  ·intro n V
   have e:lN w 0 n=[]:=by unfold lN;rw[QS (by omega)]
   rw[e];exact QY _ _ _ _
 clear f;go_enter func113,ntmps113;go_wp2_with (go_at_call 80;refine(eM o b w k _ (by exact h)).mono ?_;rintro e wc ⟨rfl,J⟩;rw[J])
 go_loopg [4] w.length (fun gk i wr=>∃(a:Nat) (K:Nat->Hd),a<=w.length/\gk=w.length-a/\i=.int .i64 a/\gW wr H.heap.size w a K/\(∀n x,(K n).blk=some x->H.heap.size<=x)/\ab [] H wr)
 case atStart=>exact⟨0,mD,by omega,by omega,rfl,Q.out,fun n x q=>by simp[mD,Hd.blk]at q,(ab.refl _ _).alloc _⟩
 case round =>
  obtain⟨a,K,hk,hg,rfl,u,B,t⟩:=hrel;have A:=h.Va t;clear Q M
  by_cases d:a<w.length
  ·have I:=hI (zZ w a d)
   cases N:qO w[a].kind
   ·have F:Hid (gW wr H.heap.size w (a+1) K):=u.skip (by rw[I.out,N])
    clear I;go_wp2_with (first | (go_at_call 97;refine(a9 o b a w k _ (by exact A) d).mono ?_;rintro e X ⟨rfl,j⟩;unfold ee) | (go_at_call 160;refine(dc w[a].kind _ _ _ _ _ _ _ _).mono ?_;rintro e Y ⟨rfl,l⟩))
    go_roundg (w.length-(a+1))
    case measure=>omega
    case rel=>exact⟨a+1,K,by omega,rfl,by go_num,(F.out.Va j).Va l,B,(t.trans j).trans l⟩
   ·go_wp2_with (first | (go_at_call 97;refine(a9 o b a w k _ (by exact A) d).mono ?_;rintro e X ⟨rfl,j⟩;unfold ee) | (go_at_call 160;refine(dc w[a].kind _ _ _ _ _ _ _ _).mono ?_;rintro e Y ⟨rfl,l⟩))
    have c:=j.trans l;refine(mz o b a w k _ (A.Va c) d S).mono ?_;rintro e w5 ⟨y,rfl,r,m,s⟩;have p:=(u.Va c).Va s;have Z:=(u.Va c).lt;have E:y.blk≠some H.heap.size:=fun e=>by have:=m _ e;omega
    have F:=hI (p.store (by rw[I.out,N]) d y r E);have D:=(t.trans c).trans s;have ac:=(t.trans c).size
    have L:Hid (∀n x,(g9 K a y n).blk=some x->H.heap.size<=x):=by
     intro n x q
     by_cases e:n=a
     ·subst e;rw[dh]at q;have:=m x q;omega
     ·rw[bU _ _ _ _ e]at q;exact B n x q
    have c1:=p.cell a d;have hf:=p.free;clear m r;go_wp2
    go_roundg (w.length-(a+1))
    case measure=>omega
    case rel=>exact⟨a+1,g9 K a y,by omega,rfl,by go_num,F.out,L.out,D.setCell (QU (QQ _)) _⟩
  ·have e:a=w.length:=by omega
   subst e;go_wp2;go_ret;exact⟨H.heap.size,K,rfl,u,QQ _,B,t⟩
def pt(vs:List ByteArray)(x:ByteArray):Option Nat:=(List.range vs.length).find? (fun i=>(vs.getD i ⟨#[]⟩).toList==x.toList)
def sg(l:List Bool):List Value:=l.map Value.bool
def pT(l:List Bool):dN:=⟨4,1,l.length,sg l⟩
structure kP(w:World)(tb:Nat)(vs:List ByteArray)(ms:List Bool)(hv hm:Hd):Prop where
 blk:w.heap[tb]?=some (.cells #[.slice hv.ao vs.length hv.cap,.slice hm.ao ms.length hm.cap] 327 (0,0))
 vars:aw w hv (aB vs)
 marks:aw w hm (pT ms)
 o1:hv.blk≠some tb
 o2:hm.blk≠some tb
 o3:hv.blk=none∨hv.blk≠hm.blk
theorem kP.cells(h:kP f T z5 y3 zb y2):f.cell? ⟨T,0,none⟩=some (.slice zb.ao z5.length zb.cap)/\f.cell? ⟨T,1,none⟩=some (.slice y2.ao y3.length y2.cap):=by
 refine⟨?_,?_⟩ <;> (rw[aa h.blk];rfl)
theorem kP.lt(h:kP f T z5 y3 zb y2):T<f.heap.size:=ae h.blk
theorem kP.kept(h:kP f T z5 y3 zb y2)(k:ab z6 f i)(c:T∉z6)(b:∀x,zb.blk=some x∨y2.blk=some x->x∉z6):kP i T z5 y3 zb y2 :=
 ⟨k.get h.blk c,h.vars.Vf (fun x a=>k.block x (h.vars.lt a) (b x (Q0 a))),h.marks.Vf (fun x a=>k.block x (h.marks.lt a) (b x (QU a))),h.o1,h.o2,h.o3⟩
theorem kP.Va(h:kP f T z5 y3 zb y2)(k:ab [] f i):kP i T z5 y3 zb y2:=h.kept k (by simp) (by simp)
theorem sY(h:kP H b y N z4 M)(w:y.length<=1073741824) :
  Calls prog 260 #[.pointer (some ⟨b,0,none⟩),.string I] H fun e s=>e=.returned (.int .i64 (nz (pt y I)))/\s=H:=by
 obtain⟨p,z⟩:=h.cells;go_enter func260,ntmps260;go_wp2
 go_loopg [5] y.length (fun g i wr=>∃k:Nat,k<=y.length/\g=y.length-k/\i=.int .i64 k/\Hid (∀i,i<k->((y.getD i ⟨#[]⟩).toList==I.toList)=false)/\wr=H)
 case atStart=>exact⟨0,by omega,by omega,rfl,fun i j=>by omega,rfl⟩
 case round =>
  obtain⟨k,v,x,rfl,a,rfl⟩:=hrel
  by_cases c:k<y.length
  ·rcases h.vars.ways with ⟨_,r,_⟩ | ⟨g,u,l,-,t,-⟩
   ·have:y.length=0:=r
    omega
   ·have A:=h.vars.cell l k (.string y[k]) (tB y k c)
    rw[l]at p;have d:=hI (qk y k c);have o:y.length<=z4.cap:=t;generalize y[k]=n at *
    cases m:(n.toList==I.toList)
    ·have q:Hid (∀i,i<k+1->((y.getD i ⟨#[]⟩).toList==I.toList)=false):=by
      intro i j
      by_cases e:i=k
      ·subst e;rw[d.out];exact m
      ·exact a.out i (by omega)
     clear d h;go_wp2
     go_roundg (y.length-(k+1))
     case measure=>omega
     case rel=>exact⟨k+1,by omega,rfl,by go_num,q,rfl⟩
    ·have f:Hid (pt y I=some k):=nU c (by rw[d.out];exact m) a.out
     clear d h;go_wp2;go_ret;exact⟨QM (by rw[f.out];rfl),rfl⟩
  ·have f:Hid (pt y I=none):=mH (fun i j=>a.out i (by omega))
   clear h;go_wp2;go_ret;exact⟨QM (by rw[f.out];rfl),rfl⟩
def bD(vs ws:List ByteArray):List Nat:=ws.filterMap (pt vs)
theorem wM(h:x<y0.length)(a:pt y y0[x]=some l):bD y (y0.take (x+1))=bD y (y0.take x)++[l]:=by
 unfold bD;rw[jo y0 x h,SS];simp[a]
theorem wL(h:l<n.length)(a:pt y0 n[l]=none):bD y0 (n.take (l+1))=bD y0 (n.take l):=by
 unfold bD;rw[jo n l h,SS];simp[a]
theorem qS:(bD y0 n).length<=n.length:=Tn _ _
theorem xL(h:kP H b y N y4 z4)(hl:y.length<=1073741824)(J:jT H M n)(Q:n.length<=1000000) :
  Calls prog 238 #[.pointer (some ⟨b,0,none⟩),.slice M.ao n.length M.cap] H fun e W=>∃c:Hd,e=.returned (.slice c.ao (bD y n).length c.cap)/\aw W c (bB (bD y n))/\(∀x,c.blk=some x->H.heap.size<=x)/\ab [] H W:=by
 obtain⟨i0,hi,F,K,P⟩:=Rd yF;obtain⟨ao,ag⟩:=M
 rcases J with rfl | ⟨g,C,ai,t,S,e2,Y,e4,e5⟩
 ·clear Q
  go_enter func238,ntmps238;go_wp2;refine SV 1 ?_;rw[Tq];go_wp2;go_ret;exact⟨⟨none,0⟩,rfl,QY _ _ _ _,by intro x o;simp[Hd.blk]at o,ab.refl _ _⟩
 simp only at S;subst S;go_enter func238,ntmps238;go_wp2
 go_loopg [5,6] n.length (fun gk Z i wr=>∃(k:Nat) (c:Hd),k<=n.length/\gk=n.length-k/\i=.int .i64 k/\Z=.slice c.ao (bD y (n.take k)).length c.cap/\aw wr c (bB (bD y (n.take k)))/\(∀x,c.blk=some x->H.heap.size<=x)/\ab [] H wr)
 case atStart=>exact⟨0,⟨none,0⟩,by omega,by omega,rfl,rfl,QY _ _ _ _,by intro x o;simp[Hd.blk]at o,ab.refl _ _⟩
 case round =>
  obtain⟨k,c,hk,hg,rfl,rfl,B,D,z⟩:=hrel;have hr:=h.Va z;have ac:=qS y (n.take k);have R:(n.take k).length<=k:=by simp;omega
  by_cases l:k<n.length
  ·have c2:wr.cell? ⟨g,C+k,none⟩=some (.string n[k]):=(aa (z.get e2 (by simp)) (C+k)).trans (Y k n[k] (QO l))
   ·skip
    have V:=fun p=>wM y n k p l
    have X:=wL y n k l;have m:=hI V;have q:=hI X;have U:=sY b y N y4 z4 n[k] wr hr hl;have d:=hI U;clear V X U Y;generalize n[k]=af at *
    rcases hp:pt y af with _ | p
    ·have v:=hI (q.out hp)
     rw[hp]at d;simp only[nz]at d;clear m q;go_wp2_with (go_at_call 260;refine QT d.out ?_;rintro e w3 ⟨rfl,rfl⟩)
     go_roundg (n.length-(k+1))
     case measure=>omega
     case rel=>exact⟨k+1,c,by omega,rfl,by go_num,by rw[v.out],by rw[v.out];exact B,D,z⟩
    ·have v:=hI (m.out p hp)
     rw[hp]at d;simp only[nz]at d;have w:=B.Vf (fun x o=>((ab.refl [] wr).alloc (.cells #[.int .i64 p] 3)).block x (B.lt o) (by simp));clear m q;go_wp2_with (first | (go_at_call 260;refine QT d.out ?_;rintro e w3 ⟨rfl,O⟩;rw[O]) | (at_builtin;refine aM _ rfl (.tmp 22) (.tmp 24) 26 rfl i0 (.int .i64 0) 8 c (bB (bD y (n.take k))) underlying26 hi F K P rfl Rb rfl (by exact w) ⟨_,0,none⟩ 1 1 [.int .i64 p] rfl rfl ?d1 ?d2 Rb ?d3 ?d4 ?_))
     case d1=>intro j u E;match j,E with | 0,E=>simp at E;subst E;simp[Addr.add]
     case d2=>intro u T;simp at T;subst T;rfl
     case d3=>simp only[bB];unfold maxLen;omega
     case d4=>simp only[bB];omega
     intro I r w5 s f a;rw[mu (bD y (n.take k)) p,<-v.out]at s;have A:=z.alloc (.cells #[.int .i64 p] 3);have L:=A.grown f D
     have ad:H.heap.size<=I:=by
      rcases a with e | e
      ·exact D I e
      ·have:=A.size;simp at e this;omega
     have G:Hid ((bB (bD y (n.take k))).n+1=(bD y (n.take (k+1))).length):=by show _=_;rw[v.out];simp[bB]
     rw[G.out];clear f a w;go_wp2
     go_roundg (n.length-(k+1))
     case measure=>omega
     case rel=>exact⟨k+1,⟨some ⟨I,0,none⟩,r⟩,by omega,rfl,by go_num,rfl,s,by intro x o;simp[Hd.blk]at o;omega,L⟩
  ·have e:k=n.length:=by omega
   subst e;rw[RI]at B ⊢;go_wp2;go_ret;exact⟨c,rfl,B,D,z⟩
def kH(side mi:Nat)(mem:List Nat)(ms:List Bool):List Bool:=mem.foldl (fun ms mj=>ms.set (mi*side+mj) true) ms
def lR(side:Nat)(mem:List Nat)(ms:List Bool):List Bool:=mem.foldl (fun ms mi=>kH side mi mem ms) ms
def jB(side:Nat)(mem:List Nat)(ms:List Bool)(i j:Nat):List Bool:=kH side (mem.getD i 0) (mem.take j) ((mem.take i).foldl (fun ms mi=>kH side mi mem ms) ms)
theorem pN:(kH o b v y1).length=y1.length:=by
 unfold kH
 induction v generalizing y1 with
 | nil=>rfl
 | cons a r c=>rw[Tz,c];simp
theorem sS(r:List Nat)(c:List Bool):(r.foldl (fun c e=>kH b e v c) c).length=c.length:=by
 induction r generalizing c with
 | nil=>rfl
 | cons a r d=>rw[Tz,d,pN]
theorem jV:(jB b v y1 x l).length=y1.length:=by
 unfold jB;rw[pN,sS]
theorem Cq(a:l<v.length):jB b v y1 x (l+1)=(jB b v y1 x l).set (v.getD x 0*b+v[l]) true:=by
 unfold jB kH;rw[jo v l a,Sv];rfl
theorem Ez(a:l<v.length):jB b v y1 l v.length=jB b v y1 (l+1) 0:=by
 have e:v.getD l 0=v[l]:=by rw[QP,QO a];rfl
 unfold jB;rw[RI,jo v l a,Sv,e];rfl
theorem Ey:jB b v y1 v.length 0=lR b v y1:=by
 unfold jB lR;rw[RI];rfl
theorem yj:(sg y1).length=y1.length*1:=by simp[sg]
theorem kP.mark(h:kP f T z5 y3 zb y2)(d:Nat)(e:y2.ao=some ⟨d,0,none⟩)(i:Nat)(s:i<y3.length) :
  kP (f.setCell ⟨d,i,none⟩ (.bool true)) T z5 (y3.set i true) zb y2:=by
 have l:y2.blk=some d:=by unfold Hd.blk;rw[e];rfl
 refine⟨?_,?_,?_,h.o1,h.o2,h.o3⟩
 ·rw[Q3 _ _ _ _ (by rintro rfl;exact h.o2 l),h.blk];simp
 ·refine h.vars.Vf (fun x j=>Q3 _ _ _ _ ?_)
  rintro rfl
  rcases h.o3 with a | a
  ·rw[a]at j;cases j
  ·exact a (j.trans l.symm)
 ·rcases h.marks.ways with ⟨_,q,_⟩ | ⟨g,c,b,o,r,p,m,n⟩
  ·have:y3.length=0:=q
   omega
  ·have:g=d:=by rw[e]at b;injection b with b;injection b with b;exact b.symm
   subst this;refine⟨by simp only[pT];rw[yj],QU ⟨g,y2.cap,c.setIfInBounds i (.bool true),?_,Rn _,ah o _ _,?_,p,?_,?_⟩⟩
   ·simp[pT,e]
   ·simpa [pT] using r
   ·simpa [pT] using m
   ·have k:c.toList.take (y3.length*1)=sg y3:=n
    simp only[pT,Ru,TM,UL,k];simp[sg,Tm]
theorem jP(h:l<v.length):(jX v)[l]?=some (.int .i64 v[l]):=by simp[jX,h]
theorem Cn(h:kP H b y N y4 z4)(I:N.length=y.length*y.length)(R:y.length<=10000)(E:aw H M (bB v))(F:v.length<=1000000)(l:∀i (hi:i<v.length),v[i]<y.length)(n:∀x,M.blk=some x->z4.blk≠some x) :
  Calls prog 237 #[.pointer (some ⟨b,0,none⟩),.slice M.ao v.length M.cap] H fun e W=>e=.returned (.tuple #[])/\kP W b y (lR y.length v N) y4 z4/\eK (fun k=>z4.blk=some k) H W:=by
 obtain⟨ao,p⟩:=M
 rcases E.ways with ⟨e0,C,_⟩ | ⟨g,ar,U,e2,Z,L,-⟩
 ·have t:v.length=0:=C
  have G:v=[]:=Rj t;subst G;clear E C t e0 F l n;go_enter func237,ntmps237;go_wp2;refine SV 1 ?_;rw[Tq];go_wp2;go_end0;exact⟨rfl,h,eK.refl _ _⟩
 simp only at U Z L;have af:v.length<=p:=Z;have an:p<=9223372036854775807:=by unfold maxLen at L;exact L
 subst U;have ai:z4.blk≠some g:=n g rfl;go_enter func237,ntmps237;go_wp2
 go_loopg [4] v.length (fun gk i wr=>∃k:Nat,k<=v.length/\gk=v.length-k/\i=.int .i64 k/\kP wr b y (jB y.length v N k 0) y4 z4/\eK (fun k=>z4.blk=some k) H wr)
 case atStart=>exact⟨0,by omega,by omega,rfl,h,eK.refl _ _⟩
 case round =>
  obtain⟨k,hk,hg,rfl,A,Q⟩:=hrel
  by_cases d:k<v.length
  ·have HR:=hI (Ez y.length v N k d)
   go_wp2_with fail
   go_loopg [5] v.length (fun P i2 z=>∃j:Nat,j<=v.length/\P=v.length-j/\i2=.int .i64 j/\kP z b y (jB y.length v N k j) y4 z4/\eK (fun k=>z4.blk=some k) H z)
   case atStart=>exact⟨0,by omega,by omega,rfl,A,Q⟩
   case round =>
    obtain⟨j,hj,al,rfl,a,m⟩:=hrel;clear A Q
    by_cases f:j<v.length
    ·have S:=l k d
     have ag:=l j f;have r:aw wr ⟨some ⟨g,0,none⟩,p⟩ (bB v):=E.Vf (fun x D=>m.block x (E.lt D) (fun e=>n x D e));have p1:=r.cell rfl k (.int .i64 v[k]) (jP v k d);have p2:=r.cell rfl j (.int .i64 v[j]) (jP v j f);obtain⟨c0,X⟩:=a.cells;rw[jV]at X;have J:=Cq y.length v N k j f;have T:v.getD k 0=v[k]:=by rw[QP,QO d];rfl
     rw[T]at J
     have c:v[k]*y.length+v[j]<N.length:=by
      rw[I];have:(v[k]+1)*y.length<=y.length*y.length:=Uq _ S;rw[Ub]at this;omega
     have O:v[k]*y.length<=10000*10000:=SJ (by omega) R;have w:=hI (fun K e=>a.mark K e (v[k]*y.length+v[j]) (by rw[jV];exact c));have s:=hI J
     rcases a.marks.ways with ⟨_,C,_⟩ | ⟨K,Y,B,o,u,-⟩
     ·have:(jB y.length v N k j).length=0:=C
      rw[jV]at this;omega
     ·have ac:N.length<=z4.cap:=by have:(jB y.length v N k j).length<=z4.cap:=u;rw[jV]at this;exact this
      have ad:=am o;have ax:=ae o;have p3:=a.marks.cell B (v[k]*y.length+v[j]) (.bool ((jB y.length v N k j)[v[k]*y.length+v[j]]'(by rw[jV];exact c))) (by simp[pT,sg,jV,c]);rw[B]at X;clear J o u r;generalize (jB y.length v N k j)[v[k]*y.length+v[j]]'(by rw[jV];exact c)=old at *;generalize D:v[k]=x at *;generalize hy:v[j]=az at *;obtain⟨q,V⟩:∃q,x*y.length=q:=⟨_,rfl⟩
      have ap:(x:Int)*(y.length:Int)=(q:Int):=by rw[<-V];simp
      rw[V]at c O p3 w s;clear D hy T;go_wp2_with fail
      go_quiet (fail)
      go_wp2
      go_roundg (v.length-(j+1))
      case measure=>omega
      case rel=>exact⟨j+1,by omega,rfl,by go_num,by rw[s.out];exact(w.out K B).Va ((ab.refl [] _).drewN nq),(m.Va ((ab.refl [] _).drewN nq)).setCell (Q0 (by unfold Hd.blk;rw[B];rfl)) _⟩
    ·have e:j=v.length:=by omega
     subst e;rw[HR.out]at a;go_wp2
     go_roundg (v.length-(k+1))
     case measure=>omega
     case rel=>exact⟨k+1,by omega,rfl,by go_num,a,m⟩
  ·have e:k=v.length:=by omega
   subst e;rw[Ey]at A;go_wp2;go_end0;exact⟨rfl,A,Q⟩
def eD(side:Nat)(ms:List Bool)(i j:Nat):Bool:=!(i==j)&&ms.getD (i*side+j) false
theorem zh(a:T<y5)(b:d<y5):T*y5+d<y5*y5:=by
 have:(T+1)*y5<=y5*y5:=Uq _ a;rw[Ub]at this;omega
theorem qe(h:kP H b y N z4 M)(g:N.length=y.length*y.length)(m:y.length<=10000)(u:x<y.length)(B:l<y.length) :
  Calls prog 215 #[.pointer (some ⟨b,0,none⟩),.int .i64 x,.int .i64 l] H fun e A=>e=.returned (.bool (eD y.length N x l))/\A=H:=by
 obtain⟨E,C⟩:=h.cells;have a:x*y.length+l<N.length:=by rw[g];exact zh u B
 have k:x*y.length<=10000*10000:=SJ (by omega) m
 rcases h.marks.ways with ⟨_,z,_⟩ | ⟨F,s,p,n,d,-⟩
 ·have:N.length=0:=z
  omega
 ·have t:N.length<=M.cap:=d
  have w:=h.marks.cell p (x*y.length+l) (.bool N[x*y.length+l]) (by simp[pT,sg,a]);have o:N.getD (x*y.length+l) false=N[x*y.length+l]:=by rw[QP,QO a];rfl
  have f:Hid (eD y.length N x l=(!(x==l)&&N[x*y.length+l])):=by show _=_;unfold eD;rw[o]
  rw[p]at C;generalize N[x*y.length+l]=j at *;obtain⟨q,r⟩:∃q,x*y.length=q:=⟨_,rfl⟩
  have D:(x:Int)*(y.length:Int)=(q:Int):=by rw[<-r];simp
  rw[r]at a k w;clear o n d h
  by_cases c:x=l
  ·have v:((x:Int) != (l:Int))=false:=by simp[c]
   have i:Hid (eD y.length N x l=false):=by show _=_;rw[f.out];simp[c]
   clear f;go_enter func215,ntmps215;go_wp2;go_ret;exact⟨aD i.out.symm,rfl⟩
  ·have v:((x:Int) != (l:Int))=true:=by simp;omega
   have i:Hid (eD y.length N x l=j):=by show _=_;rw[f.out];simp[c]
   clear f;go_enter func215,ntmps215;go_wp2;go_ret;exact⟨aD i.out.symm,rfl⟩
def sx(l:List St)(a n:Nat):Bool:=match l[n]? with | some s=>(s.kind==1)&&g7 l n a | none=>false
theorem Ni(h:l<w.length):sx w x l=((w[l].kind==1)&&g7 w l x):=by
 unfold sx;rw[QO h]
def de(l:List St)(a:Nat)(vs:List ByteArray):Nat->List Bool
 | 0=>List.replicate (vs.length*vs.length) false
 | k+1=>if sx l a k=true then lR vs.length (bD vs (symsAt l k)) (de l a vs k) else de l a vs k
def fN(l:List St)(a:Nat)(vs:List ByteArray):List Bool:=de l a vs l.length
theorem kn:(de w x n l).length=n.length*n.length:=by
 induction l with
 | zero=>simp[de]
 | succ l a =>
  rw[de]
  split
  ·unfold lR;rw[sS,a]
  ·exact a
theorem Gz(h:pt z5 yg=some T):T<z5.length:=by
 have:=Ry h;simpa using this
theorem sZ(h:l<(bD y0 n).length):(bD y0 n)[l]<y0.length:=by
 have a:=Ra h;unfold bD at a;rw[UD]at a;obtain⟨x,_,b⟩:=a;exact Gz b
theorem OT:(prog.info? 4).map (fun i=>(i.zero,i.size,i.bytes))=some (some (.bool false),1,1):=by kernel_rfl
theorem Cm:madeCells #[y8] l=(List.replicate l y8).toArray:=by
 apply Array.ext
 ·rw[Ss];simp
 ·intro i a b
  have h:i<l:=by rw[Ss]at a;exact a
  have:=Ai y8 l i h;rw[Array.getElem?_eq_getElem a]at this;simp at this ⊢;exact this
theorem ab.ofP(K:ab [] f i)(g:eK y6 i yd)(b:∀k,y6 k->f.heap.size<=k):ab [] f yd :=
 ⟨g.os.trans K.os,g.tape.trans K.tape,g.output.trans K.output,Q1 K.size g.size,fun k a _=>(g.block k (QW a K.size) (fun e=>by have:=b k e;omega)).trans (K.block k a (by simp))⟩
theorem DF(h:dF H D o w k)(ok:iH w)(hO:aw H M (aB n))(I:n.length<=10000) :
  Calls prog 209 #[.pointer (some ⟨D,o,none⟩),.int .i64 b,.slice M.ao n.length M.cap] H fun e w'=>∃(tb:Nat) (t p:Hd),e=.returned (.pointer (some ⟨tb,0,none⟩))/\kP w' tb n (fN w b n) t p/\H.heap.size<=tb/\(∀x,t.blk=some x∨p.blk=some x->H.heap.size<=x)/\ab [] H w':=by
 obtain⟨i0,hi,ap,S,a1⟩:=Rd js;obtain⟨i1,a2,al,ad,az⟩:=Rd OT;have a3:=ok.len;have a7:=h.lt;obtain⟨q,hq⟩:∃q,n.length*n.length=q:=⟨_,rfl⟩
 have ba:(n.length:Int)*(n.length:Int)=(q:Int):=by rw[<-hq];simp
 have a4:q<=10000*10000:=by rw[<-hq];exact SJ I I
 have m1:=fun H=>dB (P:=prog) H 61 9 i0 _ underlying61 hi ap n.length 1 S (by rw[a1];omega) (by omega)
 have m2:=fun H=>dB (P:=prog) H 134 4 i1 _ underlying134 a2 al q 1 ad (by rw[az];omega) (by omega)
 obtain⟨y,j⟩:∃mc,mc=madeCells (Value.string ⟨#[]⟩).cells (n.length*1):=⟨_,rfl⟩
 obtain⟨g,l⟩:∃mc,mc=madeCells (Value.bool false).cells (q*1):=⟨_,rfl⟩
 have z1:y.size=n.length*1:=by rw[j,Ss]
 have Q:Hid (g=(sg (de w b n 0)).toArray):=by
  show _=_
  rw[l,UY,<-hq];have:(Value.bool false).cells=#[.bool false]:=rfl;rw[this,Cm];simp[de,sg]
 rw[<-j]at m1;rw[<-l]at m2;clear j l;have K2:ab [] H (H.alloc (.cells y 9)):=(ab.refl [] _).alloc _;have A:Hid ((prog.info? (aB n).e).map (·.size)=some (aB n).size):=by show _=_;simp[aB,hi,S]
 obtain⟨d,T,K,Y,Z⟩:=tO (P:=prog) (H.alloc (.cells y 9)) 61 61 3 H.heap.size n.length M (aB n) y 9 underlying61 A.out (QR _ _) (hO.Vf (fun x s=>K2.block x (hO.lt s) (by simp))) z1 (lX _);simp only[aB]at T K;have z:d.heap.size=H.heap.size+1:=by rw[Z];simp
 have K3:ab [] H d:=((K2.mono (S':=[H.heap.size]) (by simp)).trans Y).mono (by simp);obtain⟨W4,f⟩:∃W4,W4=(d.alloc (.cells g 4)).alloc (.cells #[.slice (some ⟨H.heap.size,0,none⟩) n.length n.length,.slice (some ⟨d.heap.size,0,none⟩) q q] 327):=⟨_,rfl⟩
 have K4:ab [] H W4:=by rw[f];exact(K3.alloc _).alloc _
 have B:Hid (q=(de w b n 0).length):=by show _=_;rw[kn,hq]
 have A4:kP W4 (d.heap.size+1) n (de w b n 0) ⟨some ⟨H.heap.size,0,none⟩,n.length⟩ ⟨some ⟨d.heap.size,0,none⟩,q⟩:=by
  refine⟨?_,?_,?_,?_,?_,?_⟩
  ·rw[f,<-B.out]
   have:=QR (d.alloc (.cells g 4)) (.cells #[.slice (some ⟨H.heap.size,0,none⟩) n.length n.length,.slice (some ⟨d.heap.size,0,none⟩) q q] 327);simpa using this
  ·refine aw.made (r:=aB n) ?_ (C4 _) (by simp only[aB];unfold maxLen;omega)
   rw[f];exact(((ab.refl [] _).alloc _).alloc _).get K (by simp)
  ·have e:(⟨some ⟨d.heap.size,0,none⟩,q⟩:Hd)=⟨some ⟨d.heap.size,0,none⟩,(pT (de w b n 0)).n⟩:=by rw[B.out];rfl
   rw[e];refine aw.made (r:=pT (de w b n 0)) ?_ (yj _) (by simp only[pT];rw[<-B.out];unfold maxLen;omega);rw[f];have:=((ab.refl [] (d.alloc (.cells g 4))).alloc (.cells #[.slice (some ⟨H.heap.size,0,none⟩) n.length n.length,.slice (some ⟨d.heap.size,0,none⟩) q q] 327)).get (QR d (.cells g 4)) (by simp);rw[this,Q.out];rfl
  ·intro e;simp[Hd.blk]at e;omega
  ·intro e;simp[Hd.blk]at e
  ·right;intro e;simp[Hd.blk]at e;omega
 have E:=hI f.symm;rw[z]at E A4;clear f Y K Q K2 hO A z1 Z;obtain⟨t,G⟩:∃t:Hd,t=⟨some ⟨H.heap.size,0,none⟩,n.length⟩:=⟨_,rfl⟩
 obtain⟨p,J⟩:∃p:Hd,p=⟨some ⟨H.heap.size+1,0,none⟩,q⟩:=⟨_,rfl⟩
 rw[<-G,<-J]at A4
 have HB:Hid (∀x,t.blk=some x∨p.blk=some x->H.heap.size<=x/\x<=H.heap.size+1):=by
  intro x s;rw[G,J]at s;simp[Hd.blk]at s;omega
 clear G J;go_enter func209,ntmps209
 go_upto_region 4 with fail
 rw[E.out];clear E m1 m2 T K3 z;go_wp2
 go_loopg [9] w.length (fun gk i wr=>∃a:Nat,a<=w.length/\gk=w.length-a/\i=.int .i64 a/\kP wr (H.heap.size+1+1) n (de w b n a) t p/\ab [] H wr)
 case atStart=>exact⟨0,by omega,by omega,rfl,A4,K4⟩
 case round =>
  obtain⟨a,hk,hg,rfl,V,U⟩:=hrel;have C:=h.Va U;have a6:=V.lt;clear A4 K4
  by_cases c:a<w.length
  ·have N:=hI (Ni w b a c)
   have a5:=ok.syms a c;have bd:=ok.pos a c;have SY:Hid (symsAt w a=w[a].U5):=oc w a c;have L:Hid (de w b n (a+1)=if sx w b a=true then lR n.length (bD n (symsAt w a)) (de w b n a) else de w b n a):=rfl
   cases ac:(w[a].kind==1)
   ·have X:Hid (de w b n (a+1)=de w b n a):=by show _=_;rw[L.out,N.out,ac];simp
    clear N L SY;go_wp2_with (first | (go_at_call 80;refine(eM D o w k _ (by exact C)).mono ?_;rintro e wc ⟨rfl,rfl⟩) | (go_at_call 97;refine(a9 D o a w k _ (by exact C) c).mono ?_;rintro e w5 ⟨rfl,m⟩;unfold ee))
    go_roundg (w.length-(a+1))
    case measure=>omega
    case rel=>exact⟨a+1,by omega,rfl,by go_num,by rw[X.out];exact(V.Va m).Va ((ab.refl [] _).alloc _),(U.trans m).alloc _⟩
   ·go_wp2_with (first | (go_at_call 80;refine(eM D o w k _ (by exact C)).mono ?_;rintro e wc ⟨rfl,an⟩;rw[an]) | (go_at_call 97;refine(a9 D o a w k _ (by exact C) c).mono ?_;rintro e w5 ⟨rfl,m⟩;unfold ee))
    obtain⟨W,v⟩:∃W,W=w5.alloc (.cells #[.int .i64 w[a].kind,.string w[a].label,.slice (k (10+2*a)).ao w[a].U5.length (k (10+2*a)).cap,.slice (k (11+2*a)).ao w[a].proof.length (k (11+2*a)).cap,.string w[a].fin.file,.int .i64 w[a].fin.line,.int .i64 w[a].fin.col,.int .i64 w[a].til] 158):=⟨_,rfl⟩
    rw[<-v];have k6:ab [] wr W:=by rw[v];exact m.alloc _
    have B6:W.heap[w5.heap.size]?=some (.cells #[.int .i64 w[a].kind,.string w[a].label,.slice (k (10+2*a)).ao w[a].U5.length (k (10+2*a)).cap,.slice (k (11+2*a)).ao w[a].proof.length (k (11+2*a)).cap,.string w[a].fin.file,.int .i64 w[a].fin.line,.int .i64 w[a].fin.col,.int .i64 w[a].til] 158 (0,0)):=by rw[v];exact QR _ _
    have q2:W.cell? ⟨w5.heap.size,2,none⟩=some (.slice (k (10+2*a)).ao w[a].U5.length (k (10+2*a)).cap):=by rw[aa B6];rfl
    have F:=C.Va k6;have u:=V.Va k6;have O:=U.trans k6;have aT:=(F.sts.syms a w[a] (QO c)).view;clear v m k6 B6 C V U
    cases hh:g7 w a b
    ·have X:Hid (de w b n (a+1)=de w b n a):=by show _=_;rw[L.out,N.out,hh];simp
     clear N L SY;go_wp2_with (go_at_call 187;refine(gF D o a b w k _ (by exact F) c).mono ?_;rintro e w7 ⟨rfl,rfl⟩)
     go_roundg (w.length-(a+1))
     case measure=>omega
     case rel=>exact⟨a+1,by omega,rfl,by go_num,by rw[X.out];exact u,O⟩
    ·have X:Hid (de w b n (a+1)=lR n.length (bD n w[a].U5) (de w b n a)):=by show _=_;rw[L.out,N.out,ac,hh,SY.out];simp
     clear N L SY;go_wp2_with (first | (go_at_call 187;refine(gF D o a b w k _ (by exact F) c).mono ?_;rintro e w7 ⟨rfl,af⟩;rw[af]) | (go_at_call 238;refine(xL (H.heap.size+1+1) n (de w b n a) t p (k (10+2*a)) w[a].U5 _ (by exact u) (by omega) (by exact aT) (by omega)).mono ?_;rintro e w8 ⟨hd,rfl,ai,a0,R⟩));have ax:=u.Va R;have bc:=qS n w[a].U5
     refine(Cn (H.heap.size+1+1) n (de w b n a) t p hd (bD n w[a].U5) _ ax (kn _ _ _ _) I ai (by omega) (fun i hi=>sZ n w[a].U5 i hi) (by
      intro x s e;have h1:=a0 x s;have h2:=HB.out x (QU e);have h3:=u.lt
      omega)).mono ?_
     rintro e w9 ⟨rfl,ar,aS⟩;have ag:=(O.trans R).ofP aS (fun x s=>(HB.out x (QU s)).1);go_wp2
     go_roundg (w.length-(a+1))
     case measure=>omega
     case rel=>exact⟨a+1,by omega,rfl,by go_num,by rw[X.out];exact ar,ag⟩
  ·have e:a=w.length:=by omega
   subst e;go_wp2_with (go_at_call 80;refine(eM D o w k _ (by exact C)).mono ?_;rintro e wc ⟨rfl,rfl⟩);go_ret;exact⟨H.heap.size+1+1,t,p,rfl,V,by omega,fun x s=>(HB.out x s).1,U⟩
structure a8(w:World)(b t:Nat)(cs:List Value)(rows:Nat->dN)(H:Nat->Hd):Prop where
 blk:w.heap[b]?=some (.cells cs.toArray t (0,0))
 own:∀i,aw w (H i) (rows i)
 apart:∀i j,i≠j->(H i).blk=none∨(H i).blk≠(H j).blk
 off:∀i,(H i).blk≠some b
theorem a8.lt(h:a8 f T d g zt S):T<f.heap.size:=ae h.blk
theorem a8.inlt(h:a8 f T d g zt S)(a:f9 S y5):y5<f.heap.size:=by
 obtain⟨i,b⟩:=a;exact(h.own i).lt b
theorem a8.free(h:a8 f T d g zt S)(i:Nat):f.frozen? ⟨T,i,none⟩=false:=am h.blk i
theorem a8.cell(h:a8 f T d g zt S)(i:Nat):f.cell? ⟨T,i,none⟩=g[i]?:=by rw[aa h.blk];simp
theorem a8.keptP(h:a8 f T d g zt S)(c:eK y6 f i)(j:¬y6 T)(e:∀k,f9 S k->¬y6 k):a8 i T d g zt S :=
 ⟨c.get h.blk j,fun b=>(h.own b).Vf (fun k a=>c.block k ((h.own b).lt a) (e k ⟨b,a⟩)),h.apart,h.off⟩
theorem a8.kept(h:a8 f T d g zt S)(b:ab z6 f i)(e:T∉z6)(c:∀k,f9 S k->k∉z6):a8 i T d g zt S :=
 h.keptP (b.toP (P:=(·∈z6)) (fun _ a _=>a)) e c
theorem a8.Va(h:a8 f T d g zt S)(a:ab [] f i):a8 i T d g zt S:=h.kept a (by simp) (by simp)
theorem a8.put{rows':Nat->dN}(h:a8 f T d g zt S)(c m:Nat)(r:Hd)(D:aw i r (rows' m))(t:f.grownBy i (S m).blk)(b:r.blk=none∨r.blk=(S m).blk∨∃w,r.blk=some w/\f.heap.size<=w)(y:∀j,j≠m->rows' j=zt j)(u:Value) :
  a8 (i.setCell ⟨T,c,none⟩ u) T d (g.set c u) rows' (g9 S m r)/\aA T f S (i.setCell ⟨T,c,none⟩ u) (g9 S m r):=by
 have E:=h.lt;have z:i.heap[T]?=some (.cells g.toArray d (0,0)):=(t.block T E (fun e=>h.off m e.symm)).trans h.blk
 have s:∀j,(g9 S m r j).blk≠some T:=by
  intro j
  by_cases e:j=m
  ·subst e;rw[dh];intro v
   rcases b with b | b | ⟨w,b,o⟩
   ·rw[b]at v;cases v
   ·exact h.off j (b ▸ v)
   ·rw[b]at v;cases v;omega
  ·rw[bU _ _ _ _ e];exact h.off j
 refine⟨⟨?_,?_,?_,s⟩,⟨t.os,t.tape,t.output,by have:=t.size;simp[World.setCell];omega,?_⟩,?_⟩
 ·rw[ah z,Rt]
 ·intro j
  have q:aw i (g9 S m r j) (rows' j):=by
   by_cases e:j=m
   ·subst e;rw[dh];exact D
   ·rw[bU _ _ _ _ e,y j e]
    refine(h.own j).Vf (fun k n=>t.block k ((h.own j).lt n) ?_);intro x
    rcases h.apart j m e with a | a
    ·rw[a]at n;cases n
    ·exact a (n.trans x)
  refine q.Vf (fun k n=>Q3 _ _ _ _ ?_);rintro rfl;exact s j n
 ·intro j l p
  by_cases e:j=m
  ·subst e
   rw[dh,bU _ _ _ _ (fun e=>p e.symm)]
   rcases b with b | b | ⟨w,b,o⟩
   ·exact Q0 b
   ·rw[b];exact h.apart j l p
   ·right;rw[b];intro x;have:=(h.own l).lt x.symm;omega
  ·rw[bU _ _ _ _ e]
   by_cases B:l=m
   ·subst B
    rw[dh]
    rcases b with b | b | ⟨w,b,o⟩
    ·rw[b];cases (S j).blk <;> simp
    ·rw[b];exact h.apart j l p
    ·cases v:(S j).blk with
     | none=>exact Q0 rfl
     | some k=>right;rw[b];intro x;cases x;have:=(h.own j).lt v;omega
   ·rw[bU _ _ _ _ B];exact h.apart j l p
 ·intro k n A
  rw[Q3 _ _ _ _ (fun e=>A (Q0 e))];exact t.block k n (fun e=>A (QU ⟨m,e.symm⟩))
 ·intro k n
  obtain⟨j,e⟩:=n
  by_cases C:j=m
  ·subst C
   rw[dh]at e
   rcases b with b | b | ⟨w,b,o⟩
   ·rw[b]at e;cases e
   ·exact Q0 ⟨j,b ▸ e⟩
   ·rw[b]at e;cases e;exact QU o
  ·rw[bU _ _ _ _ C]at e
   exact Q0 ⟨j,e⟩
theorem a8.set(h:a8 f T d g zt S)(c:Nat)(u:Value) :
  a8 (f.setCell ⟨T,c,none⟩ u) T d (g.set c u) zt S/\aA T f S (f.setCell ⟨T,c,none⟩ u) S:=by
 refine⟨⟨?_,?_,h.apart,h.off⟩,(eK.refl _ _).setCell (Q0 (Q0 rfl)) _,fun _ a=>Q0 a⟩
 ·rw[ah h.blk,Rt]
 ·intro j
  refine(h.own j).Vf (fun k a=>Q3 _ _ _ _ ?_);rintro rfl;exact h.off j a
theorem a8.app{cs':List Value}{rows':Nat->dN}(h:a8 f T d g zt S)(c l b a m:Nat)(r:dN)(p:aw i ⟨some ⟨b,0,none⟩,a⟩ r)(t:r=rows' l)(n:f.grownBy i (S l).blk)(k:(S l).blk=some b∨f.heap.size<=b)(o:∀j,j≠l->rows' j=zt j)(s:Value)(u:g[c]?=some s)(v:g.set c (.slice (some ⟨b,0,none⟩) m a)=cs') :
  i.cell? ⟨T,c,none⟩=some s/\i.frozen? ⟨T,c,none⟩=false /\
  Hid (a8 (i.setCell ⟨T,c,none⟩ (.slice (some ⟨b,0,none⟩) m a)) T d cs' rows' (g9 S l ⟨some ⟨b,0,none⟩,a⟩) /\
   aA T f S (i.setCell ⟨T,c,none⟩ (.slice (some ⟨b,0,none⟩) m a)) (g9 S l ⟨some ⟨b,0,none⟩,a⟩)):=by
 have q:=(n.block T h.lt (fun e=>h.off l e.symm)).trans h.blk;subst t;subst v;refine⟨by rw[aa q];simpa using u,am q _,?_⟩
 exact h.put (rows':=rows') c l ⟨some ⟨b,0,none⟩,a⟩ p n
  (by
    rcases k with e | e
    ·exact QU (Q0 e.symm)
    ·exact QU (QU ⟨b,rfl,by simpa using e⟩)) o _
end Go.Proofs.YtpddjjabfbfifaaGreat
